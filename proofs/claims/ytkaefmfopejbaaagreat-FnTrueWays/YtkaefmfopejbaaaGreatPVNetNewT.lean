/-
  While bridges of a net are made: what is owned, and how it stays.
-/
import Derived.Test.YtkaefmfopejbaaaGreatPVK14
import Derived.Test.YtkaefmfopejbaaaGreatPVK18
namespace Go.Proofs.YtkaefmfopejbaaaGreat
set_option maxRecDepth 100000
set_option maxHeartbeats 16000000
open Go.RowKit

structure NnSt (w wr:World) (X:Nat) (la:Option Addr) (ln lc:Nat) (l:List LK) (ba:Option Addr) (bn bc:Nat) (bs:List BV):Prop where
 box:wr.heap[X]? = some (.cells #[.slice ba bn bc,.slice la ln lc,.slice none 0 0] 28)
 res:wr.heap[w.heap.size]? = some (.cells #[.slice none 0 0,.slice none 0 0,.slice none 0 0] 28)
 b:BOs wr (w.heap.size+1) ba bn bc bs
 l:wr.ownsRow (w.heap.size+1) 66 4 (.slice la ln lc) ln (linkF.all l)
 below:Below w.heap.size w wr
 lt:w.heap.size < X

theorem NnSt.later {w wr:World} {X:Nat} {la:Option Addr} {ln lc:Nat} {l:List LK} {ba:Option Addr} {bn bc:Nat} {bs:List BV} (h:NnSt w wr X la ln lc l ba bn bc bs) {w':World} (hb:Below wr.heap.size wr w'):NnSt w w' X la ln lc l ba bn bc bs :=
 ⟨za h.box hb,za h.res hb,h.b.below hb,zi h.l hb,zc h.below hb,h.lt⟩

theorem NnSt.size {w wr:World} {X:Nat} {la:Option Addr} {ln lc:Nat} {l:List LK} {ba:Option Addr} {bn bc:Nat} {bs:List BV} (h:NnSt w wr X la ln lc l ba bn bc bs):w.heap.size+1≤wr.heap.size:=zdg h.res

theorem NnSt.rows {w wr:World} {X:Nat} {la:Option Addr} {ln lc:Nat} {l:List LK} {ba:Option Addr} {bn bc:Nat} {bs:List BV} (h:NnSt w wr X la ln lc l ba bn bc bs) {w':World} (hg:wr.grownBy w' (Value.slice ba bn bc).ownBlock):w'.heap[X]? = some (.cells #[.slice ba bn bc,.slice la ln lc,.slice none 0 0] 28)∧w'.heap[w.heap.size]? = some (.cells #[.slice none 0 0,.slice none 0 0,.slice none 0 0] 28)∧w'.ownsRow (w.heap.size+1) 66 4 (.slice la ln lc) ln (linkF.all l)∧Below w.heap.size w w' :=
 ⟨ze h.box hg (fun k hk=>zt h.b.row h.box (by decide) k hk),ze h.res hg (fun k hk=>zt h.b.row h.res (by decide) k hk),zu h.l h.b.row (by decide) hg,h.below.grown hg h.below.size (by intro k hk; have:=(h.b.row.lt k hk).1; omega)⟩

theorem NnSt.push {w wr:World} {X:Nat} {la:Option Addr} {ln lc:Nat} {l:List LK} {ba:Option Addr} {bn bc:Nat} {bs:List BV} (h:NnSt w wr X la ln lc l ba bn bc bs) {w1 w2:World} (hb:Below wr.heap.size wr w1) {y:BV} (hy:y.Own w1 wr.heap.size) (hg:w1.grownBy w2 (Value.slice ba bn bc).ownBlock) {ao':Option Addr} {cap':Nat} (hr:w2.ownsRow (w.heap.size+1) 44 11 (.slice ao' (bn+1) cap') (bn+1) (brF.all (bs++[y]))) :
  w2.heap[X]? = some (.cells #[.slice ba bn bc,.slice la ln lc,.slice none 0 0] 28)∧Below w.heap.size w w2∧NnSt w (w2.setCell ⟨X,0,none⟩ (.slice ao' (bn+1) cap')) X la ln lc l ao' (bn+1) cap' (bs++[y]):=by
 have hp:=h.b.push hb hy h.size hg hr;obtain ⟨h1,h2,h3,h4⟩:=(h.later hb).rows hg;have hgx:w2.grownBy (w2.setCell ⟨X,0,none⟩ (.slice ao' (bn+1) cap')) (some X):=zj 0 _;have hlt:=h.lt;refine ⟨h1,h4, ?_,ze h2 hgx (by intro k e; cases e; omega),hp.boxed h1 hgx,zo h3 hgx (zt h3 h1 (by decide)),h4.grown hgx h4.size (by intro k e; cases e; omega),hlt⟩
 have:=zD (j:=0) h1 (.slice ao' (bn+1) cap')
 simpa using this

theorem NnSt.put {w wr:World} {X:Nat} {la:Option Addr} {ln lc:Nat} {l:List LK} {g bn bc:Nat} {pre post:List BV} {x y:BV} (h:NnSt w wr X la ln lc l (some ⟨g,0,none⟩) bn bc (pre++x::post)) {w1 w2:World} (hb:Below wr.heap.size wr w1) (hy:y.Own w1 wr.heap.size) (hg:w1.grownBy w2 (some g)) (hr:w2.ownsRow (w.heap.size+1) 44 11 (.slice (some ⟨g,0,none⟩) bn bc) bn (brF.all (pre++y::post))) :
  NnSt w w2 X la ln lc l (some ⟨g,0,none⟩) bn bc (pre++y::post):=by
 have hp:=h.b.put hb hy h.size hg hr;obtain ⟨h1,h2,h3,h4⟩:=(h.later hb).rows (w':=w2) hg;exact ⟨h1,h2,hp,h3,h4,h.lt⟩

theorem NnSt.out {w wr:World} {X:Nat} {la:Option Addr} {ln lc:Nat} {l:List LK} {ba:Option Addr} {bn bc:Nat} {bs:List BV} (h:NnSt w wr X la ln lc l ba bn bc bs):zaM (((wr.setCell ⟨w.heap.size,0,none⟩ (.slice ba bn bc)).setCell ⟨w.heap.size,1,none⟩ (.slice la ln lc)).setCell ⟨w.heap.size,2,none⟩ (.slice none 0 0)) w.heap.size ⟨ba,bn,bc,bs,la,ln,lc,l,none,0,0,[]⟩∧Below w.heap.size w (((wr.setCell ⟨w.heap.size,0,none⟩ (.slice ba bn bc)).setCell ⟨w.heap.size,1,none⟩ (.slice la ln lc)).setCell ⟨w.heap.size,2,none⟩ (.slice none 0 0)) :=
 ⟨((zaM.apart (M:=⟨ba,bn,bc,bs,la,ln,lc,l,none,0,0,[]⟩) ⟨h.b,h.l,rfl,rfl,rfl,rfl⟩ (zL (zL (zj 0 _) (zj 1 _)) (zj 2 _)) (by omega)).lt (by omega)),zy (zy (zy h.below (Nat.le_refl _) 0 _) (Nat.le_refl _) 1 _) (Nat.le_refl _) 2 _⟩

structure NewIs (ids:List Int) (ports:Int) (l:List LK) (M:NV):Prop where
 yes:NetOk (newBs ids ports) l []→M.bs.map BV.B=upBs ids ports∧M.ls=l
 no:¬NetOk (newBs ids ports) l []→M.bs=[]∧M.ls=[]
def zgV (ids:List Int) (ports:Int) (l:List LK) (w:World) (e:Ending) (w':World):Prop:=∃M:NV,e=.returned (.agg #[.slice M.ba M.bn M.bc,.slice M.la M.ln M.lc,.slice M.sa M.sn M.sc])∧zaM w' w.heap.size M∧NewIs ids ports l M∧Below w.heap.size w w'

theorem zh5 {ids:List Int} {ports:Int} {l:List LK} {w w':World} (h:¬NetOk (newBs ids ports) l []) (hb:Below w.heap.size w w'):zgV ids ports l w (.returned (.agg #[.slice none 0 0,.slice none 0 0,.slice none 0 0])) w' :=
 ⟨⟨none,0,0,[],none,0,0,[],none,0,0,[]⟩,rfl,⟨zaz _ _,World.ownsRow_nil _ _ _ _,rfl,rfl,rfl,rfl⟩,⟨fun k=>absurd k h,fun _=>⟨rfl,rfl⟩⟩,hb⟩

end Go.Proofs.YtkaefmfopejbaaaGreat
