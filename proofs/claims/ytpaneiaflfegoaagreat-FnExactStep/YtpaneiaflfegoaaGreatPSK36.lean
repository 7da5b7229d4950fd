/-
  Packed: StepIn StepDeed StepDelS StepDel.
-/
import Derived.Test.YtpaneiaflfegoaaGreatPSKW
import Derived.Test.YtpaneiaflfegoaaGreatPSBrStepI
import Derived.Test.YtpaneiaflfegoaaGreatPSK01
import Derived.Test.YtpaneiaflfegoaaGreatPSK27
import Derived.Test.YtpaneiaflfegoaaGreatPSK32
import Derived.Laws.EntriesVeiled
import Derived.Laws.OwnMore
import Derived.Deep.CutRange
namespace Go.Proofs.YtpaneiaflfegoaaGreat
set_option maxRecDepth 100000
set_option maxHeartbeats 16000000
open Go.RowKit

theorem BOs.boxedI {w w':World} {base:Nat} {ao:Option Addr} {n cap:Nat} {l:List BV} (h:BOs w base ao n cap l) {X:Nat} {cs:Array Value} (hX:w.heap[X]?=some (.cells cs 76)) (hg:w.grownBy w' (some X)):BOs w' base ao n cap l :=
 ⟨zw h.row hg (zz h.row hX (by decide)),fun x hx=>(h.item x hx).other hX (by decide) (by decide) (by decide) (by decide) hg,h.apart⟩

theorem NOwn.boxedI {w w':World} {base:Nat} {M:NV} (h:NOwn w base M) {X:Nat} {cs:Array Value} (hX:w.heap[X]?=some (.cells cs 76)) (hg:w.grownBy w' (some X)):NOwn w' base M :=
 ⟨h.b.boxedI hX hg,zw h.l hg (zz h.l hX (by decide)),zw h.s hg (zz h.s hX (by decide))⟩

structure NiSt (w:World) (base X:Nat) (M:NV):Prop where
 box:w.heap[X]?=some (.cells #[.slice M.ba M.bn M.bc,.slice M.la M.ln M.lc,.slice M.sa M.sn M.sc] 76)
 own:NOwn w base M
 le:base≤X

theorem NiSt.later {w w':World} {base X:Nat} {M:NV} (h:NiSt w base X M) (hb:Below w.heap.size w w'):NiSt w' base X M:=⟨za h.box hb,h.own.below hb,h.le⟩
theorem NiSt.size {w:World} {base X:Nat} {M:NV} (h:NiSt w base X M):base≤w.heap.size:=by have h1:=zaT h.box; have h2:=h.le; omega

theorem NiSt.put {w w1 w2:World} {base X g:Nat} {M:NV} {pre post:List BV} {x y:BV} (h:NiSt w base X M) (hba:M.ba=some ⟨g,0,none⟩) (hbs:M.bs=pre++x::post) (hb:Below w.heap.size w w1) (hy:y.Own w1 w.heap.size) (hg:w1.grownBy w2 (some g)) (hr:w2.ownsRow base 64 11 (.slice (some ⟨g,0,none⟩) M.bn M.bc) M.bn (brF.all (pre++y::post))) :
  NiSt w2 base X { M with bs:=pre++y::post }∧Below base w w2:=by
 have ob:BOs w base (some ⟨g,0,none⟩) M.bn M.bc (pre++x::post):=by have:=h.own.b; rw [hba,hbs] at this; exact this
 have hp:=ob.put hb hy h.size hg hr;have hrw:=(ob.below hb).row;have k1:=zf (za h.box hb) hg (fun k hk=>zz hrw (za h.box hb) (by decide) k hk);have ol:=zu (zi h.own.l hb) hrw (by decide) (v2:=.slice (some ⟨g,0,none⟩) M.bn M.bc) hg;have os:=zu (zi h.own.s hb) hrw (by decide) (v2:=.slice (some ⟨g,0,none⟩) M.bn M.bc) hg;have b1:Below base w w1:=hb.mono h.size;refine ⟨⟨k1,⟨by rw [hba]; exact hp,ol,os⟩,h.le⟩,b1.grown hg (Nat.le_trans h.size hb.size) (by intro k e; cases e; exact (ob.row.lt g rfl).1)⟩

theorem NiSt.pushS {w w1 w2:World} {base X:Nat} {M:NV} {s:SY} (h:NiSt w base X M) (hb:Below w.heap.size w w1) (hg:w1.grownBy w2 (Value.slice M.sa M.sn M.sc).ownBlock) {ao':Option Addr} {cap':Nat} (hr:w2.ownsRow base 105 7 (.slice ao' (M.sn+1) cap') (M.sn+1) (sayF.all (M.ss++[s]))) :
  w2.heap[X]?=some (.cells #[.slice M.ba M.bn M.bc,.slice M.la M.ln M.lc,.slice M.sa M.sn M.sc] 76)∧NiSt (w2.setCell ⟨X,2,none⟩ (.slice ao' (M.sn+1) cap')) base X { M with sa:=ao',sn:=M.sn+1,sc:=cap',ss:=M.ss++[s] }∧Below base w (w2.setCell ⟨X,2,none⟩ (.slice ao' (M.sn+1) cap')):=by
 have h1:=h.later hb;have hrw:=h1.own.s;have k1:=zf h1.box hg (fun k hk=>zz hrw h1.box (by decide) k hk);have ob:=h1.own.b.typed hrw hg;have ol:=zu h1.own.l hrw (by decide) hg;have hgx:w2.grownBy (w2.setCell ⟨X,2,none⟩ (.slice ao' (M.sn+1) cap')) (some X):=zl 2 _;have nb:=NOwn.boxedI (M:={ M with sa:=ao',sn:=M.sn+1,sc:=cap',ss:=M.ss++[s] }) ⟨ob,ol,hr⟩ k1 hgx;have b1:Below base w w1:=hb.mono h.size;have b2:=b1.grown hg (Nat.le_trans h.size hb.size) (by intro k hk; exact (hrw.lt k hk).1);have hle:=h.le;refine ⟨k1,⟨?_,nb,h.le⟩,b2.grown hgx (by have:=zaT k1; omega) (by intro k e; cases e; omega)⟩
 have:=zK (j:=2) k1 (.slice ao' (M.sn+1) cap')
 simpa using this

theorem NiSt.push {w w1 w2:World} {base X:Nat} {M:NV} (h:NiSt w base X M) (hb:Below w.heap.size w w1) {y:BV} (hy:y.Own w1 w.heap.size) (hg:w1.grownBy w2 (Value.slice M.ba M.bn M.bc).ownBlock) {ao':Option Addr} {cap':Nat} (hr:w2.ownsRow base 64 11 (.slice ao' (M.bn+1) cap') (M.bn+1) (brF.all (M.bs++[y]))) :
  w2.heap[X]?=some (.cells #[.slice M.ba M.bn M.bc,.slice M.la M.ln M.lc,.slice M.sa M.sn M.sc] 76)∧NiSt (w2.setCell ⟨X,0,none⟩ (.slice ao' (M.bn+1) cap')) base X { M with ba:=ao',bn:=M.bn+1,bc:=cap',bs:=M.bs++[y] }∧Below base w (w2.setCell ⟨X,0,none⟩ (.slice ao' (M.bn+1) cap')):=by
 have hp:=h.own.b.push hb hy h.size hg hr;have ho:=(h.own.below hb).rows hg hp;have hrw:=(h.own.b.below hb).row;have k1:=zf (za h.box hb) hg (fun k hk=>zz hrw (za h.box hb) (by decide) k hk);have b1:Below base w w1:=hb.mono h.size;have b2:=b1.grown hg (Nat.le_trans h.size hb.size) (by intro k hk; exact (hrw.lt k hk).1);have hgx:w2.grownBy (w2.setCell ⟨X,0,none⟩ (.slice ao' (M.bn+1) cap')) (some X):=zl 0 _;have hle:=h.le;refine ⟨k1,⟨?_,ho.boxedI k1 hgx,hle⟩,b2.grown hgx (by have:=zaT k1; omega) (by intro k e; cases e; omega)⟩
 have:=zK (j:=0) k1 (.slice ao' (M.bn+1) cap')
 simpa using this

theorem ziq (ao:Option Addr) (n cap:Nat) (l:List SY) (w:World) (h:GRow sayF w ao n cap l) (hn:n≤16777216) :
  Calls Tryz.prog 63 #[.slice ao n cap] w fun r w'=>∃ao' cap',r=.returned (.slice ao' n cap')∧w'.ownsRow w.heap.size 105 7 (.slice ao' n cap') n (sayF.all l)∧Below w.heap.size w w':=by
 cases ao with
 | none =>
  have hc0:=h.nil rfl;have hn0:n=0:=by have:=h.le; omega
  subst hc0 hn0;have hl:l=[]:=List.eq_nil_of_length_eq_zero h.size;subst hl;have heq:∀W,(binOp .eql 32 (.slice none 0 0) (.slice none 0 0)).run Tryz.prog W=.ok (.bool true) W:=fun _=>by kernel_rfl
  go_enter Tryz.func63,Tryz.ntmps63;go_wp2;go_ret;exact ⟨none,0,rfl,World.ownsRow_nil _ _ _ _,Below.refl _ _⟩
 | some a =>
  have heq:∀W,(binOp .eql 32 (.slice (some a) n cap) (.slice none 0 0)).run Tryz.prog W=.ok (.bool false) W:=fun _=>by kernel_rfl
  go_enter Tryz.func63,Tryz.ntmps63;go_wp2_with (at_builtin; refine zaa (F:=sayF) _ rfl _ _ 32 105 rfl w.heap.size Tryz.underlying32 zU rfl (by decide) _ 0 [] rfl (zaN sayF w _ 105 w.heap.size (zr w _) (Nat.le_refl _)) (some a) n cap l rfl (h.below (zm _ _)) (by omega) (by simp) ?_)
  intro ao' cap' w' how hr hgr hb;have how:w'.ownsRow w.heap.size 105 7 (.slice ao' n cap') n (sayF.all l):=how;have HO:=hide how;have HB:=hide ((zm w _).trans hb);clear how hgr hb hr;go_wp2;go_ret;exact ⟨ao',cap',(by simp),HO.out,HB.out⟩

theorem zco (M:NV) (base X:Nat) (w:World) (h:NiSt w base X M) :
  Calls Tryz.prog 70 #[.pointer (some ⟨X,0,none⟩)] w fun e w'=>e=.returned (.int .i64 (M.bn:Int))∧w'=w:=by
 obtain ⟨x0,x1,x2⟩:=zd h.box;go_enter Tryz.func70,Tryz.ntmps70;go_wp2;go_ret;exact ⟨rfl,rfl⟩

theorem zdD (M:NV) (base X:Nat) (w:World) (h:NiSt w base X M) :
  Calls Tryz.prog 72 #[.pointer (some ⟨X,0,none⟩)] w fun e w'=>e=.returned (.int .i64 (M.sn:Int))∧w'=w:=by
 obtain ⟨x0,x1,x2⟩:=zd h.box;go_enter Tryz.func72,Tryz.ntmps72;go_wp2;go_ret;exact ⟨rfl,rfl⟩

theorem zdb (M:NV) (base X:Nat) (w:World) (h:NiSt w base X M) :
  Calls Tryz.prog 75 #[.pointer (some ⟨X,0,none⟩)] w fun e w'=>e=.returned (.int .i64 (M.ln:Int))∧w'=w:=by
 obtain ⟨x0,x1,x2⟩:=zd h.box;go_enter Tryz.func75,Tryz.ntmps75;go_wp2;go_ret;exact ⟨rfl,rfl⟩

theorem zkh (w:World) :
  Calls Tryz.prog 35 #[.int .i64 1] w fun e w'=>e=.returned (.agg #[.func (.func 70) #[] #[],.func (.func 71) #[] #[]])∧Below w.heap.size w w':=by
 go_enter Tryz.func35,Tryz.ntmps35;go_wp2;exact bodyPost_ret (v:=.agg #[.func (.func 70) #[] #[],.func (.func 71) #[] #[]]) (by simp [results,Tryz.results35,go_sem]) rfl ⟨rfl,zN _ _ _⟩

theorem zki (w:World) :
  Calls Tryz.prog 35 #[.int .i64 2] w fun e w'=>e=.returned (.agg #[.func (.func 72) #[] #[],.func (.func 73) #[] #[]])∧Below w.heap.size w w':=by
 go_enter Tryz.func35,Tryz.ntmps35;go_wp2;exact bodyPost_ret (v:=.agg #[.func (.func 72) #[] #[],.func (.func 73) #[] #[]]) (by simp [results,Tryz.results35,go_sem]) rfl ⟨rfl,zN _ _ _⟩

theorem zkj (w:World) :
  Calls Tryz.prog 35 #[.int .i64 3] w fun e w'=>e=.returned (.agg #[.func (.func 72) #[] #[],.func (.func 74) #[] #[]])∧Below w.heap.size w w':=by
 go_enter Tryz.func35,Tryz.ntmps35;go_wp2;exact bodyPost_ret (v:=.agg #[.func (.func 72) #[] #[],.func (.func 74) #[] #[]]) (by simp [results,Tryz.results35,go_sem]) rfl ⟨rfl,zN _ _ _⟩

theorem zkk (w:World) :
  Calls Tryz.prog 35 #[.int .i64 4] w fun e w'=>e=.returned (.agg #[.func (.func 75) #[] #[],.func (.func 76) #[] #[]])∧Below w.heap.size w w':=by
 go_enter Tryz.func35,Tryz.ntmps35;go_wp2;exact bodyPost_ret (v:=.agg #[.func (.func 75) #[] #[],.func (.func 76) #[] #[]]) (by simp [results,Tryz.results35,go_sem]) rfl ⟨rfl,zN _ _ _⟩

theorem zkl (w:World) :
  Calls Tryz.prog 35 #[.int .i64 5] w fun e w'=>e=.returned (.agg #[.func (.func 75) #[] #[],.func (.func 77) #[] #[]])∧Below w.heap.size w w':=by
 go_enter Tryz.func35,Tryz.ntmps35;go_wp2;exact bodyPost_ret (v:=.agg #[.func (.func 75) #[] #[],.func (.func 77) #[] #[]]) (by simp [results,Tryz.results35,go_sem]) rfl ⟨rfl,zN _ _ _⟩

theorem zkm (w:World) :
  Calls Tryz.prog 35 #[.int .i64 6] w fun e w'=>e=.returned (.agg #[.func (.func 70) #[] #[],.func (.func 78) #[] #[]])∧Below w.heap.size w w':=by
 go_enter Tryz.func35,Tryz.ntmps35;go_wp2;exact bodyPost_ret (v:=.agg #[.func (.func 70) #[] #[],.func (.func 78) #[] #[]]) (by simp [results,Tryz.results35,go_sem]) rfl ⟨rfl,zN _ _ _⟩

theorem zdK {α:Type} {F:Flat α} {P:Program} {ops:Array Oper} {o:Oper} {a:Act} {w:World} {K:Act→World→Prop} {Q:Exit→Act→World→Prop} {E:Prop} (hgd:o.guard=none)
  (s x:Operand) (t T:TypeId) (ho:o.op=Op.call { callee:=Callee.builtin Builtin.append,args:=#[s,x],argTypes:=#[t,t] }) (base:Nat) {Z:Value} {by8:Nat}
  (ht:P.underlying t=some (TypeDesc.slice T)) (hinfo:(P.info? T).map (fun i=>(i.zero,i.size,i.bytes))=some (some Z,F.k,by8))
  (g n cap:Nat) (xs:List α) (hs:a.eval s=.slice (some ⟨g,0,none⟩) n cap) (hown:w.ownsRow base T F.k (.slice (some ⟨g,0,none⟩) n cap) n (F.all xs)) (ao:Option Addr) (m c:Nat) (zs:List α)
  (hx:a.eval x=.slice ao m c) (hrow:GRow F w ao m c zs) (hroom:n+m≤cap)
  (h:∀w',w'.ownsRow base T F.k (.slice (some ⟨g,0,none⟩) (n+m) cap) (n+m) (F.all (xs++zs))→w.grownBy w' (some g)→K (a.put o.dst (.slice (some ⟨g,0,none⟩) (n+m) cap)) w') :
  if Region.wanted o (yielded ops a.tmps)=true then Oper.wp P o a w K Q else E:=by
 have hw:Region.wanted o (yielded ops a.tmps)=true:=by simp [Region.wanted,hgd]
 rw [if_pos hw];obtain ⟨i0,hi,hz0,hz1,hz2⟩:=zaM hinfo;rcases ao with _ | ad
 ·have hc0:=hrow.nil rfl;have hm0:m=0:=by have:=hrow.le; omega
  subst hc0 hm0;have hz:zs=[]:=List.eq_nil_of_length_eq_zero hrow.size;subst hz;have hrun:=run_append_owned_none (P:=P) w base t o.type T i0 F.k ht hi (.slice (some ⟨g,0,none⟩) n cap) n (F.all xs) hown;have hk:K (a.put o.dst (.slice (some ⟨g,0,none⟩) n cap)) w:=by simpa using h w (by simpa using hown) (World.grownBy.refl _ _)
  unfold Oper.wp
  simp [execOp,ho,resolve,invoke,builtin,hs,hx,hrun,Result.andThen]
  exact hk
 ·have hnews:∀(j:Nat) (u:Value),(F.all zs)[j]?=some u→w.cell? (ad.add j)=some u:=by
   intro j u hu;rcases hrow.cell with h0 | ⟨b,off,e,_⟩
   ·have hl:=(List.getElem?_eq_some_iff.1 hu).1;rw [F.all_length,hrow.size,h0,Nat.zero_mul] at hl;omega
   ·cases e;exact hrow.news j u hu
  obtain ⟨w',hrun,r1,r2⟩:=run_append_fits (P:=P) w base t o.type T i0 F.k ht hi hz1 g n cap (F.all xs) hown ad m c (F.all zs) (by rw [F.all_length,hrow.size]) hnews (F.all_oneCell zs) hroom;have hk:=h w' (by rw [F.all_append]; exact r1) r2;unfold Oper.wp
  simp [execOp,ho,resolve,invoke,builtin,hs,hx,hrun,Result.andThen]
  exact hk

theorem zeD {w:World} {base g i cap m:Nat} {L:List SY} (h:w.ownsRow base 105 7 (.slice (some ⟨g,0,none⟩) i cap) i (sayF.all L)) (hm:i+(m+1)≤cap) (ty:TypeId) :
  ∃w',(∀c,(Builtin.clear_ #[32] ty #[.slice (some ⟨g,i*7,none⟩) (m+1) c]).run Tryz.prog w=.ok (.tuple #[]) w')∧w'.ownsRow base 105 7 (.slice (some ⟨g,0,none⟩) i cap) i (sayF.all L)∧w.grownBy w' (some g):=by
 have hl:L.length=i:=(zH (F:=sayF) h).size;obtain ⟨hlen,⟨hv,h0⟩ | ⟨g',cap',cur,hv,hg,hh,h1,h2,h3,h4⟩⟩:=h
 ·cases hv
 ·cases hv;have hz:∀w,(zeroValue 105).run Tryz.prog w=.ok (.agg #[.int .i64 0,.bool false,.int .i64 0,.int .i64 0,.int .i64 0,.int .i64 0,.int .i64 0]) w:=fun w=>by kernel_rfl
  let Z:=(Builtin.zeroCells #[Value.int .i64 0,.bool false,.int .i64 0,.int .i64 0,.int .i64 0,.int .i64 0,.int .i64 0] (m+1)).toList
  have hZl:Z.length=(m+1)*7:=by simp [Z,size_zeroCells]
  have hZ1:∀v∈Z,v.oneCell'=true:=by
   intro v hv;simp only [Z,Builtin.zeroCells,Array.toList_map,List.mem_map] at hv;obtain ⟨j,-,rfl⟩:=hv;rcases (show j % 7=0∨j % 7=1∨j % 7=2∨j % 7=3∨j % 7=4∨j % 7=5∨j % 7=6 by omega) with e | e | e | e | e | e | e <;> simp [e] <;> rfl
  have hfit:i*7+0+Z.length≤cur.size:=by rw [hZl,h3]; omega
  have hst:=run_storeCells_at (P:=Tryz.prog) g (i*7) 105 Z 0 cur w hh hfit hZ1;refine ⟨w.setRow g (cur.toList.take (i*7+0)++Z++cur.toList.drop (i*7+0+Z.length)).toArray,fun c => ?_, ?_, ?_⟩
  ·have hst':=hst;simp only [Z] at hst'
   simp [Builtin.clear_,run_underlying Tryz.underlying32,hz,Value.cells,hst',Z]
  ·refine ⟨hlen,.inr ⟨g,cap,_,rfl,hg,setRow_heap w g cur _ 105 _ hh,h1,h2, ?_, ?_⟩⟩
   ·simp
    rw [hZl]
    have:cur.toList.length=cap*7:=by simpa using h3
    simp at this ⊢
    omega
   ·have hcs:cur.toList.length=cap*7:=by simpa using h3
    have e1:(cur.toList.take (i*7+0)).length=i*7:=by rw [List.length_take]; omega
    rw [List.append_assoc,List.take_append_of_le_length (by omega),List.take_of_length_le (by omega),← h4,Nat.add_zero]
  ·refine ⟨rfl,rfl,rfl, ?_, ?_⟩
   ·simp [World.setRow]
   ·intro k hk hkg;rw [setRow_other _ _ _ _ (fun e=>hkg (by rw [e]))]

theorem zix {w:World} {base k:Nat} {e:TypeId} {a:Option Addr} {n cap:Nat} {xs:List Value} (h:w.ownsRow base e k (.slice a n cap) n xs) {i:Nat} (hi:i≤n):w.ownsRow base e k (.slice a i cap) i (xs.take (i*k)):=by
 have hik:i*k≤n*k:=Nat.mul_le_mul_right _ hi;obtain ⟨hl,⟨hv,h0⟩ | ⟨g,cap',cur,hv,hg,hh,h1,h2,h3,h4⟩⟩:=h
 ·cases hv
  have:i=0:=by omega
  subst this;exact ⟨by simp,.inl ⟨rfl,rfl⟩⟩
 ·cases hv;refine ⟨by rw [List.length_take,hl]; omega,.inr ⟨g,cap,cur,rfl,hg,hh,by omega,h2,h3, ?_⟩⟩;rw [← h4,List.take_take,Nat.min_eq_left hik]

theorem zjN (l:List SY) (i:Nat):(sayF.all l).take (i*7)=sayF.all (l.take i):=by
 induction l generalizing i with
 | nil=>simp [Flat.all]
 | cons x l ih =>
  cases i with
  | zero=>simp [Flat.all]
  | succ i =>
   rw [sayF.all_cons,List.take_succ_cons,sayF.all_cons,← ih i];have h3:(sayF.cs x).length=7:=rfl;rw [List.take_append,h3,show (i+1)*7 - 7=i*7 by omega,List.take_of_length_le (by rw [h3]; omega)]

theorem zfS (base g n cap k:Nat) (l:List SY) (w:World) (how:w.ownsRow base 105 7 (.slice (some ⟨g,0,none⟩) n cap) n (sayF.all l)) (hk:k < n) (hn:n≤16777216) :
  Calls Tryz.prog 127 #[.slice (some ⟨g,0,none⟩) n cap,.int .i64 (k:Int),.int .i64 ((k:Int)+1)] w fun e w'=>e=.returned (.slice (some ⟨g,0,none⟩) (n - 1) cap)∧w'.ownsRow base 105 7 (.slice (some ⟨g,0,none⟩) (n - 1) cap) (n - 1) (sayF.all (l.take k++l.drop (k+1)))∧w.grownBy w' (some g):=by
 have hrow:=zH (F:=sayF) how;have hle:=hrow.le;have htop:=hrow.top;unfold maxLen at htop;have HTK:Hid (w.ownsRow base 105 7 (.slice (some ⟨g,0,none⟩) k cap) k (sayF.all (l.take k))):=hide (by
  have:=zix how (Nat.le_of_lt hk)
  rw [zjN] at this;exact this)
 have HDR:Hid (GRow sayF w (if cap=k+1 then some ⟨g,0,none⟩ else some ⟨g,(k+1)*7,none⟩) (n - (k+1)) (cap - (k+1)) (l.drop (k+1))):=hide (hrow.drop70 (show k+1≤n by omega));have i1:(0:Int)≤(k:Int):=by omega
 have i2:(k:Int)≤(k:Int)+1:=by omega
 have i3:(k:Int)+1≤(n:Int):=by omega
 have i4:(n:Int)≤(cap:Int):=by omega
 have i5:¬n=k:=by omega
 have i6:(k:Int)≤(cap:Int):=by omega
 have i7:(0:Int)≤(k:Int)+1:=by omega
 have i8:¬(k:Int)=(k:Int)+1:=by omega
 have i9:IntKind.i64.wrap ((k:Int)+1)=(k:Int)+1:=by rw [IntKind.wrap_i64]; omega
 have i10:((k:Int)+1).toNat=k+1:=by omega
 clear how hrow;go_enter Tryz.func127,Tryz.ntmps127;go_upto_region 5 with fail
 refine wp_region_held_drew (S:=(fun _=>True)) (by kernel_rfl) (trivial) (fun hHeld => ?_);refine kK 0 ⟨some 20,.move (.tmp 0),32,"slices.go:232",#[],none⟩ ?_;refine kK 1 ⟨some 21,.move (.tmp 1),3,"slices.go:232",#[],none⟩ ?_;refine kK 2 ⟨some 22,.slice 32 (.tmp 20) none (some (.tmp 21)) none,32,"slices.go:232",#[⟨0,.data⟩,⟨1,.data⟩],none⟩ ?_;refine kK 3 ⟨some 23,.move (.tmp 0),32,"slices.go:232",#[],none⟩ ?_;refine kK 4 ⟨some 24,.move (.tmp 2),3,"slices.go:232",#[],none⟩ ?_;refine kK 5 ⟨some 25,.slice 32 (.tmp 23) (some (.tmp 24)) none none,32,"slices.go:232",#[⟨3,.data⟩,⟨4,.data⟩],none⟩ ?_;refine kR 6 ⟨some 26,.call ⟨.builtin .append,#[.tmp 22,.tmp 25],#[32,32]⟩,32,"slices.go:232",#[⟨2,.data⟩,⟨5,.data⟩],none⟩ (fun K hK => ?_);refine zdK (F:=sayF) rfl _ _ 32 105 rfl base Tryz.underlying32 zU g k cap (l.take k) rfl (zi HTK.out (zq (Below.refl _ _))) _ (n - (k+1)) (cap - (k+1)) (l.drop (k+1)) rfl (HDR.out.below (zq (Below.refl _ _))) (by omega) ?_;intro wx how hgr;rw [show k+(n - (k+1))=n - 1 by omega] at how ⊢;refine hK.out _ _ (trivial) (fun hHeld => ?_);clear hK K
 try simp only [Act.put,lA,lB,lC]
 refine tK (v := ?_) 7 ⟨some 0,.assign (.tmp 26),32,"slices.go:232",#[⟨6,.data⟩,⟨6,.chain⟩,⟨0,.phase⟩,⟨1,.phase⟩,⟨2,.phase⟩,⟨3,.phase⟩,⟨4,.phase⟩,⟨5,.phase⟩,⟨6,.phase⟩],none⟩ ?_ ?_;rotate_left
 ·(intro _ h; (try dsimp only at h); go_simp; try with_reducible rfl)
 simp only [Act.put,List.setIfInBounds_toArray,List.set_cons_zero];refine wpAnyH_done (by kernel_rfl) ?_ _;have vv:=hgr;obtain ⟨wc,hrun,hO,hgr2⟩:=zeD (m:=0) how (by omega) 0;have HO:=hide hO;have HG:=hide (zgX (zq (Below.refl _ w)) (zA hgr hgr2));have c1:(0:Int)≤((n - 1:Nat):Int):=by omega
 have c2:((n - 1:Nat):Int)≤(n:Int):=by omega
 have c3:¬cap=n - 1:=by omega
 have c4:(n:Int)≤(cap:Int):=by omega
 have c5:n - (n - 1)=0+1:=by omega
 have c6:(n:Int).toNat - ((n - 1:Nat):Int).toNat=0+1:=by omega
 clear hHeld how hgr hgr2 hO vv HTK HDR;by_cases hc:cap=k+1
 ·subst hc;go_wp2;go_ret;exact ⟨rfl,HO.out,HG.out⟩
 ·go_wp2;go_ret;exact ⟨rfl,HO.out,HG.out⟩

abbrev q389:Oper:=⟨some 7,.move (.tmp 0),73,"l14_step.go:149",#[],none⟩
abbrev q390:Oper:=⟨some 8,.nilCheck (.tmp 7),0,"l14_step.go:149",#[⟨0,.data⟩],none⟩
abbrev q391:Oper:=⟨some 9,.fieldAddr 76 (.tmp 8) 0,0,"l14_step.go:149",#[⟨1,.data⟩],none⟩
abbrev q392:Oper:=⟨some 10,.load 34 (.tmp 9),34,"l14_step.go:149",#[⟨2,.data⟩],none⟩
abbrev q393:Oper:=⟨some 11,.fieldAddr 105 (.tmp 3) 0,0,"l14_step.go:149",#[],none⟩
abbrev q394:Oper:=⟨some 12,.load 3 (.tmp 11),3,"l14_step.go:149",#[⟨4,.data⟩],none⟩
abbrev q395:Oper:=⟨some 13,.call ⟨.value (.func 123),#[.tmp 10,.tmp 12],#[34,3]⟩,4,"l14_step.go:149",#[⟨3,.data⟩,⟨5,.data⟩],none⟩
abbrev q396:Oper:=⟨some 14,.unOp .not 4 (.tmp 13),4,"l14_step.go:149",#[⟨6,.data⟩],none⟩
abbrev q397:Oper:=⟨some 27,.call ⟨.value (.func 156),#[.tmp 24,.tmp 26],#[98,4]⟩,206,"l14_step.go:152",#[⟨8,.data⟩,⟨10,.data⟩],none⟩
abbrev q398:Oper:=⟨some 15,.move (.tmp 27),206,"l14_step.go:152",#[⟨11,.data⟩],none⟩
abbrev q399:Oper:=⟨some 28,.extract (.tmp 15) 0,164,"l14_step.go:152",#[⟨12,.data⟩],none⟩
abbrev q400:Oper:=⟨some 29,.extract (.tmp 15) 1,164,"l14_step.go:152",#[⟨12,.data⟩,{ on:=17,ground:=Ground.gcOnly Departure.lateStores }],none⟩
abbrev q401:Oper:=⟨some 4,.alloc 164,0,"l14_step.go:152",#[],none⟩
abbrev q402:Oper:=⟨some 5,.alloc 164,0,"l14_step.go:152",#[],none⟩
abbrev q403:Oper:=⟨none,.store 164 (.tmp 4) (.tmp 28),0,"l14_step.go:152",#[⟨15,.data⟩,⟨13,.data⟩,⟨11,.chain⟩,⟨0,.phase⟩,⟨1,.phase⟩,⟨2,.phase⟩,⟨3,.phase⟩,⟨4,.phase⟩,⟨5,.phase⟩,⟨6,.phase⟩,⟨7,.phase⟩,⟨8,.phase⟩,⟨9,.phase⟩,⟨10,.phase⟩,⟨11,.phase⟩,⟨12,.phase⟩,⟨13,.phase⟩,{ on:=14,ground:=Ground.textOnly Departure.lateStores },⟨15,.phase⟩,⟨16,.phase⟩],none⟩
abbrev q404:Oper:=⟨none,.store 164 (.tmp 5) (.tmp 29),0,"l14_step.go:152",#[⟨16,.data⟩,⟨14,.data⟩,⟨17,.chain⟩,⟨0,.phase⟩,⟨1,.phase⟩,⟨2,.phase⟩,⟨3,.phase⟩,⟨4,.phase⟩,⟨5,.phase⟩,⟨6,.phase⟩,⟨7,.phase⟩,⟨8,.phase⟩,⟨9,.phase⟩,⟨10,.phase⟩,⟨11,.phase⟩,⟨12,.phase⟩,⟨13,.phase⟩,⟨14,.phase⟩,⟨15,.phase⟩,⟨16,.phase⟩,⟨17,.phase⟩],none⟩

def BR.Rg (B:BR):Prop:=(∀x∈B.f,x.Rng)∧∀r∈B.v.rows,r.Rng

theorem zit (M:NV) (base X k:Nat) (back:Bool) (v:VD) (w:World) (h:NiSt w base X M) (hu:zaj M.brs M.ls (k:Int)=false) :
  Calls Tryz.prog 126 #[.pointer (some ⟨X,0,none⟩),.agg #[.int .i64 (k:Int),.bool back,.int .i64 v.r,.int .i64 v.c,.int .i64 v.h,.int .i64 v.b,.int .i64 v.p]] w fun e w'=>e=.returned (.tuple #[])∧NiSt w' base X M∧Below base w w':=by
 have HU:=hide hu;clear hu;generalize hw1:w.alloc (Obj.cells #[.int .i64 (k:Int),.bool back,.int .i64 v.r,.int .i64 v.c,.int .i64 v.h,.int .i64 v.b,.int .i64 v.p] 105)=w1;have b01:=zb hw1;have kS:=zk hw1;have HZ1:Hid (w1.heap.size=w.heap.size+1):=hide (by rw [← hw1]; simp);have HSZ:=hide h.size;have st:=h.later b01;have HB1:=hide (b01.mono h.size);clear h b01;go_enter Tryz.func126,Tryz.ntmps126;go_upto_region 1 with fail
 clear hw1;have vv:Below w1.heap.size w1 w1.drew:=zq (Below.refl _ _);refine wp_region_held_drew (S:=(fun W=>(W.cell? ⟨X,0,none⟩=some (.slice M.ba M.bn M.bc)∧W.cell? ⟨X,1,none⟩=some (.slice M.la M.ln M.lc)∧W.cell? ⟨X,2,none⟩=some (.slice M.sa M.sn M.sc))∧(W.cell? ⟨w.heap.size,0,none⟩=some (.int .i64 (k:Int))∧W.cell? ⟨w.heap.size,1,none⟩=some (.bool back)∧W.cell? ⟨w.heap.size,2,none⟩=some (.int .i64 v.r)∧W.cell? ⟨w.heap.size,3,none⟩=some (.int .i64 v.c)∧W.cell? ⟨w.heap.size,4,none⟩=some (.int .i64 v.h)∧W.cell? ⟨w.heap.size,5,none⟩=some (.int .i64 v.b)∧W.cell? ⟨w.heap.size,6,none⟩=some (.int .i64 v.p)))) (by kernel_rfl) (⟨zd (za st.box vv),zV (za kS vv)⟩) (fun hHeld => ?_);refine kK 0 q389 ?_;refine kK 1 q390 ?_;refine kK 2 q391 ?_;refine kK 3 q392 ?_;refine kK 4 q393 ?_;refine kK 5 q394 ?_;refine kR 6 q395 (fun K hK => ?_);go_simp;refine (zba M (k:Int) _ (st.own.below vv).row).mono ?_;rintro e wz ⟨rfl,hbz⟩;rw [HU.out];have vv:=zc vv hbz;go_wp2_with fail
 refine hK.out _ _ (⟨zd (za st.box vv),zV (za kS vv)⟩) (fun hHeld => ?_);clear hK K
 try simp only [Act.put,lA,lB,lC]
 refine kK 7 q396 ?_;refine wpAnyH_done (by kernel_rfl) ?_ _;have HST:=hide (st.later vv);have HB:=hide (HB1.out.trans (vv.mono st.size));clear hHeld st vv kS;go_wp2;exact bodyPost_ret (v:=.tuple #[]) (by simp [results,Tryz.results126,go_sem, *]) rfl ⟨rfl,HST.out,HB.out⟩

theorem zdY (M:NV) (base X k i:Nat) (back:Bool) (v:VD) (x:LK) (y:BV) (fb fp tp:Int) (w:World) (h:NiSt w base X M) (hu:zaj M.brs M.ls (k:Int)=true) (hx:M.ls[k]?=some x) (hway:Way x back fb fp (i:Int) tp) (hy0:M.bs[i]?=some y) (hsm:y.Small20) (hrg:y.B.Rg) :
  Calls Tryz.prog 126 #[.pointer (some ⟨X,0,none⟩),.agg #[.int .i64 (k:Int),.bool back,.int .i64 v.r,.int .i64 v.c,.int .i64 v.h,.int .i64 v.b,.int .i64 v.p]] w fun e w'=>e=.returned (.tuple #[])∧∃y2:BV,y2.B=hearB y.B tp v∧NiSt w' base X { M with bs:=M.bs.set i y2 }∧Below base w w':=by
 obtain ⟨ba,bn,bc,bs,la,ln,lc,ls,sa,sn,sc,ss⟩:=M;obtain ⟨xa,xp,xb,xq⟩:=x;have HU:=hide hu;dsimp only at hx hy0 ⊢;have hk:k < ln:=by have h1:=(List.getElem?_eq_some_iff.1 hx).1; have h2:ls.length=ln:=h.own.row.l.size; omega
 have hib:i < bn:=by have h1:=(List.getElem?_eq_some_iff.1 hy0).1; have h2:bs.length=bn:=h.own.b.grow.size; omega
 have hle:bn≤9223372036854775807:=by have h1:=Nat.le_trans h.own.b.grow.le h.own.b.grow.top; unfold maxLen at h1; exact h1
 obtain ⟨g,hg⟩:∃g,ba=some ⟨g,0,none⟩:=za5 h.own.b.row (show 0 < bn by omega);subst hg;obtain ⟨x',lb,lo,hx',hla,-⟩:=zaw h.own.row.l k hk;dsimp only at hx' hla;subst hla;clear hx';obtain ⟨pre,post,hsp,hpl,hset⟩:=zbO hy0;have HSET:=hide hset;have HPL:=hide hpl;subst hsp;have HG:Hid (g < w.heap.size):=hide (h.own.b.row.lt g rfl).2;have HAT:Hid ((pre++y::post)[i]?=some y):=hide hy0;have HSM:=hide hsm;have HRG:=hide hrg;have HLK:=hide hx;have HWAY:=hide hway;clear hset hpl hy0 hsm hrg hx hway hu;have i1:(0:Int)≤(k:Int):=by omega
 have i2:(k:Int) < (ln:Int):=by omega
 generalize hw1:w.alloc (Obj.cells #[.int .i64 (k:Int),.bool back,.int .i64 v.r,.int .i64 v.c,.int .i64 v.h,.int .i64 v.b,.int .i64 v.p] 105)=w1;have b01:=zb hw1;have kS:=zk hw1;have HZ1:Hid (w1.heap.size=w.heap.size+1):=hide (by rw [← hw1]; simp);have HSZ:=hide h.size;have st:=h.later b01;have HB1:=hide (b01.mono h.size);clear h b01;go_enter Tryz.func126,Tryz.ntmps126;go_upto_region 1 with fail
 clear hw1;have vv:Below w1.heap.size w1 w1.drew:=zq (Below.refl _ _);refine wp_region_held_drew (S:=(fun W=>(W.cell? ⟨X,0,none⟩=some (.slice (some ⟨g,0,none⟩) bn bc)∧W.cell? ⟨X,1,none⟩=some (.slice (some ⟨lb,lo,none⟩) ln lc)∧W.cell? ⟨X,2,none⟩=some (.slice sa sn sc))∧(W.cell? ⟨w.heap.size,0,none⟩=some (.int .i64 (k:Int))∧W.cell? ⟨w.heap.size,1,none⟩=some (.bool back)∧W.cell? ⟨w.heap.size,2,none⟩=some (.int .i64 v.r)∧W.cell? ⟨w.heap.size,3,none⟩=some (.int .i64 v.c)∧W.cell? ⟨w.heap.size,4,none⟩=some (.int .i64 v.h)∧W.cell? ⟨w.heap.size,5,none⟩=some (.int .i64 v.b)∧W.cell? ⟨w.heap.size,6,none⟩=some (.int .i64 v.p)))) (by kernel_rfl) (⟨zd (za st.box vv),zV (za kS vv)⟩) (fun hHeld => ?_);refine kK 0 q389 ?_;refine kK 1 q390 ?_;refine kK 2 q391 ?_;refine kK 3 q392 ?_;refine kK 4 q393 ?_;refine kK 5 q394 ?_;refine kR 6 q395 (fun K hK => ?_);go_simp;refine (zba ⟨some ⟨g,0,none⟩,bn,bc,pre++y::post,some ⟨lb,lo,none⟩,ln,lc,ls,sa,sn,sc,ss⟩ (k:Int) _ (st.own.below vv).row).mono ?_;rintro e wz ⟨rfl,hbz⟩;rw [HU.out];have vv:=zc vv hbz;go_wp2_with fail
 refine hK.out _ _ (⟨zd (za st.box vv),zV (za kS vv)⟩) (fun hHeld => ?_);clear hK K
 try simp only [Act.put,lA,lB,lC]
 refine kK 7 q396 ?_;refine wpAnyH_done (by kernel_rfl) ?_ _;have HB2:=hide (HB1.out.trans (vv.mono st.size));have st2:=st.later vv;have kS2:=za kS vv;have HZ2:Hid (w.heap.size < wz.heap.size):=hide (by have:=vv.size; have:=HZ1.out; omega);obtain ⟨w2,hw2⟩:∃u,u=wz:=⟨_,rfl⟩;subst hw2;clear hHeld st kS vv hbz HB1 HZ1;have st:=st2;have kS:=kS2;clear st2 kS2;have HLC:Hid (∀W,Below w2.heap.size w2 W→W.cell? ⟨lb,lo+k*4,none⟩=some (.int .i64 xa)∧W.cell? ⟨lb,lo+k*4+1,none⟩=some (.int .i64 xp)∧W.cell? ⟨lb,lo+k*4+2,none⟩=some (.int .i64 xb)∧W.cell? ⟨lb,lo+k*4+3,none⟩=some (.int .i64 xq)):=hide (fun W hW=>by
  have h2:GRow linkF w2 (some ⟨lb,lo,none⟩) ln lc ls:=st.own.row.l
  have:=zdt h2 hW HLK.out
  simpa using this)
 go_upto_region 2 with fail
 go_cut [4,5] from 15 to 29 (fun _ u wx=>∃Y:Nat,u=.pointer (some ⟨Y,0,none⟩)∧NiSt wx base X ⟨some ⟨g,0,none⟩,bn,bc,pre++y::post,some ⟨lb,lo,none⟩,ln,lc,ls,sa,sn,sc,ss⟩∧wx.heap[w.heap.size]?=some (.cells #[.int .i64 (k:Int),.bool back,.int .i64 v.r,.int .i64 v.c,.int .i64 v.h,.int .i64 v.b,.int .i64 v.p] 105)∧wx.heap[Y]?=some (.cells #[.int .i64 (i:Int),.int .i64 tp] 164)∧w.heap.size < Y∧Below base w wx)
 case first =>
  have vv:Below w2.heap.size w2 w2.drew:=zq (Below.refl _ _);refine wp_region_held_drew (S:=(fun W=>(W.cell? ⟨X,0,none⟩=some (.slice (some ⟨g,0,none⟩) bn bc)∧W.cell? ⟨X,1,none⟩=some (.slice (some ⟨lb,lo,none⟩) ln lc)∧W.cell? ⟨X,2,none⟩=some (.slice sa sn sc))∧(W.cell? ⟨w.heap.size,0,none⟩=some (.int .i64 (k:Int))∧W.cell? ⟨w.heap.size,1,none⟩=some (.bool back)∧W.cell? ⟨w.heap.size,2,none⟩=some (.int .i64 v.r)∧W.cell? ⟨w.heap.size,3,none⟩=some (.int .i64 v.c)∧W.cell? ⟨w.heap.size,4,none⟩=some (.int .i64 v.h)∧W.cell? ⟨w.heap.size,5,none⟩=some (.int .i64 v.b)∧W.cell? ⟨w.heap.size,6,none⟩=some (.int .i64 v.p))∧(W.cell? ⟨lb,lo+k*4,none⟩=some (.int .i64 xa)∧W.cell? ⟨lb,lo+k*4+1,none⟩=some (.int .i64 xp)∧W.cell? ⟨lb,lo+k*4+2,none⟩=some (.int .i64 xb)∧W.cell? ⟨lb,lo+k*4+3,none⟩=some (.int .i64 xq)))) (by kernel_rfl) (⟨zd (za st.box vv),zV (za kS vv),HLC.out _ vv⟩) (fun hHeld => ?_);refine kK 0 ⟨some 16,.move (.tmp 0),73,"l14_step.go:152",#[],none⟩ ?_;refine kK 1 ⟨some 17,.nilCheck (.tmp 16),0,"l14_step.go:152",#[⟨0,.data⟩],none⟩ ?_;refine kK 2 ⟨some 18,.fieldAddr 76 (.tmp 17) 0,0,"l14_step.go:152",#[⟨1,.data⟩],none⟩ ?_;refine kK 3 ⟨some 19,.fieldAddr 34 (.tmp 18) 1,0,"l14_step.go:152",#[⟨2,.data⟩],none⟩ ?_;refine kK 4 ⟨some 20,.load 31 (.tmp 19),31,"l14_step.go:152",#[⟨3,.data⟩],none⟩ ?_;refine kK 5 ⟨some 21,.fieldAddr 105 (.tmp 3) 0,0,"l14_step.go:152",#[],none⟩ ?_;refine kK 6 ⟨some 22,.load 3 (.tmp 21),3,"l14_step.go:152",#[⟨5,.data⟩],none⟩ ?_;refine kK 7 ⟨some 23,.indexAddr 31 (.tmp 20) (.tmp 22),0,"l14_step.go:152",#[⟨4,.data⟩,⟨6,.data⟩],none⟩ ?_;refine kK 8 ⟨some 24,.load 98 (.tmp 23),98,"l14_step.go:152",#[⟨7,.data⟩],none⟩ ?_;refine kK 9 ⟨some 25,.fieldAddr 105 (.tmp 3) 1,0,"l14_step.go:152",#[],none⟩ ?_;refine kK 10 ⟨some 26,.load 4 (.tmp 25),4,"l14_step.go:152",#[⟨9,.data⟩],none⟩ ?_;refine tR [11,15,16] ?_;refine AllReadyH.cons (o:=q397) rfl (fun K hK => ?_) ?_
  ·go_simp;refine (zcb ⟨xa,xp,xb,xq⟩ back fb fp (i:Int) tp _ HWAY.out).mono ?_;rintro e wz ⟨rfl,hbz⟩;(try have kA:=za kA hbz);(try have kC:=za kC hbz);have vv:=zc vv hbz;(go_wp2_with fail);refine hK.out _ _ (⟨zd (za st.box vv),zV (za kS vv),HLC.out _ vv⟩) (fun hHeld => ?_);clear hK K;(try simp only [Act.put,lA,lB,lC]);refine kK 12 q398 ?_;refine kK 13 q399 ?_;refine kK 14 q400 ?_;refine tR [15,16] ?_;refine AllReadyH.cons (o:=q401) rfl (fun K hK => ?_) ?_
   ·go_simp
    first
    | refine zt (K:=K _) (fun wx4 kA hbx => ?_)
    | refine zo (K:=K _) (fun wx4 kA hbx => ?_)
    have gA:w2.heap.size≤_:=vv.size;(try have dA:=zaT kC);(try have kC:=za kC hbx);have vv:=zc vv hbx;clear hbx;refine hK.out _ _ (⟨zd (za st.box vv),zV (za kS vv),HLC.out _ vv⟩) (fun hHeld => ?_);clear hK K;(try simp only [Act.put,lA,lB,lC]);refine kR 16 q402 (fun K hK => ?_);go_simp
    first
    | refine zt (K:=K _) (fun wx5 kC hbx => ?_)
    | refine zo (K:=K _) (fun wx5 kC hbx => ?_)
    have gC:w2.heap.size≤_:=vv.size;(try have dC:=zaT kA);(try have kA:=za kA hbx);have vv:=zc vv hbx;clear hbx;refine hK.out _ _ (⟨zd (za st.box vv),zV (za kS vv),HLC.out _ vv⟩) (fun hHeld => ?_);clear hK K;(try simp only [Act.put,lA,lB,lC]);refine kR 17 q403 (fun K hK => ?_);obtain ⟨xx0,xx1⟩:=zg kA;have ff0:=ze kA 0;have ff1:=ze kA 1;go_simp;refine zax (K:=K _) kA _ _ (fun wq4 kQ hgq => ?_);have vv:=vv.grown hgq vv.size (by intro j e; cases e; exact gA);have kC:=zf kC hgq (by intro j e; cases e; first | (clear dA; omega) | omega);clear xx0 xx1 ff0 ff1 kQ hgq;refine hK.out _ _ (⟨zd (za st.box vv),zV (za kS vv),HLC.out _ vv⟩) (fun hHeld => ?_);clear hK K;(try simp only [Act.put,lA,lB,lC]);refine kR 18 q404 (fun K hK => ?_);obtain ⟨xx0,xx1⟩:=zg kC;have ff0:=ze kC 0;have ff1:=ze kC 1;go_simp;refine zax (K:=K _) kC _ _ (fun wq5 kQ hgq => ?_);have vv:=vv.grown hgq vv.size (by intro j e; cases e; exact gC);clear xx0 xx1 ff0 ff1;refine hK.out _ _ (⟨zd (za st.box vv),zV (za kS vv),HLC.out _ vv⟩) (fun hHeld => ?_);clear hK K;(try simp only [Act.put,lA,lB,lC]);refine wpAnyH_done (by kernel_rfl) ?_ _;clear hHeld;(go_wp2_with fail)
    go_meet
    exact ⟨_,rfl,st.later vv,za kS vv,kQ,by have:=HZ2.out; omega,HB2.out.trans (vv.mono st.size)⟩
   refine AllReadyH.cons (o:=q402) rfl (fun K hK => ?_) ?_
   ·go_simp
    first
    | refine zt (K:=K _) (fun wx5 kC hbx => ?_)
    | refine zo (K:=K _) (fun wx5 kC hbx => ?_)
    have gC:w2.heap.size≤_:=vv.size;(try have dC:=zaT kA);(try have kA:=za kA hbx);have vv:=zc vv hbx;clear hbx;refine hK.out _ _ (⟨zd (za st.box vv),zV (za kS vv),HLC.out _ vv⟩) (fun hHeld => ?_);clear hK K;(try simp only [Act.put,lA,lB,lC]);refine kR 15 q401 (fun K hK => ?_);go_simp
    first
    | refine zt (K:=K _) (fun wx4 kA hbx => ?_)
    | refine zo (K:=K _) (fun wx4 kA hbx => ?_)
    have gA:w2.heap.size≤_:=vv.size;(try have dA:=zaT kC);(try have kC:=za kC hbx);have vv:=zc vv hbx;clear hbx;refine hK.out _ _ (⟨zd (za st.box vv),zV (za kS vv),HLC.out _ vv⟩) (fun hHeld => ?_);clear hK K;(try simp only [Act.put,lA,lB,lC]);refine kR 17 q403 (fun K hK => ?_);obtain ⟨xx0,xx1⟩:=zg kA;have ff0:=ze kA 0;have ff1:=ze kA 1;go_simp;refine zax (K:=K _) kA _ _ (fun wq4 kQ hgq => ?_);have vv:=vv.grown hgq vv.size (by intro j e; cases e; exact gA);have kC:=zf kC hgq (by intro j e; cases e; first | (clear dA; omega) | omega);clear xx0 xx1 ff0 ff1 kQ hgq;refine hK.out _ _ (⟨zd (za st.box vv),zV (za kS vv),HLC.out _ vv⟩) (fun hHeld => ?_);clear hK K;(try simp only [Act.put,lA,lB,lC]);refine kR 18 q404 (fun K hK => ?_);obtain ⟨xx0,xx1⟩:=zg kC;have ff0:=ze kC 0;have ff1:=ze kC 1;go_simp;refine zax (K:=K _) kC _ _ (fun wq5 kQ hgq => ?_);have vv:=vv.grown hgq vv.size (by intro j e; cases e; exact gC);clear xx0 xx1 ff0 ff1;refine hK.out _ _ (⟨zd (za st.box vv),zV (za kS vv),HLC.out _ vv⟩) (fun hHeld => ?_);clear hK K;(try simp only [Act.put,lA,lB,lC]);refine wpAnyH_done (by kernel_rfl) ?_ _;clear hHeld;(go_wp2_with fail)
    go_meet
    exact ⟨_,rfl,st.later vv,za kS vv,kQ,by have:=HZ2.out; omega,HB2.out.trans (vv.mono st.size)⟩
   exact AllReadyH.nil
  refine AllReadyH.cons (o:=q401) rfl (fun K hK => ?_) ?_
  ·go_simp
   first
   | refine zt (K:=K _) (fun wx4 kA hbx => ?_)
   | refine zo (K:=K _) (fun wx4 kA hbx => ?_)
   have gA:w2.heap.size≤_:=vv.size;(try have dA:=zaT kC);(try have kC:=za kC hbx);have vv:=zc vv hbx;clear hbx;refine hK.out _ _ (⟨zd (za st.box vv),zV (za kS vv),HLC.out _ vv⟩) (fun hHeld => ?_);clear hK K;(try simp only [Act.put,lA,lB,lC]);refine tR [11,16] ?_;refine AllReadyH.cons (o:=q397) rfl (fun K hK => ?_) ?_
   ·go_simp;refine (zcb ⟨xa,xp,xb,xq⟩ back fb fp (i:Int) tp _ HWAY.out).mono ?_;rintro e wz ⟨rfl,hbz⟩;(try have kA:=za kA hbz);(try have kC:=za kC hbz);have vv:=zc vv hbz;(go_wp2_with fail);refine hK.out _ _ (⟨zd (za st.box vv),zV (za kS vv),HLC.out _ vv⟩) (fun hHeld => ?_);clear hK K;(try simp only [Act.put,lA,lB,lC]);refine kK 12 q398 ?_;refine kK 13 q399 ?_;refine kK 14 q400 ?_;refine kR 16 q402 (fun K hK => ?_);go_simp
    first
    | refine zt (K:=K _) (fun wx5 kC hbx => ?_)
    | refine zo (K:=K _) (fun wx5 kC hbx => ?_)
    have gC:w2.heap.size≤_:=vv.size;(try have dC:=zaT kA);(try have kA:=za kA hbx);have vv:=zc vv hbx;clear hbx;refine hK.out _ _ (⟨zd (za st.box vv),zV (za kS vv),HLC.out _ vv⟩) (fun hHeld => ?_);clear hK K;(try simp only [Act.put,lA,lB,lC]);refine kR 17 q403 (fun K hK => ?_);obtain ⟨xx0,xx1⟩:=zg kA;have ff0:=ze kA 0;have ff1:=ze kA 1;go_simp;refine zax (K:=K _) kA _ _ (fun wq4 kQ hgq => ?_);have vv:=vv.grown hgq vv.size (by intro j e; cases e; exact gA);have kC:=zf kC hgq (by intro j e; cases e; first | (clear dA; omega) | omega);clear xx0 xx1 ff0 ff1 kQ hgq;refine hK.out _ _ (⟨zd (za st.box vv),zV (za kS vv),HLC.out _ vv⟩) (fun hHeld => ?_);clear hK K;(try simp only [Act.put,lA,lB,lC]);refine kR 18 q404 (fun K hK => ?_);obtain ⟨xx0,xx1⟩:=zg kC;have ff0:=ze kC 0;have ff1:=ze kC 1;go_simp;refine zax (K:=K _) kC _ _ (fun wq5 kQ hgq => ?_);have vv:=vv.grown hgq vv.size (by intro j e; cases e; exact gC);clear xx0 xx1 ff0 ff1;refine hK.out _ _ (⟨zd (za st.box vv),zV (za kS vv),HLC.out _ vv⟩) (fun hHeld => ?_);clear hK K;(try simp only [Act.put,lA,lB,lC]);refine wpAnyH_done (by kernel_rfl) ?_ _;clear hHeld;(go_wp2_with fail)
    go_meet
    exact ⟨_,rfl,st.later vv,za kS vv,kQ,by have:=HZ2.out; omega,HB2.out.trans (vv.mono st.size)⟩
   refine AllReadyH.cons (o:=q402) rfl (fun K hK => ?_) ?_
   ·go_simp
    first
    | refine zt (K:=K _) (fun wx5 kC hbx => ?_)
    | refine zo (K:=K _) (fun wx5 kC hbx => ?_)
    have gC:w2.heap.size≤_:=vv.size;(try have dC:=zaT kA);(try have kA:=za kA hbx);have vv:=zc vv hbx;clear hbx;refine hK.out _ _ (⟨zd (za st.box vv),zV (za kS vv),HLC.out _ vv⟩) (fun hHeld => ?_);clear hK K;(try simp only [Act.put,lA,lB,lC]);refine kR 11 q397 (fun K hK => ?_);go_simp;refine (zcb ⟨xa,xp,xb,xq⟩ back fb fp (i:Int) tp _ HWAY.out).mono ?_;rintro e wz ⟨rfl,hbz⟩;(try have kA:=za kA hbz);(try have kC:=za kC hbz);have vv:=zc vv hbz;(go_wp2_with fail);refine hK.out _ _ (⟨zd (za st.box vv),zV (za kS vv),HLC.out _ vv⟩) (fun hHeld => ?_);clear hK K;(try simp only [Act.put,lA,lB,lC]);refine kK 12 q398 ?_;refine kK 13 q399 ?_;refine kK 14 q400 ?_;refine kR 17 q403 (fun K hK => ?_);obtain ⟨xx0,xx1⟩:=zg kA;have ff0:=ze kA 0;have ff1:=ze kA 1;go_simp;refine zax (K:=K _) kA _ _ (fun wq4 kQ hgq => ?_);have vv:=vv.grown hgq vv.size (by intro j e; cases e; exact gA);have kC:=zf kC hgq (by intro j e; cases e; first | (clear dA; omega) | omega);clear xx0 xx1 ff0 ff1 kQ hgq;refine hK.out _ _ (⟨zd (za st.box vv),zV (za kS vv),HLC.out _ vv⟩) (fun hHeld => ?_);clear hK K;(try simp only [Act.put,lA,lB,lC]);refine kR 18 q404 (fun K hK => ?_);obtain ⟨xx0,xx1⟩:=zg kC;have ff0:=ze kC 0;have ff1:=ze kC 1;go_simp;refine zax (K:=K _) kC _ _ (fun wq5 kQ hgq => ?_);have vv:=vv.grown hgq vv.size (by intro j e; cases e; exact gC);clear xx0 xx1 ff0 ff1;refine hK.out _ _ (⟨zd (za st.box vv),zV (za kS vv),HLC.out _ vv⟩) (fun hHeld => ?_);clear hK K;(try simp only [Act.put,lA,lB,lC]);refine wpAnyH_done (by kernel_rfl) ?_ _;clear hHeld;(go_wp2_with fail)
    go_meet
    exact ⟨_,rfl,st.later vv,za kS vv,kQ,by have:=HZ2.out; omega,HB2.out.trans (vv.mono st.size)⟩
   exact AllReadyH.nil
  refine AllReadyH.cons (o:=q402) rfl (fun K hK => ?_) ?_
  ·go_simp
   first
   | refine zt (K:=K _) (fun wx5 kC hbx => ?_)
   | refine zo (K:=K _) (fun wx5 kC hbx => ?_)
   have gC:w2.heap.size≤_:=vv.size;(try have dC:=zaT kA);(try have kA:=za kA hbx);have vv:=zc vv hbx;clear hbx;refine hK.out _ _ (⟨zd (za st.box vv),zV (za kS vv),HLC.out _ vv⟩) (fun hHeld => ?_);clear hK K;(try simp only [Act.put,lA,lB,lC]);refine tR [11,15] ?_;refine AllReadyH.cons (o:=q397) rfl (fun K hK => ?_) ?_
   ·go_simp;refine (zcb ⟨xa,xp,xb,xq⟩ back fb fp (i:Int) tp _ HWAY.out).mono ?_;rintro e wz ⟨rfl,hbz⟩;(try have kA:=za kA hbz);(try have kC:=za kC hbz);have vv:=zc vv hbz;(go_wp2_with fail);refine hK.out _ _ (⟨zd (za st.box vv),zV (za kS vv),HLC.out _ vv⟩) (fun hHeld => ?_);clear hK K;(try simp only [Act.put,lA,lB,lC]);refine kK 12 q398 ?_;refine kK 13 q399 ?_;refine kK 14 q400 ?_;refine kR 15 q401 (fun K hK => ?_);go_simp
    first
    | refine zt (K:=K _) (fun wx4 kA hbx => ?_)
    | refine zo (K:=K _) (fun wx4 kA hbx => ?_)
    have gA:w2.heap.size≤_:=vv.size;(try have dA:=zaT kC);(try have kC:=za kC hbx);have vv:=zc vv hbx;clear hbx;refine hK.out _ _ (⟨zd (za st.box vv),zV (za kS vv),HLC.out _ vv⟩) (fun hHeld => ?_);clear hK K;(try simp only [Act.put,lA,lB,lC]);refine kR 17 q403 (fun K hK => ?_);obtain ⟨xx0,xx1⟩:=zg kA;have ff0:=ze kA 0;have ff1:=ze kA 1;go_simp;refine zax (K:=K _) kA _ _ (fun wq4 kQ hgq => ?_);have vv:=vv.grown hgq vv.size (by intro j e; cases e; exact gA);have kC:=zf kC hgq (by intro j e; cases e; first | (clear dA; omega) | omega);clear xx0 xx1 ff0 ff1 kQ hgq;refine hK.out _ _ (⟨zd (za st.box vv),zV (za kS vv),HLC.out _ vv⟩) (fun hHeld => ?_);clear hK K;(try simp only [Act.put,lA,lB,lC]);refine kR 18 q404 (fun K hK => ?_);obtain ⟨xx0,xx1⟩:=zg kC;have ff0:=ze kC 0;have ff1:=ze kC 1;go_simp;refine zax (K:=K _) kC _ _ (fun wq5 kQ hgq => ?_);have vv:=vv.grown hgq vv.size (by intro j e; cases e; exact gC);clear xx0 xx1 ff0 ff1;refine hK.out _ _ (⟨zd (za st.box vv),zV (za kS vv),HLC.out _ vv⟩) (fun hHeld => ?_);clear hK K;(try simp only [Act.put,lA,lB,lC]);refine wpAnyH_done (by kernel_rfl) ?_ _;clear hHeld;(go_wp2_with fail)
    go_meet
    exact ⟨_,rfl,st.later vv,za kS vv,kQ,by have:=HZ2.out; omega,HB2.out.trans (vv.mono st.size)⟩
   refine AllReadyH.cons (o:=q401) rfl (fun K hK => ?_) ?_
   ·go_simp
    first
    | refine zt (K:=K _) (fun wx4 kA hbx => ?_)
    | refine zo (K:=K _) (fun wx4 kA hbx => ?_)
    have gA:w2.heap.size≤_:=vv.size;(try have dA:=zaT kC);(try have kC:=za kC hbx);have vv:=zc vv hbx;clear hbx;refine hK.out _ _ (⟨zd (za st.box vv),zV (za kS vv),HLC.out _ vv⟩) (fun hHeld => ?_);clear hK K;(try simp only [Act.put,lA,lB,lC]);refine kR 11 q397 (fun K hK => ?_);go_simp;refine (zcb ⟨xa,xp,xb,xq⟩ back fb fp (i:Int) tp _ HWAY.out).mono ?_;rintro e wz ⟨rfl,hbz⟩;(try have kA:=za kA hbz);(try have kC:=za kC hbz);have vv:=zc vv hbz;(go_wp2_with fail);refine hK.out _ _ (⟨zd (za st.box vv),zV (za kS vv),HLC.out _ vv⟩) (fun hHeld => ?_);clear hK K;(try simp only [Act.put,lA,lB,lC]);refine kK 12 q398 ?_;refine kK 13 q399 ?_;refine kK 14 q400 ?_;refine kR 17 q403 (fun K hK => ?_);obtain ⟨xx0,xx1⟩:=zg kA;have ff0:=ze kA 0;have ff1:=ze kA 1;go_simp;refine zax (K:=K _) kA _ _ (fun wq4 kQ hgq => ?_);have vv:=vv.grown hgq vv.size (by intro j e; cases e; exact gA);have kC:=zf kC hgq (by intro j e; cases e; first | (clear dA; omega) | omega);clear xx0 xx1 ff0 ff1 kQ hgq;refine hK.out _ _ (⟨zd (za st.box vv),zV (za kS vv),HLC.out _ vv⟩) (fun hHeld => ?_);clear hK K;(try simp only [Act.put,lA,lB,lC]);refine kR 18 q404 (fun K hK => ?_);obtain ⟨xx0,xx1⟩:=zg kC;have ff0:=ze kC 0;have ff1:=ze kC 1;go_simp;refine zax (K:=K _) kC _ _ (fun wq5 kQ hgq => ?_);have vv:=vv.grown hgq vv.size (by intro j e; cases e; exact gC);clear xx0 xx1 ff0 ff1;refine hK.out _ _ (⟨zd (za st.box vv),zV (za kS vv),HLC.out _ vv⟩) (fun hHeld => ?_);clear hK K;(try simp only [Act.put,lA,lB,lC]);refine wpAnyH_done (by kernel_rfl) ?_ _;clear hHeld;(go_wp2_with fail)
    go_meet
    exact ⟨_,rfl,st.later vv,za kS vv,kQ,by have:=HZ2.out; omega,HB2.out.trans (vv.mono st.size)⟩
   exact AllReadyH.nil
  exact AllReadyH.nil
 case rest =>
  obtain ⟨Y,rfl,st3,kS3,kC,hYL,hB3⟩:=hcut;obtain ⟨w3,hw3⟩:∃u,u=wc:=⟨_,rfl⟩;subst hw3;have HYL:Hid (w.heap.size < Y):=hide hYL;have HB3:=hide hB3;clear st kS HLC hYL hB3 HB2 HZ2;have st:=st3;have kS:=kS3;clear st3 kS3;have vv:Below w3.heap.size w3 w3.drew:=zq (Below.refl _ _);(go_upto_region 3 with fail);refine wp_region_held_drew (S:=(fun W=>(W.cell? ⟨X,0,none⟩=some (.slice (some ⟨g,0,none⟩) bn bc)∧W.cell? ⟨X,1,none⟩=some (.slice (some ⟨lb,lo,none⟩) ln lc)∧W.cell? ⟨X,2,none⟩=some (.slice sa sn sc))∧(W.cell? ⟨Y,0,none⟩=some (.int .i64 (i:Int))∧W.cell? ⟨Y,1,none⟩=some (.int .i64 tp)))) (by kernel_rfl) (⟨zd (za st.box vv),zg (za kC vv)⟩) (fun hHeld => ?_);refine kK 0 ⟨some 30,.move (.tmp 0),73,"l14_step.go:153",#[],none⟩ ?_;refine kK 1 ⟨some 31,.nilCheck (.tmp 30),0,"l14_step.go:153",#[⟨0,.data⟩],none⟩ ?_;refine kK 2 ⟨some 32,.fieldAddr 76 (.tmp 31) 0,0,"l14_step.go:153",#[⟨1,.data⟩],none⟩ ?_;refine kK 3 ⟨some 33,.load 34 (.tmp 32),34,"l14_step.go:153",#[⟨2,.data⟩],none⟩ ?_;refine kK 4 ⟨some 34,.fieldAddr 164 (.tmp 5) 0,0,"l14_step.go:153",#[],none⟩ ?_;refine kK 5 ⟨some 35,.load 3 (.tmp 34),3,"l14_step.go:153",#[⟨4,.data⟩],none⟩ ?_;refine kR 6 ⟨some 36,.call ⟨.value (.func 129),#[.tmp 33,.tmp 35],#[34,3]⟩,176,"l14_step.go:153",#[⟨3,.data⟩,⟨5,.data⟩],none⟩ (fun K hK => ?_);go_simp;refine (zbl ⟨some ⟨g,0,none⟩,bn,bc,pre++y::post,some ⟨lb,lo,none⟩,ln,lc,ls,sa,sn,sc,ss⟩ i g 0 _ hle hib rfl).mono ?_;rintro e wz ⟨rfl,hbz⟩;have vv:=zc vv hbz;(go_wp2_with fail);refine hK.out _ _ (⟨zd (za st.box vv),zg (za kC vv)⟩) (fun hHeld => ?_);clear hK K;(try simp only [Act.put,lA,lB,lC]);refine kK 7 ⟨some 6,.assign (.tmp 36),176,"l14_step.go:153",#[⟨6,.data⟩,⟨6,.chain⟩,⟨0,.phase⟩,⟨1,.phase⟩,⟨2,.phase⟩,⟨3,.phase⟩,⟨4,.phase⟩,⟨5,.phase⟩,⟨6,.phase⟩],none⟩ ?_;refine wpAnyH_done (by kernel_rfl) ?_ _;have HB4:=hide (HB3.out.trans (vv.mono st.size));have st4:=st.later vv;have kS4:=za kS vv;have kC4:=za kC vv;obtain ⟨w4,hw4⟩:∃u,u=wz:=⟨_,rfl⟩;subst hw4;clear hHeld st kS kC vv hbz HB3;have st:=st4;have vv:Below w4.heap.size w4 w4.drew:=zq (Below.refl _ _);have kS:=za kS4 vv;have kC:=za kC4 vv;have hyr:=(st.own.b.item y (by simp)).row;obtain ⟨⟨ca0,ca1,ca2,ca3,ca4,ca5,ca6,ca7,ca8,ca9,ca10⟩,-⟩:=zO (st.own.b.below vv).row HAT.out;(try rw [Nat.zero_add]);clear st4 kS4 kC4;(go_upto_region 4 with fail);refine wp_region_held_drew (S:=(fun W=>(W.cell? ⟨w.heap.size,0,none⟩=some (.int .i64 (k:Int))∧W.cell? ⟨w.heap.size,1,none⟩=some (.bool back)∧W.cell? ⟨w.heap.size,2,none⟩=some (.int .i64 v.r)∧W.cell? ⟨w.heap.size,3,none⟩=some (.int .i64 v.c)∧W.cell? ⟨w.heap.size,4,none⟩=some (.int .i64 v.h)∧W.cell? ⟨w.heap.size,5,none⟩=some (.int .i64 v.b)∧W.cell? ⟨w.heap.size,6,none⟩=some (.int .i64 v.p))∧(W.cell? ⟨Y,0,none⟩=some (.int .i64 (i:Int))∧W.cell? ⟨Y,1,none⟩=some (.int .i64 tp)))) (by kernel_rfl) (⟨zV kS,zg kC⟩) (fun hHeld => ?_);refine kK 0 ⟨some 37,.move (.tmp 6),176,"l14_step.go:154",#[],none⟩ ?_;refine kK 1 ⟨some 38,.move (.tmp 6),176,"l14_step.go:154",#[],none⟩ ?_;refine kK 2 ⟨some 39,.nilCheck (.tmp 38),0,"l14_step.go:154",#[⟨1,.data⟩],none⟩ ?_;refine kK 4 ⟨some 41,.fieldAddr 164 (.tmp 5) 1,0,"l14_step.go:154",#[],none⟩ ?_;refine kK 5 ⟨some 42,.load 3 (.tmp 41),3,"l14_step.go:154",#[⟨4,.data⟩],none⟩ ?_;refine kK 6 ⟨some 43,.fieldAddr 105 (.tmp 3) 2,0,"l14_step.go:154",#[],none⟩ ?_;refine kK 7 ⟨some 44,.load 101 (.tmp 43),101,"l14_step.go:154",#[⟨6,.data⟩],none⟩ ?_;refine kR 3 ⟨some 40,.load 64 (.tmp 39),64,"l14_step.go:154",#[⟨2,.data⟩],none⟩ (fun K hK => ?_);go_simp;refine hK.out _ _ (⟨zV kS,zg kC⟩) (fun hHeld => ?_);clear hK K;(try simp only [Act.put,lA,lB,lC]);refine kR 8 ⟨some 45,.call ⟨.value (.func 158),#[.tmp 40,.tmp 42,.tmp 44],#[64,3,101]⟩,64,"l14_step.go:154",#[⟨3,.data⟩,⟨5,.data⟩,⟨7,.data⟩],none⟩ (fun K hK => ?_);go_simp;refine (zfn y.a y.n y.c y.fa y.fn y.fc y.ra y.rn y.rc y.oa y.on y.oc y.B tp v _ (hyr.below vv) HSM.out.1 HSM.out.2.1 HSM.out.2.2.1 HSM.out.2.2.2 HRG.out.1 HRG.out.2).mono ?_;rintro e wz ⟨a2,n2,c2,fa2,fn2,fc2,ra2,rn2,rc2,oa2,on2,oc2,rfl,ow2,hbz⟩;have ow2:=BrOwn.lt ow2 (base':=w4.heap.size) vv.size;have vv:=zc vv hbz;have kS:=za kS hbz;have kC:=za kC hbz;have hrow:=(st.own.b.below vv).row;obtain ⟨⟨t0,t1,t2,t3,t4,t5,t6,t7,t8,t9,t10⟩,f0,f1,f2,f3,f4,f5,f6,f7,f8,f9,f10⟩:=zO hrow HAT.out;(go_wp2_with fail);refine hK.out _ _ (⟨zV kS,zg kC⟩) (fun hHeld => ?_);clear hK K;(try simp only [Act.put,lA,lB,lC]);refine kK 9 ⟨some 46,.nilCheck (.tmp 37),0,"l14_step.go:154",#[⟨0,.data⟩,⟨0,.phase⟩,⟨1,.phase⟩,⟨2,.phase⟩,⟨3,.phase⟩,⟨4,.phase⟩,⟨5,.phase⟩,⟨6,.phase⟩,⟨7,.phase⟩,⟨8,.phase⟩],none⟩ ?_;refine kR 10 ⟨none,.store 64 (.tmp 46) (.tmp 45),0,"l14_step.go:154",#[⟨9,.data⟩,⟨8,.data⟩,⟨8,.chain⟩,⟨0,.phase⟩,⟨1,.phase⟩,⟨2,.phase⟩,⟨3,.phase⟩,⟨4,.phase⟩,⟨5,.phase⟩,⟨6,.phase⟩,⟨7,.phase⟩,⟨8,.phase⟩],none⟩ (fun K hK => ?_);go_simp;refine zaL (⟨a2,n2,c2,fa2,fn2,fc2,ra2,rn2,rc2,oa2,on2,oc2,(hearB y.B tp v)⟩:BV) HPL.out (K:=K _) hrow (fun wq hq hgq => ?_);have stN:=st.put (y:=(⟨a2,n2,c2,fa2,fn2,fc2,ra2,rn2,rc2,oa2,on2,oc2,(hearB y.B tp v)⟩:BV)) rfl rfl vv ow2 hgq hq;have kS:=zf kS hgq (by intro j e; cases e; have:=HG.out; omega);have kC:=zf kC hgq (by intro j e; cases e; have:=HG.out; have:=HYL.out; omega);refine hK.out _ _ (⟨zV kS,zg kC⟩) (fun hHeld => ?_);clear hK K;(try simp only [Act.put,lA,lB,lC]);refine wpAnyH_done (by kernel_rfl) ?_ _;have HST:=hide stN;clear hHeld kS kC hq hgq hrow ow2 vv stN;go_wp2;refine bodyPost_end (v:=.tuple #[]) (by simp [results,Tryz.results126,go_sem, *]) rfl ?_;refine ⟨rfl,(⟨a2,n2,c2,fa2,fn2,fc2,ra2,rn2,rc2,oa2,on2,oc2,(hearB y.B tp v)⟩:BV),rfl, ?_,HB4.out.trans HST.out.2⟩;rw [HSET.out];exact HST.out.1

end Go.Proofs.YtpaneiaflfegoaaGreat
