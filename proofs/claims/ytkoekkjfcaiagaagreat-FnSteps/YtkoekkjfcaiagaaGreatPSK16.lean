/-
  Packed: NetOwn NetOwnA NetUp NetMath NetUsed NetOkS.
-/
import Derived.Test.YtkoekkjfcaiagaaGreatPSKW
import Derived.Test.YtkoekkjfcaiagaaGreatPSBrOkS
import Derived.Test.YtkoekkjfcaiagaaGreatPSK01
import Derived.Test.YtkoekkjfcaiagaaGreatPSK03
import Derived.Test.YtkoekkjfcaiagaaGreatPSK15
import Derived.Deep.RegionHeld3
namespace Go.Proofs.YtkoekkjfcaiagaaGreat
set_option maxRecDepth 100000
set_option maxHeartbeats 16000000
open Go.RowKit

def BV.blks (x:BV):List Nat:=blkL x.a++(blkL x.fa++(blkL x.ra++blkL x.oa))

theorem zci {x:BV} {b:Nat}:b∈x.blks↔b∈blkL x.a∨b∈blkL x.fa∨b∈blkL x.ra∨b∈blkL x.oa:=by
 unfold BV.blks; simp [List.mem_append]

theorem BV.Own.blk {w:World} {base:Nat} {x:BV} (h:x.Own w base):∀b∈x.blks,base≤b∧b < w.heap.size:=by
 intro b hb;rcases zci.1 hb with hb | hb | hb | hb
 ·exact h.ports.lt b (zap.2 hb)
 ·exact h.f.lt b (zap.2 hb)
 ·exact h.v.rows.lt b (zap.2 hb)
 ·exact h.v.own.lt b (zap.2 hb)

theorem BV.Own.only {bs:List Nat} {w w':World} {base:Nat} {x:BV} (h:x.Own w base) (ho:Only bs w w') (hn:∀b∈x.blks,b∉bs):x.Own w' base :=
 ⟨ho.own h.ports (fun k hk=>hn k (zci.2 (.inl (zap.1 hk)))),ho.own h.f (fun k hk=>hn k (zci.2 (.inr (.inl (zap.1 hk))))),
  ⟨ho.own h.v.rows (fun k hk=>hn k (zci.2 (.inr (.inr (.inl (zap.1 hk)))))),ho.own h.v.own (fun k hk=>hn k (zci.2 (.inr (.inr (.inr (zap.1 hk)))))),h.v.i64⟩⟩

theorem zcF (a:Option Addr):(blkL a).Nodup:=by cases a <;> simp [blkL]

theorem BV.Own.nd {w:World} {base:Nat} {x:BV} (h:x.Own w base):x.blks.Nodup:=by
 unfold BV.blks;have d:∀{e e':TypeId} {s s' n n' m m' c c':Nat} {a a':Option Addr} {xs xs':List Value},w.ownsRow base e s (.slice a n c) m xs→w.ownsRow base e' s' (.slice a' n' c') m' xs'→e≠e'→∀b∈blkL a,b∉blkL a':=fun h h' hne b hb hc=>zb1 h h' hne (zap.2 hb) (zap.2 hc)
 have h12:=d h.ports h.f (by decide);have h13:=d h.ports h.v.rows (by decide);have h14:=d h.ports h.v.own (by decide);have h23:=d h.f h.v.rows (by decide);have h24:=d h.f h.v.own (by decide);have h34:=d h.v.rows h.v.own (by decide);refine List.nodup_append.2 ⟨zcF _,List.nodup_append.2 ⟨zcF _,List.nodup_append.2 ⟨zcF _,zcF _, ?_⟩, ?_⟩, ?_⟩
 ·intro a ha b hb e; subst e; exact h34 a ha hb
 ·intro a ha b hb e; subst e
  rcases List.mem_append.1 hb with hb | hb
  ·exact h23 a ha hb
  ·exact h24 a ha hb
 ·intro a ha b hb e; subst e
  rcases List.mem_append.1 hb with hb | hb
  ·exact h12 a ha hb
  ·rcases List.mem_append.1 hb with hb | hb
   ·exact h13 a ha hb
   ·exact h14 a ha hb

structure BOs (w:World) (base:Nat) (ao:Option Addr) (n cap:Nat) (l:List BV):Prop where
 row:w.ownsRow base 63 11 (.slice ao n cap) n (brF.all l)
 item:∀x∈l,x.Own w base
 apart:(l.flatMap BV.blks).Nodup

def allB (ao:Option Addr) (l:List BV):List Nat:=blkL ao++l.flatMap BV.blks

theorem BOs.grow {w:World} {base:Nat} {ao:Option Addr} {n cap:Nat} {l:List BV} (h:BOs w base ao n cap l):GRow brF w ao n cap l:=zB (F:=brF) h.row
theorem BOs.below {w w':World} {base:Nat} {ao:Option Addr} {n cap:Nat} {l:List BV} (h:BOs w base ao n cap l) (hb:Below w.heap.size w w'):BOs w' base ao n cap l :=
 ⟨zhU h.row hb,fun x hx=>(h.item x hx).below hb,h.apart⟩
theorem BOs.lt {w:World} {base base':Nat} {ao:Option Addr} {n cap:Nat} {l:List BV} (h:BOs w base ao n cap l) (hb:base'≤base):BOs w base' ao n cap l :=
 ⟨zka h.row hb,fun x hx=>(h.item x hx).lt hb,h.apart⟩
theorem BOs.only {bs:List Nat} {w w':World} {base:Nat} {ao:Option Addr} {n cap:Nat} {l:List BV} (h:BOs w base ao n cap l) (ho:Only bs w w') (hn:∀b∈allB ao l,b∉bs):BOs w' base ao n cap l :=
 ⟨ho.own h.row (fun k hk=>hn k (List.mem_append_left _ (zap.1 hk))),fun x hx=>(h.item x hx).only ho (fun b hb=>hn b (List.mem_append_right _ (List.mem_flatMap.2 ⟨x,hx,hb⟩))),h.apart⟩
theorem BOs.blk {w:World} {base:Nat} {ao:Option Addr} {n cap:Nat} {l:List BV} (h:BOs w base ao n cap l):∀b∈allB ao l,base≤b∧b < w.heap.size:=by
 intro b hb;rcases List.mem_append.1 hb with hb | hb
 ·exact h.row.lt b (zap.2 hb)
 ·obtain ⟨x,hx,hb⟩:=List.mem_flatMap.1 hb;exact (h.item x hx).blk b hb

theorem BV.Own.row_apart {w:World} {base base':Nat} {ao:Option Addr} {n cap:Nat} {xs:List Value} (hr:w.ownsRow base' 63 11 (.slice ao n cap) n xs) {x:BV} (h:x.Own w base):∀b∈x.blks,b∉blkL ao:=by
 intro b hb hc;rcases zci.1 hb with hb | hb | hb | hb
 ·exact zb1 h.ports hr (by decide) (zap.2 hb) (zap.2 hc)
 ·exact zb1 h.f hr (by decide) (zap.2 hb) (zap.2 hc)
 ·exact zb1 h.v.rows hr (by decide) (zap.2 hb) (zap.2 hc)
 ·exact zb1 h.v.own hr (by decide) (zap.2 hb) (zap.2 hc)

theorem zeR {pre post:List BV} {x:BV} (h:((pre++x::post).flatMap BV.blks).Nodup):∀y,y∈pre∨y∈post→∀b∈y.blks,b∉x.blks:=by
 rw [List.flatMap_append,List.flatMap_cons] at h;obtain ⟨h1,h2,h3⟩:=List.nodup_append.1 h;obtain ⟨h4,h5,h6⟩:=List.nodup_append.1 h2;intro y hy b hb hx;rcases hy with hy | hy
 ·exact h3 b (List.mem_flatMap.2 ⟨y,hy,hb⟩) b (List.mem_append_left _ hx) rfl
 ·exact h6 b hx b (List.mem_flatMap.2 ⟨y,hy,hb⟩) rfl

theorem zgO {pre post:List BV} {x y:BV} (h:y∈pre∨y∈post):y∈pre++x::post:=by
 rcases h with h | h
 ·exact List.mem_append_left _ h
 ·exact List.mem_append_right _ (List.mem_cons_of_mem _ h)

theorem BOs.turn {bs:List Nat} {w w':World} {base:Nat} {ao:Option Addr} {n cap:Nat} {pre post:List BV} {x x':BV} (h:BOs w base ao n cap (pre++x::post)) (hb:∀y,y∈pre∨y∈post→∀b∈y.blks,b∉x'.blks) (ho:Only bs w w') (hs:∀b∈bs,b∈x.blks∨b∈blkL ao)
  (hr:w'.ownsRow base 63 11 (.slice ao n cap) n (brF.all (pre++x'::post))) (hx:x'.Own w' base):BOs w' base ao n cap (pre++x'::post) where
 row:=hr
 item:=by
  intro y hy;have hm:=zeR h.apart;have keep:(y∈pre∨y∈post)→y.Own w' base:=fun hy=>(h.item y (zgO hy)).only ho (fun b hb hbs=>by
   rcases hs b hbs with h1 | h1
   ·exact hm y hy b hb h1
   ·exact BV.Own.row_apart h.row (h.item y (zgO hy)) b hb h1)
  rcases List.mem_append.1 hy with hy | hy
  ·exact keep (.inl hy)
  ·rcases List.mem_cons.1 hy with rfl | hy
   ·exact hx
   ·exact keep (.inr hy)
 apart:=by
  have ha:=h.apart;rw [List.flatMap_append,List.flatMap_cons] at ha ⊢;obtain ⟨h1,h2,h3⟩:=List.nodup_append.1 ha;obtain ⟨-,h5,-⟩:=List.nodup_append.1 h2;refine List.nodup_append.2 ⟨h1,List.nodup_append.2 ⟨hx.nd,h5, ?_⟩, ?_⟩
  ·intro a ha b hb' e;subst e;obtain ⟨z,hz,hb'⟩:=List.mem_flatMap.1 hb';exact hb z (.inr hz) a hb' ha
  ·intro a ha b hb' e;subst e;rcases List.mem_append.1 hb' with hb' | hb'
   ·obtain ⟨z,hz,ha⟩:=List.mem_flatMap.1 ha;exact hb z (.inl hz) a ha hb'
   ·exact h3 a ha a (List.mem_append_right _ hb') rfl

theorem BOs.put {w w1 w':World} {base g n cap:Nat} {pre post:List BV} {x y:BV} (h:BOs w base (some ⟨g,0,none⟩) n cap (pre++x::post)) (hb:Below w.heap.size w w1) (hy:y.Own w1 w.heap.size) (hbs:base≤w.heap.size) (hg:w1.grownBy w' (some g))
  (hr:w'.ownsRow base 63 11 (.slice (some ⟨g,0,none⟩) n cap) n (brF.all (pre++y::post))):BOs w' base (some ⟨g,0,none⟩) n cap (pre++y::post):=by
 have O:Only [g] w1 w':=by have:=Only.of_grown (ao:=some ⟨g,0,none⟩) (n:=n) (c:=cap) hg; simpa [blkL] using this
 have hgl:g < w.heap.size:=(h.row.lt g rfl).2;refine (h.below hb).turn (bs:=[g]) ?_ O (fun b hb'=>.inr (by simpa [blkL] using hb')) hr ((hy.only O (fun b hb' hc=>by have:=(hy.blk b hb').1; simp at hc; omega)).lt hbs);intro z hz b hb1 hb2;have h1:=((h.item z (zgO hz)).blk b hb1).2;have h2:=(hy.blk b hb2).1;omega

theorem BOs.push {w w1 w':World} {base:Nat} {ao ao':Option Addr} {n cap cap':Nat} {l:List BV} {y:BV} (h:BOs w base ao n cap l) (hb:Below w.heap.size w w1) (hy:y.Own w1 w.heap.size) (hbs:base≤w.heap.size) (hg:w1.grownBy w' (Value.slice ao n cap).ownBlock)
  (hr:w'.ownsRow base 63 11 (.slice ao' (n+1) cap') (n+1) (brF.all (l++[y]))):BOs w' base ao' (n+1) cap' (l++[y]):=by
 have O:=Only.of_grown hg;have hk:=h.below hb;have hlt:=h.row.lt;refine ⟨hr, ?_, ?_⟩
 ·intro z hz;rcases List.mem_append.1 hz with hz | hz
  ·exact (hk.item z hz).only O (BV.Own.row_apart hk.row (hk.item z hz))
  ·rw [List.mem_singleton.1 hz];exact (hy.only O (fun b hb' hc=>by have h1:=(hy.blk b hb').1; have h2:=(hlt b (zap.2 hc)).2; omega)).lt hbs
 ·rw [List.flatMap_append];refine List.nodup_append.2 ⟨h.apart,by simpa using hy.nd, ?_⟩;intro a ha b hb' e;subst e;obtain ⟨z,hz,ha⟩:=List.mem_flatMap.1 ha;have h1:=((h.item z hz).blk a ha).2;have h2:=(hy.blk a (by simpa using hb')).1;omega

theorem zaR (w:World) (base:Nat):BOs w base none 0 0 []:=⟨World.ownsRow_nil _ _ _ _,(by intro x hx; cases hx),List.nodup_nil⟩

structure zby (w:World) (base:Nat) (M:NV):Prop where
 b:BOs w base M.ba M.bn M.bc M.bs
 l:w.ownsRow base 44 4 (.slice M.la M.ln M.lc) M.ln (linkF.all M.ls)
 s:M.sa=none∧M.sn=0∧M.sc=0∧M.ss=[]

theorem zby.row {w:World} {base:Nat} {M:NV} (h:zby w base M):zax w M :=
 ⟨h.b.grow,fun x hx=>(h.b.item x hx).row,zB (F:=linkF) h.l,by rw [h.s.1,h.s.2.1,h.s.2.2.1,h.s.2.2.2]; exact zdj _ _⟩
theorem zby.below {w w':World} {base:Nat} {M:NV} (h:zby w base M) (hb:Below w.heap.size w w'):zby w' base M:=⟨h.b.below hb,zh h.l hb,h.s⟩
theorem zby.lt {w:World} {base base':Nat} {M:NV} (h:zby w base M) (hb:base'≤base):zby w base' M:=⟨h.b.lt hb,zF h.l hb,h.s⟩
theorem zby.apart {w w':World} {base:Nat} {M:NV} (h:zby w base M) {g:Nat} (hg:w.grownBy w' (some g)) (hlt:g < base):zby w' base M:=by
 have O:Only [g] w w':=⟨hg.os,hg.tape,hg.output,hg.size,fun k hk hn=>hg.block k hk (by intro e; cases e; exact hn (by simp))⟩;exact ⟨h.b.only O (fun b hb hc=>by have:=(h.b.blk b hb).1; simp at hc; omega),O.own h.l (fun k hk hc=>by have:=(h.l.lt k hk).1; simp at hc; omega),h.s⟩

structure NOwn (w:World) (base:Nat) (M:NV):Prop where
 b:BOs w base M.ba M.bn M.bc M.bs
 l:w.ownsRow base 44 4 (.slice M.la M.ln M.lc) M.ln (linkF.all M.ls)
 s:w.ownsRow base 90 7 (.slice M.sa M.sn M.sc) M.sn (sayF.all M.ss)

theorem zby.all {w:World} {base:Nat} {M:NV} (h:zby w base M):NOwn w base M :=
 ⟨h.b,h.l,by rw [h.s.1,h.s.2.1,h.s.2.2.1,h.s.2.2.2]; exact World.ownsRow_nil _ _ _ _⟩
theorem NOwn.row {w:World} {base:Nat} {M:NV} (h:NOwn w base M):zax w M :=
 ⟨h.b.grow,fun x hx=>(h.b.item x hx).row,zB (F:=linkF) h.l,zB (F:=sayF) h.s⟩
theorem NOwn.below {w w':World} {base:Nat} {M:NV} (h:NOwn w base M) (hb:Below w.heap.size w w'):NOwn w' base M:=⟨h.b.below hb,zh h.l hb,zh h.s hb⟩
theorem NOwn.lt {w:World} {base base':Nat} {M:NV} (h:NOwn w base M) (hb:base'≤base):NOwn w base' M:=⟨h.b.lt hb,zF h.l hb,zF h.s hb⟩

abbrev q88:Oper:=⟨some 10,.move (.tmp 5),78,"l13_net.go:99",#[],none⟩
abbrev q89:Oper:=⟨some 11,.binOp .eql 78 (.tmp 10) (.const (.pointer none)) 78,4,"l13_net.go:99",#[⟨0,.data⟩],none⟩
abbrev q90:Oper:=⟨some 12,.move (.tmp 11),4,"l13_net.go:99",#[⟨1,.data⟩],none⟩
abbrev q91:Oper:=⟨some 13,.move (.tmp 5),78,"l13_net.go:99",#[⟨2,.guard⟩],some (2,false)⟩
abbrev q92:Oper:=⟨some 14,.nilCheck (.tmp 13),0,"l13_net.go:99",#[⟨3,.data⟩,⟨2,.guard⟩],some (2,false)⟩
abbrev q93:Oper:=⟨some 15,.fieldAddr 63 (.tmp 14) 2,0,"l13_net.go:99",#[⟨4,.data⟩,⟨2,.guard⟩],some (2,false)⟩
abbrev q94:Oper:=⟨some 16,.load 57 (.tmp 15),57,"l13_net.go:99",#[⟨5,.data⟩,⟨2,.guard⟩],some (2,false)⟩
abbrev q95:Oper:=⟨some 17,.fieldAddr 85 (.tmp 3) 1,0,"l13_net.go:99",#[⟨2,.guard⟩],some (2,false)⟩
abbrev q96:Oper:=⟨some 18,.load 3 (.tmp 17),3,"l13_net.go:99",#[⟨7,.data⟩,⟨2,.guard⟩],some (2,false)⟩
abbrev q97:Oper:=⟨some 19,.call ⟨.value (.func 102),#[.tmp 16,.tmp 18],#[142,3]⟩,4,"l13_net.go:99",#[⟨6,.data⟩,⟨8,.data⟩,⟨2,.chain⟩,⟨2,.guard⟩],some (2,false)⟩
abbrev q98:Oper:=⟨some 20,.unOp .not 4 (.tmp 19),4,"l13_net.go:99",#[⟨9,.data⟩,⟨2,.guard⟩],some (2,false)⟩
abbrev q99:Oper:=⟨some 21,.pick (.tmp 12) (.const (.bool true)) (.tmp 20),4,"l13_net.go:99",#[⟨2,.data⟩,⟨10,.data⟩],none⟩

def zaf (bs:List BR) (b p:Int):Option PT:=if 0≤b∧0≤p then (bs[b.toNat]?).bind (fun B=>B.ports[p.toNat]?) else none
def upAt (bs:List BR) (b p:Int):Bool:=match zaf bs b p with
 | some x=>x.up
 | none=>false
def zak (bs:List BR) (ls:List LK) (k:Int):Bool:=if 0≤k then (match ls[k.toNat]? with
 | some x=>upAt bs x.a x.p && upAt bs x.b x.q
 | none=>false) else false

theorem zea {N:NV} {k:Nat} {x:BV} (h:N.bs[k]?=some x):N.brs[k]?=some x.B:=by unfold NV.brs; rw [List.getElem?_map,h]; rfl
theorem zc3 (N:NV):N.brs.length=N.bs.length:=by unfold NV.brs; simp

theorem zgS {bs:List BR} {b p:Int} (h:(decide (0≤b) && decide (b≤(bs.length:Int) - 1))=false):zaf bs b p=none:=by
 unfold zaf
 split
 ·rename_i hc
  rw [List.getElem?_eq_none (by simp at h; omega)]
  rfl
 ·rfl
theorem ziE {bs:List BR} {k:Nat} {B:BR} (h:bs[k]?=some B) (p:Int):zaf bs (k:Int) p=if 0≤p then B.ports[p.toNat]? else none:=by
 unfold zaf;by_cases hp:0≤p
 ·rw [if_pos ⟨by omega,hp⟩,if_pos hp,Int.toNat_natCast,h]; rfl
 ·rw [if_neg (fun hc=>hp hc.2),if_neg hp]
theorem zfw {bs:List BR} {k:Nat} {B:BR} (h:bs[k]?=some B) {p:Int} (hp:(decide (0≤p) && decide (p≤(B.ports.length:Int) - 1))=false):zaf bs (k:Int) p=none:=by
 rw [ziE h]
 split
 ·exact List.getElem?_eq_none (by simp at hp; omega)
 ·rfl
theorem zgR {bs:List BR} {k:Nat} {B:BR} (h:bs[k]?=some B) {j:Nat} {y:PT} (hy:B.ports[j]?=some y):zaf bs (k:Int) (j:Int)=some y:=by
 rw [ziE h,if_pos (by omega),Int.toNat_natCast,hy]

theorem zfd (N:NV) (b p:Int) (w:World) (h:zax w N) :
  Calls Tryz.prog 62 #[.agg #[.slice N.ba N.bn N.bc,.slice N.la N.ln N.lc,.slice N.sa N.sn N.sc],.int .i64 b,.int .i64 p] w fun e w'=>e=.returned (.bool (upAt N.brs b p))∧Below w.heap.size w w':=by
 have hle:=Nat.le_trans h.b.le h.b.top;unfold maxLen at hle;have hsz:=h.b.size;generalize hG:upAt N.brs b p=U;have HG:=hide hG;clear hG;generalize hw1:w.alloc (Obj.cells #[.slice N.ba N.bn N.bc,.slice N.la N.ln N.lc,.slice N.sa N.sn N.sc] 31)=w1;have b01:=zb hw1;have k1:=zk hw1;obtain ⟨x0,x1,x2⟩:=zd k1;cases hA:(decide (0≤b) && decide (b≤(N.bn:Int) - 1))
 ·have HF:Hid (U=false):=hide (by rw [← HG.out]; unfold upAt; rw [zgS (by rw [zc3,hsz]; exact hA)]);go_enter Tryz.func62,Tryz.ntmps62;(go_wp2_with fail);refine (zg b 0 ((N.bn:Int) - 1) _).mono ?_;rintro e w2 ⟨rfl,ew⟩;obtain rfl:=ew.symm;rw [hA];clear hA;go_wp2;go_ret;exact ⟨by rw [HF.out]; rfl,b01⟩
 ·obtain ⟨k,rfl⟩:∃k:Nat,b=(k:Int):=⟨b.toNat,by simp at hA; omega⟩;have hk:k < N.bn:=by simp at hA; omega
  obtain ⟨x,bb,off,hx,hba,c0,c1,c2,c3,c4,c5,c6,c7,c8,c9,c10⟩:=br_at (h.b.below b01) k hk;have hm:=List.mem_of_getElem? hx;have hr:=(h.item x hm).below b01;have hpl:=Nat.le_trans hr.ports.le hr.ports.top;unfold maxLen at hpl;have i1:(0:Int)≤(k:Int):=by omega
  have i2:(k:Int) < (N.bn:Int):=by omega
  have HX:=hide (zea hx);clear hx hm;rw [hba] at x0;cases hB:(decide (0≤p) && decide (p≤(x.n:Int) - 1))
  ·have HF:Hid (U=false):=hide (by rw [← HG.out]; unfold upAt; rw [zfw HX.out (by rw [hr.ports.size]; exact hB)]);clear hba;go_enter Tryz.func62,Tryz.ntmps62;(go_wp2_with fail);refine (zg (k:Int) 0 ((N.bn:Int) - 1) _).mono ?_;rintro e w2 ⟨rfl,ew⟩;obtain rfl:=ew.symm;rw [hA];clear hA;(go_wp2_with fail);refine (zg p 0 ((x.n:Int) - 1) _).mono ?_;rintro e w2 ⟨rfl,ew⟩;obtain rfl:=ew.symm;rw [hB];clear hB;go_wp2;go_ret;exact ⟨by rw [HF.out]; rfl,b01⟩
  ·obtain ⟨j,rfl⟩:∃j:Nat,p=(j:Int):=⟨p.toNat,by simp at hB; omega⟩;have hj:j < x.n:=by simp at hB; omega
   obtain ⟨y,pb,po,hy,hpa,d0,-⟩:=pt_at hr.ports j hj;have HF:Hid (U=y.up):=hide (by rw [← HG.out]; unfold upAt; rw [zgR HX.out hy]);have i3:(0:Int)≤(j:Int):=by omega
   have i4:(j:Int) < (x.n:Int):=by omega
   rw [hpa] at c2;clear hba hpa;go_enter Tryz.func62,Tryz.ntmps62;(go_wp2_with fail);refine (zg (k:Int) 0 ((N.bn:Int) - 1) _).mono ?_;rintro e w2 ⟨rfl,ew⟩;obtain rfl:=ew.symm;rw [hA];clear hA;(go_wp2_with fail);refine (zg (j:Int) 0 ((x.n:Int) - 1) _).mono ?_;rintro e w2 ⟨rfl,ew⟩;obtain rfl:=ew.symm;rw [hB];clear hB;go_wp2;go_ret;exact ⟨by rw [HF.out]; rfl,b01⟩

theorem zbw (N:NV) (k:Int) (w:World) (h:zax w N) :
  Calls Tryz.prog 20 #[.agg #[.slice N.ba N.bn N.bc,.slice N.la N.ln N.lc,.slice N.sa N.sn N.sc],.int .i64 k] w fun e w'=>e=.returned (.bool (zak N.brs N.ls k))∧Below w.heap.size w w':=by
 have hle:=Nat.le_trans h.l.le h.l.top;unfold maxLen at hle;have hsz:=h.l.size;generalize hG:zak N.brs N.ls k=U;have HG:=hide hG;clear hG;generalize hw1:w.alloc (Obj.cells #[.slice N.ba N.bn N.bc,.slice N.la N.ln N.lc,.slice N.sa N.sn N.sc] 31)=w1;have b01:=zb hw1;have k1:=zk hw1;obtain ⟨x0,x1,x2⟩:=zd k1;cases hA:(decide (0≤k) && decide (k≤(N.ln:Int) - 1))
 ·have HF:Hid (U=false):=hide (by
   rw [← HG.out];unfold zak
   split
   ·rw [List.getElem?_eq_none (by simp at hA; omega)]
   ·rfl)
  go_enter Tryz.func20,Tryz.ntmps20;(go_wp2_with fail);refine (zg k 0 ((N.ln:Int) - 1) _).mono ?_;rintro e w2 ⟨rfl,ew⟩;obtain rfl:=ew.symm;rw [hA];clear hA;go_wp2;go_ret;exact ⟨by rw [HF.out]; rfl,b01⟩
 ·obtain ⟨j,rfl⟩:∃j:Nat,k=(j:Int):=⟨k.toNat,by simp at hA; omega⟩;have hj:j < N.ln:=by simp at hA; omega
  obtain ⟨x,lb,off,hx,hla,a0,a1,a2,a3⟩:=zaF (h.l.below b01) j hj;have HF:Hid (U=(upAt N.brs x.a x.p && upAt N.brs x.b x.q)):=hide (by rw [← HG.out]; unfold zak; rw [if_pos (by omega),Int.toNat_natCast,hx]);have i1:(0:Int)≤(j:Int):=by omega
  have i2:(j:Int) < (N.ln:Int):=by omega
  have y1:=x1;rw [hla] at y1;clear hx;have HLA:=hide hla;clear hla x1;go_enter Tryz.func20,Tryz.ntmps20;(go_wp2_with fail);refine (zg (j:Int) 0 ((N.ln:Int) - 1) _).mono ?_;rintro e w2 ⟨rfl,ew⟩;obtain rfl:=ew.symm;rw [hA];clear hA;generalize hwa:w1.alloc (Obj.cells #[.int .i64 x.a,.int .i64 x.p,.int .i64 x.b,.int .i64 x.q] 44)=wa;have ba:=zb hwa;have ka:=zk hwa;have kNe:=za k1 ba;have b0a:=zc b01 ba;obtain ⟨z0,z1,z2⟩:=zd kNe;obtain ⟨u0,u1,u2,u3⟩:=zK ka;(go_wp2_with fail);refine (zfd N x.a x.p _ (h.below b0a)).mono ?_;rintro e w3 ⟨rfl,hb3⟩;have kNe:=za kNe hb3;have ka:=za ka hb3;have b03:=zc b0a hb3;clear z0 z1 z2 u0 u1 u2 u3 a0 a1 a2 a3 x0 x2 y1 hwa hb3 ba;generalize hR:w1.heap.size=R at *;obtain ⟨z0,z1,z2⟩:=zd kNe;obtain ⟨u0,u1,u2,u3⟩:=zK ka;cases hU:upAt N.brs x.a x.p
  ·have HF:Hid (U=false):=hide (by rw [HF.out,hU]; rfl);go_wp2;go_ret;exact ⟨by rw [HF.out]; rfl,b03⟩
  ·have HF:Hid (U=upAt N.brs x.b x.q):=hide (by rw [HF.out,hU]; rfl);(go_wp2_with fail);refine (zfd N x.b x.q _ (h.below b03)).mono ?_;rintro e w4 ⟨rfl,hb4⟩;have HB:=hide (zc b03 hb4);clear z0 z1 z2 u0 u1 u2 u3 hb4;go_wp2;go_ret;exact ⟨by rw [HF.out]; rfl,HB.out⟩

theorem zfR (a:Option Addr) (n c:Nat) (port:Int) (w:World) (hn:n≤9223372036854775807) :
  Calls Tryz.prog 102 #[.slice a n c,.int .i64 port] w fun e w'=>e=.returned (.bool (decide (0≤port) && decide (port≤(n:Int) - 1)))∧w'=w:=by
 go_enter Tryz.func102,Tryz.ntmps102;go_wp2_with fail
 refine (zD port 0 ((n:Int) - 1) _).mono ?_;rintro r w3 ⟨rfl,ew⟩;obtain rfl:=ew.symm;go_wp2;go_ret;exact ⟨rfl,rfl⟩

theorem zgu (N:NV) (b:Int) (w:World) (hle:N.bn≤9223372036854775807) (hA:(decide (0≤b) && decide (b≤(N.bn:Int) - 1))=false) :
  Calls Tryz.prog 44 #[.agg #[.slice N.ba N.bn N.bc,.slice N.la N.ln N.lc,.slice N.sa N.sn N.sc],.int .i64 b] w fun e w'=>e=.returned (.pointer none)∧Below w.heap.size w w':=by
 generalize hw1:w.alloc (Obj.cells #[.slice N.ba N.bn N.bc,.slice N.la N.ln N.lc,.slice N.sa N.sn N.sc] 31)=w1;have b01:=zb hw1;have k1:=zk hw1;obtain ⟨x0,x1,x2⟩:=zd k1;go_enter Tryz.func44,Tryz.ntmps44;go_wp2_with fail
 refine (zD b 0 ((N.bn:Int) - 1) _).mono ?_;rintro e w2 ⟨rfl,ew⟩;obtain rfl:=ew.symm;rw [hA];clear hA;go_wp2;go_ret;exact ⟨rfl,b01⟩

theorem zbf (N:NV) (k:Nat) (g off:Nat) (w:World) (hle:N.bn≤9223372036854775807) (hk:k < N.bn) (hba:N.ba=some ⟨g,off,none⟩) :
  Calls Tryz.prog 44 #[.agg #[.slice N.ba N.bn N.bc,.slice N.la N.ln N.lc,.slice N.sa N.sn N.sc],.int .i64 (k:Int)] w fun e w'=>e=.returned (.pointer (some ⟨g,off+k*11,none⟩))∧Below w.heap.size w w':=by
 generalize hw1:w.alloc (Obj.cells #[.slice N.ba N.bn N.bc,.slice N.la N.ln N.lc,.slice N.sa N.sn N.sc] 31)=w1;have b01:=zb hw1;have k1:=zk hw1;obtain ⟨x0,x1,x2⟩:=zd k1;have hA:(decide (0≤(k:Int)) && decide ((k:Int)≤(N.bn:Int) - 1))=true:=by simp; omega
 have i1:(0:Int)≤(k:Int):=by omega
 have i2:(k:Int) < (N.bn:Int):=by omega
 rw [hba] at x0;clear hba;go_enter Tryz.func44,Tryz.ntmps44;go_wp2_with fail
 refine (zD (k:Int) 0 ((N.bn:Int) - 1) _).mono ?_;rintro e w2 ⟨rfl,ew⟩;obtain rfl:=ew.symm;rw [hA];clear hA;go_wp2;go_ret;exact ⟨rfl,b01⟩

def PtAt (w:World) (v:Option Addr) (o:Option PT):Prop:=match o with
 | none=>v=none
 | some y=>∃g j:Nat,v=some ⟨g,j,none⟩∧w.cell? ⟨g,j,none⟩=some (.bool y.up)
def PtAll (w:World) (v:Option Addr) (o:Option PT):Prop:=match o with
 | none=>v=none
 | some y=>∃g j:Nat,v=some ⟨g,j,none⟩∧w.cell? ⟨g,j,none⟩=some (.bool y.up)∧w.cell? ⟨g,j+1,none⟩=some (.int .i64 y.k)∧w.cell? ⟨g,j+2,none⟩=some (.bool y.has)∧w.cell? ⟨g,j+3,none⟩=some (.int .i64 y.v.r)∧w.cell? ⟨g,j+4,none⟩=some (.int .i64 y.v.c)∧w.cell? ⟨g,j+5,none⟩=some (.int .i64 y.v.h)∧w.cell? ⟨g,j+6,none⟩=some (.int .i64 y.v.b)∧w.cell? ⟨g,j+7,none⟩=some (.int .i64 y.v.p)
theorem PtAll.upAt {w:World} {v:Option Addr} {o:Option PT} (h:PtAll w v o):PtAt w v o:=by
 cases o with
 | none=>exact h
 | some y =>
  obtain ⟨g,j,e,c,-⟩:=h;exact ⟨g,j,e,c⟩

theorem zhV (N:NV) (b p:Int) (w:World) (h:zax w N) :
  Calls Tryz.prog 61 #[.agg #[.slice N.ba N.bn N.bc,.slice N.la N.ln N.lc,.slice N.sa N.sn N.sc],.agg #[.int .i64 b,.int .i64 p]] w fun e w'=>∃v,e=.returned (.pointer v)∧PtAll w v (zaf N.brs b p)∧Below w.heap.size w w':=by
 have hle:=Nat.le_trans h.b.le h.b.top;unfold maxLen at hle;have hsz:=h.b.size;generalize hw1:w.alloc (Obj.cells #[.slice N.ba N.bn N.bc,.slice N.la N.ln N.lc,.slice N.sa N.sn N.sc] 31)=w1;generalize hw2:w1.alloc (Obj.cells #[.int .i64 b,.int .i64 p] 85)=w2;have b01:=zb hw1;have b12:=zb hw2;have kNe:=za (zk hw1) b12;have kE:=zk hw2;have b02:=zc b01 b12;obtain ⟨x0,x1,x2⟩:=zd kNe;obtain ⟨e0,e1⟩:=zj kE;cases hA:(decide (0≤b) && decide (b≤(N.bn:Int) - 1))
 ·have HF:=hide (zgS (bs:=N.brs) (b:=b) (p:=p) (by rw [zc3,hsz]; exact hA));go_enter Tryz.func61,Tryz.ntmps61;(go_wp2_with fail);refine (zgu N b _ hle hA).mono ?_;rintro e w3 ⟨rfl,hb3⟩;have b03:=zc b02 hb3;clear x0 x1 x2 e0 e1 hb3;have vv:Below w3.heap.size w3 w3.drew:=zp (Below.refl _ _);(go_wp2_with fail);refine wp_region_held_drew (S:=(fun _=>True)) (by kernel_rfl) (trivial) (fun hHeld => ?_);refine kK 0 q88 ?_;refine kK 1 q89 ?_;refine kK 2 q90 ?_;refine kN 3 q91 ?_;refine kN 4 q92 ?_;refine kN 5 q93 ?_;refine kN 6 q94 ?_;refine kN 7 q95 ?_;refine kN 8 q96 ?_;refine kN 9 q97 ?_;refine kN 10 q98 ?_;refine kK 11 q99 ?_;refine wpAnyH_done (by kernel_rfl) ?_ _;have HB:=hide (zc b03 vv);clear hHeld vv;go_wp2;go_ret;exact ⟨none,rfl,by rw [HF.out]; rfl,HB.out⟩
 ·obtain ⟨k,rfl⟩:∃k:Nat,b=(k:Int):=⟨b.toNat,by simp at hA; omega⟩;have hk:k < N.bn:=by simp at hA; omega
  obtain ⟨x,bb,off,hx,hba,cc0,cc1,cc2,-⟩:=br_at h.b k hk;have hr:=h.item x (List.mem_of_getElem? hx);have hpl:=Nat.le_trans hr.ports.le hr.ports.top;unfold maxLen at hpl;have HX:=hide (zea hx);have HBA:=hide hba;clear hx hA hba;go_enter Tryz.func61,Tryz.ntmps61;(go_wp2_with fail);refine (zbf N k bb off _ hle hk HBA.out).mono ?_;rintro e w3 ⟨rfl,hb3⟩;have b03:=zc b02 hb3;have kE:=za kE hb3;have c2:=(b03.cell (zl cc2)).trans cc2;clear x0 x1 x2 e0 e1 hb3 cc0 cc1 cc2;obtain ⟨e0,e1⟩:=zj kE;generalize hR:w1.heap.size=R at *;have vv:Below w3.heap.size w3 w3.drew:=zp (Below.refl _ _);(go_wp2_with fail);cases hB:(decide (0≤p) && decide (p≤(x.n:Int) - 1))
  ·have HF:=hide (zfw HX.out (by rw [hr.ports.size]; exact hB));refine wp_region_held_drew (S:=(fun W=>W.cell? ⟨bb,off+k*11+2,none⟩=some (.slice x.a x.n x.c)∧W.cell? ⟨R,1,none⟩=some (.int .i64 p))) (by kernel_rfl) (⟨(vv.cell (zl c2)).trans c2,(zj (za kE vv)).2⟩) (fun hHeld => ?_);refine kK 0 q88 ?_;refine kK 1 q89 ?_;refine kK 2 q90 ?_;refine kK 3 q91 ?_;refine kK 4 q92 ?_;refine kK 5 q93 ?_;refine kK 6 q94 ?_;refine kK 7 q95 ?_;refine kK 8 q96 ?_;refine kR 9 q97 (fun K hK => ?_);go_simp;refine (zfR x.a x.n x.c p _ hpl).mono ?_;rintro r wz ⟨rfl,ew⟩;obtain rfl:=ew.symm;rw [hB];(go_wp2_with fail);refine hK.out _ _ (⟨(vv.cell (zl c2)).trans c2,(zj (za kE vv)).2⟩) (fun hHeld => ?_);clear hK K;(try simp only [Act.put,lA,lB,lC]);refine kK 10 q98 ?_;refine kK 11 q99 ?_;refine wpAnyH_done (by kernel_rfl) ?_ _;have HB:=hide (zc b03 vv);clear hHeld vv c2 kE;go_wp2;go_ret;exact ⟨none,rfl,by rw [HF.out]; rfl,HB.out⟩
  ·obtain ⟨j,rfl⟩:∃j:Nat,p=(j:Int):=⟨p.toNat,by simp at hB; omega⟩;have hj:j < x.n:=by simp at hB; omega
   obtain ⟨y,pb,po,hy,hpa,d0⟩:=pt_at hr.ports j hj;have HF:=hide (zgR HX.out hy);have i3:(0:Int)≤(j:Int):=by omega
   have i4:(j:Int) < (x.n:Int):=by omega
   have HD:=hide d0;rw [hpa] at c2;clear hpa d0;refine wp_region_held_drew (S:=(fun W=>W.cell? ⟨bb,off+k*11+2,none⟩=some (.slice (some ⟨pb,po,none⟩) x.n x.c)∧W.cell? ⟨R,1,none⟩=some (.int .i64 (j:Int)))) (by kernel_rfl) (⟨(vv.cell (zl c2)).trans c2,(zj (za kE vv)).2⟩) (fun hHeld => ?_);refine kK 0 q88 ?_;refine kK 1 q89 ?_;refine kK 2 q90 ?_;refine kK 3 q91 ?_;refine kK 4 q92 ?_;refine kK 5 q93 ?_;refine kK 6 q94 ?_;refine kK 7 q95 ?_;refine kK 8 q96 ?_;refine kR 9 q97 (fun K hK => ?_);go_simp;refine (zfR (some ⟨pb,po,none⟩) x.n x.c (j:Int) _ hpl).mono ?_;rintro r wz ⟨rfl,ew⟩;obtain rfl:=ew.symm;rw [hB];(go_wp2_with fail);refine hK.out _ _ (⟨(vv.cell (zl c2)).trans c2,(zj (za kE vv)).2⟩) (fun hHeld => ?_);clear hK K;(try simp only [Act.put,lA,lB,lC]);refine kK 10 q98 ?_;refine kK 11 q99 ?_;refine wpAnyH_done (by kernel_rfl) ?_ _;have HB:=hide (zc b03 (zp vv));have c2:=(vv.cell (zl c2)).trans c2;have e1:=(zj (za kE vv)).2;clear hHeld vv kE hB;(go_wp2_with fail)
   go_region
   go_wp2;go_ret;exact ⟨_,rfl,by rw [HF.out]; exact ⟨_,_,rfl,HD.out⟩,HB.out⟩

theorem zcL (N:NV) (b p:Int) (w:World) (h:zax w N) :
  Calls Tryz.prog 61 #[.agg #[.slice N.ba N.bn N.bc,.slice N.la N.ln N.lc,.slice N.sa N.sn N.sc],.agg #[.int .i64 b,.int .i64 p]] w fun e w'=>∃v,e=.returned (.pointer v)∧PtAt w v (zaf N.brs b p)∧Below w.heap.size w w':=by
 refine (zhV N b p w h).mono ?_;rintro e w1 ⟨v,rfl,hv,hb⟩;exact ⟨v,rfl,hv.upAt,hb⟩

def endsL (ls:List LK):List (Int × Int):=ls.flatMap fun x=>[(x.a,x.p),(x.b,x.q)]
def usedL (ls:List LK) (b p:Int):Nat:=(endsL ls).count (b,p)

def zg2 (bs:List BR):Prop:=∀(i j:Nat) (x y:BR),i < j→bs[i]?=some x→bs[j]?=some y→x.id≠y.id
def zaI (bs:List BR):Prop:=(∀x∈bs,zx x=true)∧zg2 bs∧1≤bs.length∧bs.length≤6
def zd5 (ls:List LK) (i:Nat) (B:BR):Prop:=∀(p:Nat) (x:PT),B.ports[p]?=some x→x.has=true→usedL ls (i:Int) (p:Int)≠0
def Quiet (bs:List BR) (ls:List LK):Prop:=∀(i:Nat) (B:BR),bs[i]?=some B→zd5 ls i B
def za3 (bs:List BR) (x:LK):Prop:=x.a≠x.b∧∃u v,zaf bs x.a x.p=some u∧zaf bs x.b x.q=some v∧u.up=v.up
def zfE (bs:List BR) (ls:List LK) (x:LK):Prop:=za3 bs x∧usedL ls x.a x.p=1∧usedL ls x.b x.q=1
def zaQ (bs:List BR) (ls:List LK):Prop:=ls.length≤9∧∀x∈ls,zfE bs ls x
def SayOk (ls:List LK) (s:SY):Prop:=(decide (0≤s.l) && decide (s.l≤(ls.length:Int) - 1))=true∧okVd s.v=true
def zcr (ls:List LK) (ss:List SY):Prop:=ss.length≤40∧∀s∈ss,SayOk ls s
def NetOk (bs:List BR) (ls:List LK) (ss:List SY):Prop:=zaI bs∧zaQ bs ls∧Quiet bs ls∧zcr ls ss

theorem zdW (l l':List LK):endsL (l++l')=endsL l++endsL l':=by simp [endsL]
theorem zdb (x:LK) (l:List LK):endsL (x::l)=(x.a,x.p)::(x.b,x.q)::endsL l:=by simp [endsL]
theorem zdc {ls:List LK} {x:LK} (h:x∈ls):(x.a,x.p)∈endsL ls∧(x.b,x.q)∈endsL ls :=
 ⟨List.mem_flatMap.2 ⟨x,h,by simp⟩,List.mem_flatMap.2 ⟨x,h,by simp⟩⟩
theorem zgy (ls:List LK):(endsL ls).length=2*ls.length:=by
 induction ls with
 | nil=>rfl
 | cons x l ih=>rw [zdb]; simp only [List.length_cons,ih]; omega

def hit (b p a q:Int):Nat:=if a=b∧q=p then 1 else 0

theorem zbr {ls:List LK} {k:Nat} {x:LK} (h:ls[k]?=some x) (b p:Int):usedL (ls.take (k+1)) b p=usedL (ls.take k) b p+hit b p x.a x.p+hit b p x.b x.q:=by
 have e:ls.take (k+1)=ls.take k++[x]:=by rw [List.take_add_one,h]; rfl
 unfold usedL hit;rw [e,zdW,List.count_append,zdb];simp only [List.count_cons,endsL,List.flatMap_nil,List.count_nil,beq_iff_eq,Prod.mk.injEq];omega

theorem ziU (ls:List LK) (b p:Int):usedL ls b p≤2*ls.length:=by
 unfold usedL;rw [← zgy];exact List.count_le_length

theorem zif (ls:List LK):(endsL ls).Nodup↔∀x∈ls,usedL ls x.a x.p=1∧usedL ls x.b x.q=1:=by
 constructor
 ·intro h x hx;obtain ⟨h1,h2⟩:=zdc hx;have e:=List.nodup_iff_count.1 h;have p1:=List.count_pos_iff.2 h1;have p2:=List.count_pos_iff.2 h2;have e1:=e (x.a,x.p);have e2:=e (x.b,x.q);unfold usedL;exact ⟨by omega,by omega⟩
 ·intro h;refine List.nodup_iff_count.2 fun e => ?_
  by_cases he:e∈endsL ls
  ·obtain ⟨x,hx,hm⟩:=List.mem_flatMap.1 he
   simp at hm
   have h1:=h x hx;unfold usedL at h1;rcases hm with rfl | rfl
   ·omega
   ·omega
  ·rw [List.count_eq_zero_of_not_mem he]; omega

theorem zbQ (bs:List BR) (ls:List LK):zaQ bs ls↔ls.length≤9∧(∀x∈ls,za3 bs x)∧(endsL ls).Nodup:=by
 rw [zif];unfold zaQ zfE
 constructor
 ·rintro ⟨h1,h2⟩;exact ⟨h1,fun x hx=>(h2 x hx).1,fun x hx=>(h2 x hx).2⟩
 ·rintro ⟨h1,h2,h3⟩;exact ⟨h1,fun x hx=>⟨h2 x hx,h3 x hx⟩⟩

theorem zgs (ls:List LK) (b p:Int):zbz ls b p=none↔usedL ls b p=0:=by
 unfold zbz usedL;rw [List.findSome?_eq_none_iff,List.count_eq_zero]
 constructor
 ·intro h hm;obtain ⟨x,hx,he⟩:=List.mem_flatMap.1 hm
  have:=h x hx
  unfold zaZ at this;simp only [List.mem_cons,Prod.mk.injEq,List.not_mem_nil,or_false] at he;rcases he with ⟨h1,h2⟩ | ⟨h1,h2⟩
  ·rw [if_pos ⟨h1.symm,h2.symm⟩] at this; cases this
  ·split at this
   ·cases this
   ·rw [if_pos ⟨h1.symm,h2.symm⟩] at this; cases this
 ·intro h x hx;obtain ⟨m1,m2⟩:=zdc hx;unfold zaZ;rw [if_neg,if_neg]
  ·rintro ⟨h1,h2⟩; exact h (by rw [← h1,← h2]; exact m2)
  ·rintro ⟨h1,h2⟩; exact h (by rw [← h1,← h2]; exact m1)

theorem zbF {α:Type} {l:List α} {k:Nat} {x:α} {P:α→Prop} (h:l[k]?=some x) (hp:∀y∈l.take k,P y) (hx:P x):∀y∈l.take (k+1),P y:=by
 rw [List.take_add_one,h];intro y hy;rcases List.mem_append.1 hy with hy | hy
 ·exact hp y hy
 ·have:=List.mem_singleton.1 (by simpa using hy)
  rw [this]; exact hx

theorem zbh (N:NV) (b p:Int) (w:World) (h:zax w N) (hsm:N.ln≤16777216) :
  Calls Tryz.prog 81 #[.agg #[.slice N.ba N.bn N.bc,.slice N.la N.ln N.lc,.slice N.sa N.sn N.sc],.int .i64 b,.int .i64 p] w fun e w'=>e=.returned (.int .i64 (usedL N.ls b p))∧Below w.heap.size w w':=by
 have hsz:=hide h.l.size;go_enter Tryz.func81,Tryz.ntmps81;go_wp2_with fail
 generalize hw1:w.alloc (Obj.cells #[.slice N.ba N.bn N.bc,.slice N.la N.ln N.lc,.slice N.sa N.sn N.sc] 31)=w1;have b01:=zb hw1;have k1:=zk hw1;clear hw1
 go_loopw [7,8] (fun m i wr=>∃k:Nat,k≤N.ln∧i=.int .i64 k∧m=.int .i64 (usedL (N.ls.take k) b p:Nat)∧wr.heap[w.heap.size]?=some (.cells #[.slice N.ba N.bn N.bc,.slice N.la N.ln N.lc,.slice N.sa N.sn N.sc] 31)∧Below w.heap.size w wr) (fun _ i _=>N.ln - (intOf i).toNat)
 case atStart=>exact ⟨0,Nat.zero_le _,rfl,by simp [usedL,endsL],k1,b01⟩
 case round =>
  obtain ⟨k,hk,rfl,rfl,hbox,hb⟩:=hrel;clear k1 b01;obtain ⟨x0,x1,x2⟩:=zd hbox;by_cases hlt:k < N.ln
  ·obtain ⟨x,lb,off,hx,hla,a0,a1,a2,a3⟩:=zaF (h.l.below hb) k hlt;rw [hla] at x1;clear hla;have i1:(0:Int)≤(k:Int):=by omega
   have i2:(k:Int) < (N.ln:Int):=by omega
   have hul:usedL (N.ls.take k) b p≤33554432:=by have:=ziU (N.ls.take k) b p; rw [List.length_take] at this; omega
   have HX:=hide hx;have KB:Hid (∀o:Obj,(wr.alloc o).heap[w.heap.size]?=some (.cells #[.slice N.ba N.bn N.bc,.slice N.la N.ln N.lc,.slice N.sa N.sn N.sc] 31)∧Below w.heap.size w (wr.alloc o)):=hide (fun o=>⟨za hbox (zm _ _),zc hb (zm _ _)⟩);clear hx hb hbox;by_cases st:x.a=b∧x.p=p
   ·obtain ⟨s,t⟩:=id st;by_cases uv:x.b=b∧x.q=p
    ·obtain ⟨u,v⟩:=id uv;have HM:Hid (usedL (N.ls.take (k+1)) b p=usedL (N.ls.take k) b p+2):=hide (by rw [zbr HX.out]; unfold hit; rw [if_pos st,if_pos uv]);generalize hU:usedL (N.ls.take k) b p=U at *;go_wp2
     go_roundw
     case rel=>exact ⟨k+1,by omega,by go_num,by rw [HM.out]; go_num,KB.out _⟩
     case measure=>simp [intOf]; omega
    ·by_cases u:x.b=b
     ·have v:¬x.q=p:=fun q=>uv ⟨u,q⟩
      have HM:Hid (usedL (N.ls.take (k+1)) b p=usedL (N.ls.take k) b p+1):=hide (by rw [zbr HX.out]; unfold hit; rw [if_pos st,if_neg uv]);generalize hU:usedL (N.ls.take k) b p=U at *;go_wp2
      go_roundw
      case rel=>exact ⟨k+1,by omega,by go_num,by rw [HM.out]; go_num,KB.out _⟩
      case measure=>simp [intOf]; omega
     ·have HM:Hid (usedL (N.ls.take (k+1)) b p=usedL (N.ls.take k) b p+1):=hide (by rw [zbr HX.out]; unfold hit; rw [if_pos st,if_neg uv]);generalize hU:usedL (N.ls.take k) b p=U at *;go_wp2
      go_roundw
      case rel=>exact ⟨k+1,by omega,by go_num,by rw [HM.out]; go_num,KB.out _⟩
      case measure=>simp [intOf]; omega
   ·by_cases s:x.a=b
    ·have t:¬x.p=p:=fun q=>st ⟨s,q⟩
     by_cases uv:x.b=b∧x.q=p
     ·obtain ⟨u,v⟩:=id uv;have HM:Hid (usedL (N.ls.take (k+1)) b p=usedL (N.ls.take k) b p+1):=hide (by rw [zbr HX.out]; unfold hit; rw [if_neg st,if_pos uv]);generalize hU:usedL (N.ls.take k) b p=U at *;go_wp2
      go_roundw
      case rel=>exact ⟨k+1,by omega,by go_num,by rw [HM.out]; go_num,KB.out _⟩
      case measure=>simp [intOf]; omega
     ·by_cases u:x.b=b
      ·have v:¬x.q=p:=fun q=>uv ⟨u,q⟩
       have HM:Hid (usedL (N.ls.take (k+1)) b p=usedL (N.ls.take k) b p+0):=hide (by rw [zbr HX.out]; unfold hit; rw [if_neg st,if_neg uv]);generalize hU:usedL (N.ls.take k) b p=U at *;go_wp2
       go_roundw
       case rel=>exact ⟨k+1,by omega,by go_num,by rw [HM.out]; go_num,KB.out _⟩
       case measure=>simp [intOf]; omega
      ·have HM:Hid (usedL (N.ls.take (k+1)) b p=usedL (N.ls.take k) b p+0):=hide (by rw [zbr HX.out]; unfold hit; rw [if_neg st,if_neg uv]);generalize hU:usedL (N.ls.take k) b p=U at *;go_wp2
       go_roundw
       case rel=>exact ⟨k+1,by omega,by go_num,by rw [HM.out]; go_num,KB.out _⟩
       case measure=>simp [intOf]; omega
    ·by_cases uv:x.b=b∧x.q=p
     ·obtain ⟨u,v⟩:=id uv;have HM:Hid (usedL (N.ls.take (k+1)) b p=usedL (N.ls.take k) b p+1):=hide (by rw [zbr HX.out]; unfold hit; rw [if_neg st,if_pos uv]);generalize hU:usedL (N.ls.take k) b p=U at *;go_wp2
      go_roundw
      case rel=>exact ⟨k+1,by omega,by go_num,by rw [HM.out]; go_num,KB.out _⟩
      case measure=>simp [intOf]; omega
     ·by_cases u:x.b=b
      ·have v:¬x.q=p:=fun q=>uv ⟨u,q⟩
       have HM:Hid (usedL (N.ls.take (k+1)) b p=usedL (N.ls.take k) b p+0):=hide (by rw [zbr HX.out]; unfold hit; rw [if_neg st,if_neg uv]);generalize hU:usedL (N.ls.take k) b p=U at *;go_wp2
       go_roundw
       case rel=>exact ⟨k+1,by omega,by go_num,by rw [HM.out]; go_num,KB.out _⟩
       case measure=>simp [intOf]; omega
      ·have HM:Hid (usedL (N.ls.take (k+1)) b p=usedL (N.ls.take k) b p+0):=hide (by rw [zbr HX.out]; unfold hit; rw [if_neg st,if_neg uv]);generalize hU:usedL (N.ls.take k) b p=U at *;go_wp2
       go_roundw
       case rel=>exact ⟨k+1,by omega,by go_num,by rw [HM.out]; go_num,KB.out _⟩
       case measure=>simp [intOf]; omega
  ·have hkn:k=N.ln:=by omega
   rw [List.take_of_length_le (by have:=hsz.out; omega)];subst hkn;go_wp2;go_ret;exact ⟨rfl,hb⟩

def endOk (bs:List BR) (ls:List LK) (b p:Int):Bool:=(zaf bs b p).isSome && decide (usedL ls b p=1)

theorem zbS (N:NV) (b p:Int) (w:World) (h:zax w N) (hsm:N.ln≤16777216) :
  Calls Tryz.prog 58 #[.agg #[.slice N.ba N.bn N.bc,.slice N.la N.ln N.lc,.slice N.sa N.sn N.sc],.int .i64 b,.int .i64 p] w fun e w'=>e=.returned (.bool (endOk N.brs N.ls b p))∧Below w.heap.size w w':=by
 have hle:=Nat.le_trans h.b.le h.b.top;unfold maxLen at hle;have hsz:=h.b.size;generalize hG:endOk N.brs N.ls b p=U;have HG:=hide hG;clear hG;generalize hw1:w.alloc (Obj.cells #[.slice N.ba N.bn N.bc,.slice N.la N.ln N.lc,.slice N.sa N.sn N.sc] 31)=w1;have b01:=zb hw1;have k1:=zk hw1;obtain ⟨x0,x1,x2⟩:=zd k1;cases hA:(decide (0≤b) && decide (b≤(N.bn:Int) - 1))
 ·have HF:Hid (U=false):=hide (by rw [← HG.out]; unfold endOk; rw [zgS (by rw [zc3,hsz]; exact hA)]; rfl);go_enter Tryz.func58,Tryz.ntmps58;(go_wp2_with fail);refine (zg b 0 ((N.bn:Int) - 1) _).mono ?_;rintro e w2 ⟨rfl,ew⟩;obtain rfl:=ew.symm;rw [hA];clear hA;go_wp2;go_ret;exact ⟨by rw [HF.out]; rfl,b01⟩
 ·obtain ⟨k,rfl⟩:∃k:Nat,b=(k:Int):=⟨b.toNat,by simp at hA; omega⟩;have hk:k < N.bn:=by simp at hA; omega
  obtain ⟨x,bb,off,hx,hba,c0,c1,c2,c3,c4,c5,c6,c7,c8,c9,c10⟩:=br_at (h.b.below b01) k hk;have hr:=(h.item x (List.mem_of_getElem? hx)).below b01;have hpl:=Nat.le_trans hr.ports.le hr.ports.top;unfold maxLen at hpl;have i1:(0:Int)≤(k:Int):=by omega
  have i2:(k:Int) < (N.bn:Int):=by omega
  have HX:=hide (zea hx);have K1:=hide k1;clear hx;rw [hba] at x0;cases hB:(decide (0≤p) && decide (p≤(x.n:Int) - 1))
  ·have HF:Hid (U=false):=hide (by rw [← HG.out]; unfold endOk; rw [zfw HX.out (by rw [hr.ports.size]; exact hB)]; rfl);clear hba;go_enter Tryz.func58,Tryz.ntmps58;(go_wp2_with fail);refine (zg (k:Int) 0 ((N.bn:Int) - 1) _).mono ?_;rintro e w2 ⟨rfl,ew⟩;obtain rfl:=ew.symm;rw [hA];clear hA;(go_wp2_with fail);refine (zg p 0 ((x.n:Int) - 1) _).mono ?_;rintro e w2 ⟨rfl,ew⟩;obtain rfl:=ew.symm;rw [hB];clear hB;go_wp2;go_ret;exact ⟨by rw [HF.out]; rfl,b01⟩
  ·obtain ⟨j,rfl⟩:∃j:Nat,p=(j:Int):=⟨p.toNat,by simp at hB; omega⟩;have hj:j < x.n:=by simp at hB; omega
   obtain ⟨y,pb,po,hy,-,-⟩:=pt_at hr.ports j hj;have HF:Hid (U=decide (usedL N.ls (k:Int) (j:Int)=1)):=hide (by rw [← HG.out]; unfold endOk; rw [zgR HX.out hy]; rfl);have i3:(0:Int)≤(j:Int):=by omega
   have i4:(j:Int) < (x.n:Int):=by omega
   clear hba hy;go_enter Tryz.func58,Tryz.ntmps58;(go_wp2_with fail);refine (zg (k:Int) 0 ((N.bn:Int) - 1) _).mono ?_;rintro e w2 ⟨rfl,ew⟩;obtain rfl:=ew.symm;rw [hA];clear hA;(go_wp2_with fail);refine (zg (j:Int) 0 ((x.n:Int) - 1) _).mono ?_;rintro e w2 ⟨rfl,ew⟩;obtain rfl:=ew.symm;rw [hB];clear hB;clear x0;obtain ⟨x0,-,-⟩:=zd K1.out;(go_wp2_with fail);refine (zbh N (k:Int) (j:Int) _ (h.below b01) hsm).mono ?_;rintro e w5 ⟨rfl,hb5⟩;have HB:=hide (zc b01 hb5);clear hb5 x0 x1 x2 c0 c1 c2 c3 c4 c5 c6 c7 c8 c9 c10;generalize hV:usedL N.ls (k:Int) (j:Int)=V at *;have HV:Hid (decide ((V:Int)=1)=decide (V=1)):=hide (by by_cases e:V=1 <;> simp [e]; omega);go_wp2;go_ret;exact ⟨by rw [HF.out]; exact zI (by by_cases e:V=1 <;> simp [e] <;> omega),HB.out⟩

theorem bs_at {N:NV} {i:Nat} {y:BR} (hy:N.brs[i]?=some y):∃x,N.bs[i]?=some x∧x.B=y:=by
 unfold NV.brs at hy;rw [List.getElem?_map] at hy;cases hx:N.bs[i]? with
 | none=>rw [hx] at hy; cases hy
 | some x=>rw [hx] at hy; exact ⟨x,rfl,Option.some.inj hy⟩

theorem zaH {P:Prop} (h:¬P):(false=true)↔P:=⟨fun e=>(by cases e),fun p=>absurd p h⟩
theorem zdJ {P:Prop} (h:P):(true=true)↔P:=⟨fun _=>h,fun _=>rfl⟩

theorem zex (N:NV) (w:World) (h:zax w N) (hsm:N.ln≤16777216) :
  Calls Tryz.prog 57 #[.agg #[.slice N.ba N.bn N.bc,.slice N.la N.ln N.lc,.slice N.sa N.sn N.sc]] w fun e w'=>∃q:Bool,e=.returned (.bool q)∧(q=true↔zaI N.brs∧Quiet N.brs N.ls)∧Below w.heap.size w w':=by
 have hle:=Nat.le_trans h.b.le h.b.top;unfold maxLen at hle;have hsz:=hide h.b.size;go_enter Tryz.func57,Tryz.ntmps57;go_wp2_with fail
 generalize hw1:w.alloc (Obj.cells #[.slice N.ba N.bn N.bc,.slice N.la N.ln N.lc,.slice N.sa N.sn N.sc] 31)=w1;have b01:=zb hw1;have k1:=zk hw1;clear hw1
 go_loopw [3] (fun i wr=>∃k:Nat,k≤N.bn∧i=.int .i64 k∧(∀y∈N.brs.take k,zx y=true)∧(∀(i j:Nat) (x y:BR),i < j→j < k→N.brs[i]?=some x→N.brs[j]?=some y→x.id≠y.id)∧(∀(i:Nat) (B:BR),i < k→N.brs[i]?=some B→zd5 N.ls i B)∧wr.heap[w.heap.size]?=some (.cells #[.slice N.ba N.bn N.bc,.slice N.la N.ln N.lc,.slice N.sa N.sn N.sc] 31)∧Below w.heap.size w wr) (fun i _=>N.bn - (intOf i).toNat)
 case atStart=>exact ⟨0,Nat.zero_le _,rfl,by intro y hy; simp at hy,by intro i j x y _ hj; omega,by intro i B hi; omega,k1,b01⟩
 case round =>
  obtain ⟨k,hk,rfl,hok,hid,hqt,hbox,hb⟩:=hrel;clear k1 b01;obtain ⟨x0,x1,x2⟩:=zd hbox;by_cases hlt:k < N.bn
  ·obtain ⟨x,bb,off,hx,hba,c0,c1,c2,c3,c4,c5,c6,c7,c8,c9,c10⟩:=br_at (h.b.below hb) k hlt;have hG:GRow brF w (some ⟨bb,off,none⟩) N.bn N.bc N.bs:=by rw [← hba]; exact h.b
   have hrow:=h.item x (List.mem_of_getElem? hx);rw [hba] at x0;have HBA:=hide hba;clear hba;have i1:(0:Int)≤(k:Int):=by omega
   have i2:(k:Int) < (N.bn:Int):=by omega
   have HBX:=hide (zea hx);have HX:=hide hx;have HOK:=hide hok;have HID:=hide hid;have HQT:=hide hqt;have HBOX:=hide hbox;have HB:=hide hb;clear hx hok hid hqt hbox;(go_wp2_with fail);refine (zba x.a x.n x.c x.fa x.fn x.fc x.ra x.rn x.rc x.oa x.on x.oc x.B _ (hrow.below hb)).mono ?_;rintro e w2 ⟨rfl,hb2⟩;have hb3:=zc HB.out hb2;have hbox3:=za HBOX.out hb2;clear c0 c1 c2 c3 c4 c5 c6 c7 c8 c9 c10 x0 x1 x2 hb hb2 HB HBOX;cases hB:zx x.B
   ·have HNO:Hid ((false=true)↔zaI N.brs∧Quiet N.brs N.ls):=hide (zaH fun hp=>by have:=hp.1.1 x.B (List.mem_of_getElem? HBX.out); rw [hB] at this; cases this);go_wp2;go_ret;exact ⟨false,rfl,HNO.out,hb3⟩
   ·have HOK':=hide (zbF HBX.out HOK.out hB);(go_wp2_with fail)
    go_loopw [4] (fun i wr=>∃m:Nat,m≤k∧i=.int .i64 m∧(∀(i:Nat) (y:BR),i < m→N.brs[i]?=some y→y.id≠x.B.id)∧wr.heap[w.heap.size]?=some (.cells #[.slice N.ba N.bn N.bc,.slice N.la N.ln N.lc,.slice N.sa N.sn N.sc] 31)∧Below w.heap.size w wr) (fun i _=>k - (intOf i).toNat)
    case atStart=>exact ⟨0,Nat.zero_le _,rfl,by intro i y hi; omega,hbox3,hb3⟩
    case round =>
     obtain ⟨m,hm,rfl,hne,hbox4,hb4⟩:=hrel;clear hbox3 hb3;obtain ⟨x0,x1,x2⟩:=zd hbox4;rw [HBA.out] at x0;by_cases hmk:m < k
     ·obtain ⟨y,hy⟩:∃y,N.bs[m]?=some y:=⟨N.bs[m]'(by have:=hsz.out; omega),List.getElem?_eq_getElem (by have:=hsz.out; omega)⟩;have cx:=(zQ hG hb4 HX.out).1;have cy:=(zQ hG hb4 hy).1;have i3:(0:Int)≤(m:Int):=by omega
      have i4:(m:Int) < (N.bn:Int):=by omega
      have i5:(m:Int) < (k:Int):=by omega
      have HY:=hide (zea hy);have HB4:=hide (zp hb4);have HBOX4:Hid (wr.drew.heap[w.heap.size]?=some (.cells #[.slice N.ba N.bn N.bc,.slice N.la N.ln N.lc,.slice N.sa N.sn N.sc] 31)):=hide hbox4;have HNE:=hide hne;clear hy hne hb4 hbox4;by_cases he:y.B.id=x.B.id
      ·have HNO:Hid ((false=true)↔zaI N.brs∧Quiet N.brs N.ls):=hide (zaH fun hp=>absurd he (hp.1.2.1 m k _ _ hmk HY.out HBX.out));(go_wp2_with fail)
       go_region
       go_wp2;go_ret;exact ⟨false,rfl,HNO.out,HB4.out⟩
      ·have HNX:Hid (∀(i:Nat) (z:BR),i < m+1→N.brs[i]?=some z→z.id≠x.B.id):=hide (fun i z hi hz=>by
        by_cases him:i=m
        ·subst him; rw [HY.out] at hz; cases hz; exact he
        ·exact HNE.out i z (by omega) hz)
       (go_wp2_with fail)
       go_region
       go_wp2
       go_roundw
       case rel=>exact ⟨m+1,by omega,by go_num,HNX.out,HBOX4.out,HB4.out⟩
       case measure=>simp [intOf]; omega
     ·have hmk':m=k:=by omega
      subst hmk';have HID':Hid (∀(i j:Nat) (u v:BR),i < j→j < m+1→N.brs[i]?=some u→N.brs[j]?=some v→u.id≠v.id):=hide (fun i j u v hij hj hu hv=>by
       by_cases hjm:j=m
       ·subst hjm; rw [HBX.out] at hv; cases hv; exact hne i u hij hu
       ·exact HID.out i j u v hij (by omega) hu hv)
      have hpl:=Nat.le_trans hrow.ports.le hrow.ports.top;unfold maxLen at hpl;clear hne;(go_wp2_with fail)
      go_loopw [5] (fun i wr=>∃p:Nat,p≤x.n∧i=.int .i64 p∧(∀(i:Nat) (y:PT),i < p→x.B.ports[i]?=some y→y.has=true→usedL N.ls (m:Int) (i:Int)≠0)∧wr.heap[w.heap.size]?=some (.cells #[.slice N.ba N.bn N.bc,.slice N.la N.ln N.lc,.slice N.sa N.sn N.sc] 31)∧Below w.heap.size w wr) (fun i _=>x.n - (intOf i).toNat)
      case atStart=>exact ⟨0,Nat.zero_le _,rfl,by intro i y hi; omega,hbox4,hb4⟩
      case round =>
       obtain ⟨p,hp,rfl,hq,hbox5,hb5⟩:=hrel;clear hbox4 hb4 x0 x1 x2;obtain ⟨x0,x1,x2⟩:=zd hbox5;rw [HBA.out] at x0;have cx:=(zQ hG hb5 HX.out).2.2.1;by_cases hpn:p < x.n
       ·obtain ⟨y,pb,po,hy,hpa,-,-,d2,-⟩:=pt_at (hrow.ports.below hb5) p hpn;rw [hpa] at cx;clear hpa;have i3:(0:Int)≤(p:Int):=by omega
        have i4:(p:Int) < (x.n:Int):=by omega
        have HQ:=hide hq;have HBOX5:=hide hbox5;have HY:=hide hy;have HB5:=hide hb5;clear hq hbox5 hy;cases hh:y.has
        ·rw [hh] at d2;have HNX:Hid (∀(i:Nat) (z:PT),i < p+1→x.B.ports[i]?=some z→z.has=true→usedL N.ls (m:Int) (i:Int)≠0):=hide (fun i z hi hz hzh=>by
          by_cases hip:i=p
          ·subst hip; rw [HY.out] at hz; cases hz; rw [hh] at hzh; cases hzh
          ·exact HQ.out i z (by omega) hz hzh)
         clear hb5;go_wp2
         go_roundw
         case rel=>exact ⟨p+1,by omega,by go_num,HNX.out,HBOX5.out,HB5.out⟩
         case measure=>simp [intOf]; omega
        ·rw [hh] at d2;have hN:=h.below hb5;(go_wp2_with fail);refine (zbh ⟨some ⟨bb,off,none⟩,N.bn,N.bc,N.bs,N.la,N.ln,N.lc,N.ls,N.sa,N.sn,N.sc,N.ss⟩ (m:Int) (p:Int) _ ⟨hG.below hb5,hN.item,hN.l,hN.s⟩ hsm).mono ?_;rintro e w6 ⟨rfl,hb6⟩;have hbox6:=za HBOX5.out hb6;have hb7:=zc HB5.out hb6;have hul:=ziU N.ls (m:Int) (p:Int);rw [h.l.size] at hul;clear x0 x1 x2 d2 cx hb5 hb6 HBOX5 HB5 hN;dsimp only;by_cases hu:usedL N.ls (m:Int) (p:Int)=0
         ·have HNO:Hid ((false=true)↔zaI N.brs∧Quiet N.brs N.ls):=hide (zaH fun hp=>hp.2 m x.B HBX.out p y HY.out hh hu);go_wp2;go_ret;exact ⟨false,rfl,HNO.out,hb7⟩
         ·have hu':¬((usedL N.ls (m:Int) (p:Int):Int)=0):=by omega
          have HNX:Hid (∀(i:Nat) (z:PT),i < p+1→x.B.ports[i]?=some z→z.has=true→usedL N.ls (m:Int) (i:Int)≠0):=hide (fun i z hi hz hzh=>by
           by_cases hip:i=p
           ·subst hip; exact hu
           ·exact HQ.out i z (by omega) hz hzh)
          generalize hU:usedL N.ls (m:Int) (p:Int)=U at *;go_wp2
          go_roundw
          case rel=>exact ⟨p+1,by omega,by go_num,HNX.out,hbox6,hb7⟩
          case measure=>simp [intOf]; omega
       ·have hpx:p=x.n:=by omega
        have HQT':Hid (∀(i:Nat) (B:BR),i < m+1→N.brs[i]?=some B→zd5 N.ls i B):=hide (fun i B hi hB=>by
         by_cases him:i=m
         ·subst him;rw [HBX.out] at hB;cases hB;intro q y hy hyh;exact hq q y (by have:=(List.getElem?_eq_some_iff.1 hy).1; have:=hrow.ports.size; omega) hy hyh
         ·exact HQT.out i B (by omega) hB)
        have HBOX5:=hide hbox5;have HB5:=hide hb5;clear hq hbox5 hb5;go_wp2
        go_roundw
        case rel=>exact ⟨m+1,by omega,by go_num,HOK'.out,HID'.out,HQT'.out,HBOX5.out,HB5.out⟩
        case measure=>simp [intOf]; omega
  ·have hkn:k=N.bn:=by omega
   have hlen:N.brs.length=N.bn:=by rw [zc3]; exact hsz.out
   rw [List.take_of_length_le (by omega)] at hok;have lt_of:∀{i:Nat} {y:BR},N.brs[i]?=some y→i < k:=fun hy=>by have:=(List.getElem?_eq_some_iff.1 hy).1; omega
   have HP:Hid (((decide (1≤(N.bn:Int)) && decide ((N.bn:Int)≤6))=true)↔zaI N.brs∧Quiet N.brs N.ls):=hide (by
    constructor
    ·intro hq
     simp at hq
     exact ⟨⟨hok,fun i j x y hij hx hy=>hid i j x y hij (lt_of hy) hx hy,by omega,by omega⟩,fun i B hB=>hqt i B (lt_of hB) hB⟩
    ·rintro ⟨⟨-,-,h1,h2⟩,-⟩
     simp
     omega)
   clear hok hid hqt lt_of;subst hkn;(go_wp2_with fail);refine (zg (N.bn:Int) 1 6 _).mono ?_;rintro e w2 ⟨rfl,ew⟩;obtain rfl:=ew.symm;generalize hQ:(decide (1≤(N.bn:Int)) && decide ((N.bn:Int)≤6))=Q at *;go_wp2;go_ret;exact ⟨Q,rfl,HP.out,hb⟩

end Go.Proofs.YtkoekkjfcaiagaaGreat
