/-
  Packed: BrNewS BrBuild NetBeside NetUp NetUpI Agr.
-/
import Derived.Test.YtgmkhoakindpkaaPGKW
import Derived.Test.YtgmkhoakindpkaaPGBrOkS
import Derived.Test.YtgmkhoakindpkaaPGK01
import Derived.Test.YtgmkhoakindpkaaPGK02
import Derived.Test.YtgmkhoakindpkaaPGK03
import Derived.Test.YtgmkhoakindpkaaPGK04
import Derived.Test.YtgmkhoakindpkaaPGK09
import Derived.Deep.RegionHeld3
namespace Go.Proofs.Ytgmkhoakindpkaa
set_option maxRecDepth 100000
set_option maxHeartbeats 16000000
open Go.RowKit

theorem BrOwn.boxed11 {w:World} {base:Nat} {a:Option Addr} {n c:Nat} {fa:Option Addr} {fn fc:Nat} {ra:Option Addr} {rn rc:Nat} {oa:Option Addr} {on oc:Nat} {B:BR} (h:BrOwn w base a n c fa fn fc ra rn rc oa on oc B) {X:Nat} {cs:Array Value} (hX:w.heap[X]?=some (.cells cs 98)) (u0 u1 u2 u3 u4 u5 u6 u7 u8 u9 u10:Value):BrOwn (((((((((((w.setCell ⟨X,0,none⟩ u0).setCell ⟨X,1,none⟩ u1).setCell ⟨X,2,none⟩ u2).setCell ⟨X,3,none⟩ u3).setCell ⟨X,4,none⟩ u4).setCell ⟨X,5,none⟩ u5).setCell ⟨X,6,none⟩ u6).setCell ⟨X,7,none⟩ u7).setCell ⟨X,8,none⟩ u8).setCell ⟨X,9,none⟩ u9).setCell ⟨X,10,none⟩ u10) base a n c fa fn fc ra rn rc oa on oc B :=
 (BrOwn.boxed (BrOwn.boxed (BrOwn.boxed (BrOwn.boxed (BrOwn.boxed (BrOwn.boxed (BrOwn.boxed (BrOwn.boxed (BrOwn.boxed (BrOwn.boxed (BrOwn.boxed h hX 0 u0) (box11 hX 0 u0) 1 u1) (box11 (box11 hX 0 u0) 1 u1) 2 u2) (box11 (box11 (box11 hX 0 u0) 1 u1) 2 u2) 3 u3) (box11 (box11 (box11 (box11 hX 0 u0) 1 u1) 2 u2) 3 u3) 4 u4) (box11 (box11 (box11 (box11 (box11 hX 0 u0) 1 u1) 2 u2) 3 u3) 4 u4) 5 u5) (box11 (box11 (box11 (box11 (box11 (box11 hX 0 u0) 1 u1) 2 u2) 3 u3) 4 u4) 5 u5) 6 u6) (box11 (box11 (box11 (box11 (box11 (box11 (box11 hX 0 u0) 1 u1) 2 u2) 3 u3) 4 u4) 5 u5) 6 u6) 7 u7) (box11 (box11 (box11 (box11 (box11 (box11 (box11 (box11 hX 0 u0) 1 u1) 2 u2) 3 u3) 4 u4) 5 u5) 6 u6) 7 u7) 8 u8) (box11 (box11 (box11 (box11 (box11 (box11 (box11 (box11 (box11 hX 0 u0) 1 u1) 2 u2) 3 u3) 4 u4) 5 u5) 6 u6) 7 u7) 8 u8) 9 u9) (box11 (box11 (box11 (box11 (box11 (box11 (box11 (box11 (box11 (box11 hX 0 u0) 1 u1) 2 u2) 3 u3) 4 u4) 5 u5) 6 u6) 7 u7) 8 u8) 9 u9) 10 u10)

theorem zdc {K:Nat} {a w:World} (h:Below K a w) {g:Nat} (hB:K≤g) (u0 u1 u2 u3 u4 u5 u6 u7 u8 u9 u10:Value):Below K a (((((((((((w.setCell ⟨g,0,none⟩ u0).setCell ⟨g,1,none⟩ u1).setCell ⟨g,2,none⟩ u2).setCell ⟨g,3,none⟩ u3).setCell ⟨g,4,none⟩ u4).setCell ⟨g,5,none⟩ u5).setCell ⟨g,6,none⟩ u6).setCell ⟨g,7,none⟩ u7).setCell ⟨g,8,none⟩ u8).setCell ⟨g,9,none⟩ u9).setCell ⟨g,10,none⟩ u10) :=
 (ze (ze (ze (ze (ze (ze (ze (ze (ze (ze (ze h hB 0 u0) hB 1 u1) hB 2 u2) hB 3 u3) hB 4 u4) hB 5 u5) hB 6 u6) hB 7 u7) hB 8 u8) hB 9 u9) hB 10 u10)

structure BcSt (w wr:World) (R X:Nat) (cs:Array Value):Prop where
 box:wr.heap[X]?=some (.cells cs 98)
 res:wr.heap[R]?=some (.cells #[.int .i64 0,.string ⟨#[]⟩,.slice none 0 0,.slice none 0 0,.slice none 0 0,.slice none 0 0,.int .i64 0,.int .i64 0,.int .i64 0,.int .i64 0,.int .i64 0] 98)
 below:Below w.heap.size w wr
 hX:w.heap.size≤X
 hR:w.heap.size≤R
 ne:R≠X

theorem BcSt.later {w wr wx:World} {R X:Nat} {cs:Array Value} (h:BcSt w wr R X cs) (hb:Below wr.heap.size wr wx):BcSt w wx R X cs :=
 ⟨za h.box hb,za h.res hb,zc h.below hb,h.hX,h.hR,h.ne⟩

theorem BcSt.put {w wr:World} {R X:Nat} {cs:Array Value} (h:BcSt w wr R X cs) (j:Nat) (u:Value) {cs':Array Value} (he:cs.setIfInBounds j u=cs'):BcSt w (wr.setCell ⟨X,j,none⟩ u) R X cs' :=
 ⟨by rw [← he]; exact box11 h.box j u,zM h.res h.ne,ze h.below h.hX j u,h.hX,h.hR,h.ne⟩

theorem BcSt.grown {w wr wx:World} {R X:Nat} {cs:Array Value} (h:BcSt w wr R X cs) {base k:Nat} {e:TypeId} {v:Value} {n:Nat} {xs:List Value} (ho:wr.ownsRow base e k v n xs) (hne:(e:Nat)≠98) (hg:wr.grownBy wx v.ownBlock) (hb:Below w.heap.size wr wx):BcSt w wx R X cs :=
 ⟨zg h.box hg (fun i e=>zae ho h.box hne i e),zg h.res hg (fun i e=>zae ho h.res hne i e),h.below.trans hb,h.hX,h.hR,h.ne⟩

theorem BcSt.stay {w wr:World} {R X:Nat} {cs:Array Value} (h:BcSt w wr R X cs) {base k:Nat} {e:TypeId} {v:Value} {n:Nat} {xs:List Value} (ho:wr.ownsRow base e k v n xs) (hne:(e:Nat)≠98) (j:Nat) (u:Value):(wr.setCell ⟨X,j,none⟩ u).ownsRow base e k v n xs :=
 zab ho (zd (rb:=X) j u) (zae ho h.box hne)

theorem BcSt.out {w wr:World} {R X:Nat} {cs:Array Value} (h:BcSt w wr R X cs) {base:Nat} {a:Option Addr} {n c:Nat} {fa:Option Addr} {fn fc:Nat} {ra:Option Addr} {rn rc:Nat} {oa:Option Addr} {on oc:Nat} {B:BR} (ho:BrOwn wr base a n c fa fn fc ra rn rc oa on oc B) (u0 u1 u2 u3 u4 u5 u6 u7 u8 u9 u10:Value):BrOwn (((((((((((wr.setCell ⟨R,0,none⟩ u0).setCell ⟨R,1,none⟩ u1).setCell ⟨R,2,none⟩ u2).setCell ⟨R,3,none⟩ u3).setCell ⟨R,4,none⟩ u4).setCell ⟨R,5,none⟩ u5).setCell ⟨R,6,none⟩ u6).setCell ⟨R,7,none⟩ u7).setCell ⟨R,8,none⟩ u8).setCell ⟨R,9,none⟩ u9).setCell ⟨R,10,none⟩ u10) base a n c fa fn fc ra rn rc oa on oc B∧Below w.heap.size w (((((((((((wr.setCell ⟨R,0,none⟩ u0).setCell ⟨R,1,none⟩ u1).setCell ⟨R,2,none⟩ u2).setCell ⟨R,3,none⟩ u3).setCell ⟨R,4,none⟩ u4).setCell ⟨R,5,none⟩ u5).setCell ⟨R,6,none⟩ u6).setCell ⟨R,7,none⟩ u7).setCell ⟨R,8,none⟩ u8).setCell ⟨R,9,none⟩ u9).setCell ⟨R,10,none⟩ u10) :=
 ⟨ho.boxed11 h.res u0 u1 u2 u3 u4 u5 u6 u7 u8 u9 u10,zdc h.below h.hR u0 u1 u2 u3 u4 u5 u6 u7 u8 u9 u10⟩

theorem zz {w:World} {g:Nat} {T:TypeId} {c0 c1 c2 c3:Value} (h:w.heap[g]?=some (.cells #[c0,c1,c2,c3] T)):w.cell? ⟨g,0,none⟩=some c0∧w.cell? ⟨g,1,none⟩=some c1∧w.cell? ⟨g,2,none⟩=some c2∧w.cell? ⟨g,3,none⟩=some c3:=by
 simp [World.cell?,h]

theorem zD {w:World} {g:Nat} {T:TypeId} {c0 c1:Value} (h:w.heap[g]?=some (.cells #[c0,c1] T)):w.cell? ⟨g,0,none⟩=some c0∧w.cell? ⟨g,1,none⟩=some c1:=by
 simp [World.cell?,h]

theorem zl {w:World} {g:Nat} {T:TypeId} {c0 c1 c2:Value} (h:w.heap[g]?=some (.cells #[c0,c1,c2] T)):w.cell? ⟨g,0,none⟩=some c0∧w.cell? ⟨g,1,none⟩=some c1∧w.cell? ⟨g,2,none⟩=some c2:=by
 simp [World.cell?,h]

theorem zbe (x:LK) (w:World):Calls Try.prog 34 #[.agg #[.int .i64 x.a,.int .i64 x.p,.int .i64 x.b,.int .i64 x.q]] w fun e w'=>e=.returned (.agg #[.int .i64 x.a,.int .i64 x.p,.int .i64 x.b,.int .i64 x.q])∧Below w.heap.size w w':=by
 go_enter Try.func34,Try.ntmps34;go_wp2;exact bodyPost_ret (v:=.agg #[.int .i64 x.a,.int .i64 x.p,.int .i64 x.b,.int .i64 x.q]) (by simp [results,Try.results34,go_sem, *]) rfl ⟨rfl,zF _ _ _⟩

abbrev q1:Oper:=⟨some 10,.move (.tmp 5),70,"l13_net.go:99",#[],none⟩
abbrev q2:Oper:=⟨some 11,.binOp .eql 70 (.tmp 10) (.const (.pointer none)) 70,4,"l13_net.go:99",#[⟨0,.data⟩],none⟩
abbrev q3:Oper:=⟨some 12,.move (.tmp 11),4,"l13_net.go:99",#[⟨1,.data⟩],none⟩
abbrev q4:Oper:=⟨some 13,.move (.tmp 5),70,"l13_net.go:99",#[⟨2,.guard⟩],some (2,false)⟩
abbrev q5:Oper:=⟨some 14,.nilCheck (.tmp 13),0,"l13_net.go:99",#[⟨3,.data⟩,⟨2,.guard⟩],some (2,false)⟩
abbrev q6:Oper:=⟨some 15,.fieldAddr 98 (.tmp 14) 2,0,"l13_net.go:99",#[⟨4,.data⟩,⟨2,.guard⟩],some (2,false)⟩
abbrev q7:Oper:=⟨some 16,.load 92 (.tmp 15),92,"l13_net.go:99",#[⟨5,.data⟩,⟨2,.guard⟩],some (2,false)⟩
abbrev q8:Oper:=⟨some 17,.fieldAddr 60 (.tmp 3) 1,0,"l13_net.go:99",#[⟨2,.guard⟩],some (2,false)⟩
abbrev q9:Oper:=⟨some 18,.load 3 (.tmp 17),3,"l13_net.go:99",#[⟨7,.data⟩,⟨2,.guard⟩],some (2,false)⟩
abbrev q10:Oper:=⟨some 19,.call ⟨.value (.func 83),#[.tmp 16,.tmp 18],#[138,3]⟩,4,"l13_net.go:99",#[⟨6,.data⟩,⟨8,.data⟩,⟨2,.chain⟩,⟨2,.guard⟩],some (2,false)⟩
abbrev q11:Oper:=⟨some 20,.unOp .not 4 (.tmp 19),4,"l13_net.go:99",#[⟨9,.data⟩,⟨2,.guard⟩],some (2,false)⟩
abbrev q12:Oper:=⟨some 21,.pick (.tmp 12) (.const (.bool true)) (.tmp 20),4,"l13_net.go:99",#[⟨2,.data⟩,⟨10,.data⟩],none⟩

def zaK (bs:List BR) (b p:Int):Option PT:=if 0≤b∧0≤p then (bs[b.toNat]?).bind (fun B=>B.ports[p.toNat]?) else none
def upAt (bs:List BR) (b p:Int):Bool:=match zaK bs b p with
 | some x=>x.up
 | none=>false
def zat (bs:List BR) (ls:List LK) (k:Int):Bool:=if 0≤k then (match ls[k.toNat]? with
 | some x=>upAt bs x.a x.p && upAt bs x.b x.q
 | none=>false) else false

theorem zfj {N:NV} {k:Nat} {x:BV} (h:N.bs[k]?=some x):N.brs[k]?=some x.B:=by unfold NV.brs; rw [List.getElem?_map,h]; rfl
theorem zen (N:NV):N.brs.length=N.bs.length:=by unfold NV.brs; simp

theorem zeN {bs:List BR} {b p:Int} (h:(decide (0≤b) && decide (b≤(bs.length:Int) - 1))=false):zaK bs b p=none:=by
 unfold zaK
 split
 ·rename_i hc
  rw [List.getElem?_eq_none (by simp at h; omega)]
  rfl
 ·rfl
theorem zeM {bs:List BR} {k:Nat} {B:BR} (h:bs[k]?=some B) (p:Int):zaK bs (k:Int) p=if 0≤p then B.ports[p.toNat]? else none:=by
 unfold zaK;by_cases hp:0≤p
 ·rw [if_pos ⟨by omega,hp⟩,if_pos hp,Int.toNat_natCast,h]; rfl
 ·rw [if_neg (fun hc=>hp hc.2),if_neg hp]
theorem zdX {bs:List BR} {k:Nat} {B:BR} (h:bs[k]?=some B) {p:Int} (hp:(decide (0≤p) && decide (p≤(B.ports.length:Int) - 1))=false):zaK bs (k:Int) p=none:=by
 rw [zeM h]
 split
 ·exact List.getElem?_eq_none (by simp at hp; omega)
 ·rfl
theorem zcy {bs:List BR} {k:Nat} {B:BR} (h:bs[k]?=some B) {j:Nat} {y:PT} (hy:B.ports[j]?=some y):zaK bs (k:Int) (j:Int)=some y:=by
 rw [zeM h,if_pos (by omega),Int.toNat_natCast,hy]

theorem zb9 (N:NV) (b p:Int) (w:World) (h:zJ w N) :
  Calls Try.prog 48 #[.agg #[.slice N.ba N.bn N.bc,.slice N.la N.ln N.lc,.slice N.sa N.sn N.sc],.int .i64 b,.int .i64 p] w fun e w'=>e=.returned (.bool (upAt N.brs b p))∧Below w.heap.size w w':=by
 have hle:=Nat.le_trans h.b.le h.b.top;unfold maxLen at hle;have hsz:=h.b.size;generalize hG:upAt N.brs b p=U;have HG:=hide hG;clear hG;generalize hw1:w.alloc (Obj.cells #[.slice N.ba N.bn N.bc,.slice N.la N.ln N.lc,.slice N.sa N.sn N.sc] 33)=w1;have b01:=zb hw1;have k1:=zk hw1;obtain ⟨x0,x1,x2⟩:=zl k1;cases hA:(decide (0≤b) && decide (b≤(N.bn:Int) - 1))
 ·have HF:Hid (U=false):=hide (by rw [← HG.out]; unfold upAt; rw [zeN (by rw [zen,hsz]; exact hA)]);go_enter Try.func48,Try.ntmps48;(go_wp2_with fail);refine (zo b 0 ((N.bn:Int) - 1) _).mono ?_;rintro e w2 ⟨rfl,ew⟩;obtain rfl:=ew.symm;rw [hA];clear hA;go_wp2;go_ret;exact ⟨by rw [HF.out]; rfl,b01⟩
 ·obtain ⟨k,rfl⟩:∃k:Nat,b=(k:Int):=⟨b.toNat,by simp at hA; omega⟩;have hk:k < N.bn:=by simp at hA; omega
  obtain ⟨x,bb,off,hx,hba,c0,c1,c2,c3,c4,c5,c6,c7,c8,c9,c10⟩:=br_at (h.b.below b01) k hk;have hm:=List.mem_of_getElem? hx;have hr:=(h.item x hm).below b01;have hpl:=Nat.le_trans hr.ports.le hr.ports.top;unfold maxLen at hpl;have i1:(0:Int)≤(k:Int):=by omega
  have i2:(k:Int) < (N.bn:Int):=by omega
  have HX:=hide (zfj hx);clear hx hm;rw [hba] at x0;cases hB:(decide (0≤p) && decide (p≤(x.n:Int) - 1))
  ·have HF:Hid (U=false):=hide (by rw [← HG.out]; unfold upAt; rw [zdX HX.out (by rw [hr.ports.size]; exact hB)]);clear hba;go_enter Try.func48,Try.ntmps48;(go_wp2_with fail);refine (zo (k:Int) 0 ((N.bn:Int) - 1) _).mono ?_;rintro e w2 ⟨rfl,ew⟩;obtain rfl:=ew.symm;rw [hA];clear hA;(go_wp2_with fail);refine (zo p 0 ((x.n:Int) - 1) _).mono ?_;rintro e w2 ⟨rfl,ew⟩;obtain rfl:=ew.symm;rw [hB];clear hB;go_wp2;go_ret;exact ⟨by rw [HF.out]; rfl,b01⟩
  ·obtain ⟨j,rfl⟩:∃j:Nat,p=(j:Int):=⟨p.toNat,by simp at hB; omega⟩;have hj:j < x.n:=by simp at hB; omega
   obtain ⟨y,pb,po,hy,hpa,d0,-⟩:=pt_at hr.ports j hj;have HF:Hid (U=y.up):=hide (by rw [← HG.out]; unfold upAt; rw [zcy HX.out hy]);have i3:(0:Int)≤(j:Int):=by omega
   have i4:(j:Int) < (x.n:Int):=by omega
   rw [hpa] at c2;clear hba hpa;go_enter Try.func48,Try.ntmps48;(go_wp2_with fail);refine (zo (k:Int) 0 ((N.bn:Int) - 1) _).mono ?_;rintro e w2 ⟨rfl,ew⟩;obtain rfl:=ew.symm;rw [hA];clear hA;(go_wp2_with fail);refine (zo (j:Int) 0 ((x.n:Int) - 1) _).mono ?_;rintro e w2 ⟨rfl,ew⟩;obtain rfl:=ew.symm;rw [hB];clear hB;go_wp2;go_ret;exact ⟨by rw [HF.out]; rfl,b01⟩

theorem zaY (N:NV) (k:Int) (w:World) (h:zJ w N) :
  Calls Try.prog 23 #[.agg #[.slice N.ba N.bn N.bc,.slice N.la N.ln N.lc,.slice N.sa N.sn N.sc],.int .i64 k] w fun e w'=>e=.returned (.bool (zat N.brs N.ls k))∧Below w.heap.size w w':=by
 have hle:=Nat.le_trans h.l.le h.l.top;unfold maxLen at hle;have hsz:=h.l.size;generalize hG:zat N.brs N.ls k=U;have HG:=hide hG;clear hG;generalize hw1:w.alloc (Obj.cells #[.slice N.ba N.bn N.bc,.slice N.la N.ln N.lc,.slice N.sa N.sn N.sc] 33)=w1;have b01:=zb hw1;have k1:=zk hw1;obtain ⟨x0,x1,x2⟩:=zl k1;cases hA:(decide (0≤k) && decide (k≤(N.ln:Int) - 1))
 ·have HF:Hid (U=false):=hide (by
   rw [← HG.out];unfold zat
   split
   ·rw [List.getElem?_eq_none (by simp at hA; omega)]
   ·rfl)
  go_enter Try.func23,Try.ntmps23;(go_wp2_with fail);refine (zo k 0 ((N.ln:Int) - 1) _).mono ?_;rintro e w2 ⟨rfl,ew⟩;obtain rfl:=ew.symm;rw [hA];clear hA;go_wp2;go_ret;exact ⟨by rw [HF.out]; rfl,b01⟩
 ·obtain ⟨j,rfl⟩:∃j:Nat,k=(j:Int):=⟨k.toNat,by simp at hA; omega⟩;have hj:j < N.ln:=by simp at hA; omega
  obtain ⟨x,lb,off,hx,hla,a0,a1,a2,a3⟩:=zak (h.l.below b01) j hj;have HF:Hid (U=(upAt N.brs x.a x.p && upAt N.brs x.b x.q)):=hide (by rw [← HG.out]; unfold zat; rw [if_pos (by omega),Int.toNat_natCast,hx]);have i1:(0:Int)≤(j:Int):=by omega
  have i2:(j:Int) < (N.ln:Int):=by omega
  have y1:=x1;rw [hla] at y1;clear hx;have HLA:=hide hla;clear hla x1;go_enter Try.func23,Try.ntmps23;(go_wp2_with fail);refine (zo (j:Int) 0 ((N.ln:Int) - 1) _).mono ?_;rintro e w2 ⟨rfl,ew⟩;obtain rfl:=ew.symm;rw [hA];clear hA;generalize hwa:w1.alloc (Obj.cells #[.int .i64 x.a,.int .i64 x.p,.int .i64 x.b,.int .i64 x.q] 57)=wa;have ba:=zb hwa;have ka:=zk hwa;have kNe:=za k1 ba;have b0a:=zc b01 ba;obtain ⟨z0,z1,z2⟩:=zl kNe;obtain ⟨u0,u1,u2,u3⟩:=zz ka;(go_wp2_with fail);refine (zb9 N x.a x.p _ (h.below b0a)).mono ?_;rintro e w3 ⟨rfl,hb3⟩;have kNe:=za kNe hb3;have ka:=za ka hb3;have b03:=zc b0a hb3;clear z0 z1 z2 u0 u1 u2 u3 a0 a1 a2 a3 x0 x2 y1 hwa hb3 ba;generalize hR:w1.heap.size=R at *;obtain ⟨z0,z1,z2⟩:=zl kNe;obtain ⟨u0,u1,u2,u3⟩:=zz ka;cases hU:upAt N.brs x.a x.p
  ·have HF:Hid (U=false):=hide (by rw [HF.out,hU]; rfl);go_wp2;go_ret;exact ⟨by rw [HF.out]; rfl,b03⟩
  ·have HF:Hid (U=upAt N.brs x.b x.q):=hide (by rw [HF.out,hU]; rfl);(go_wp2_with fail);refine (zb9 N x.b x.q _ (h.below b03)).mono ?_;rintro e w4 ⟨rfl,hb4⟩;have HB:=hide (zc b03 hb4);clear z0 z1 z2 u0 u1 u2 u3 hb4;go_wp2;go_ret;exact ⟨by rw [HF.out]; rfl,HB.out⟩

theorem zcO (a:Option Addr) (n c:Nat) (port:Int) (w:World) (hn:n≤9223372036854775807) :
  Calls Try.prog 83 #[.slice a n c,.int .i64 port] w fun e w'=>e=.returned (.bool (decide (0≤port) && decide (port≤(n:Int) - 1)))∧w'=w:=by
 go_enter Try.func83,Try.ntmps83;go_wp2_with fail
 refine (zA port 0 ((n:Int) - 1) _).mono ?_;rintro r w3 ⟨rfl,ew⟩;obtain rfl:=ew.symm;go_wp2;go_ret;exact ⟨rfl,rfl⟩

theorem zdd (N:NV) (b:Int) (w:World) (hle:N.bn≤9223372036854775807) (hA:(decide (0≤b) && decide (b≤(N.bn:Int) - 1))=false) :
  Calls Try.prog 42 #[.agg #[.slice N.ba N.bn N.bc,.slice N.la N.ln N.lc,.slice N.sa N.sn N.sc],.int .i64 b] w fun e w'=>e=.returned (.pointer none)∧Below w.heap.size w w':=by
 generalize hw1:w.alloc (Obj.cells #[.slice N.ba N.bn N.bc,.slice N.la N.ln N.lc,.slice N.sa N.sn N.sc] 33)=w1;have b01:=zb hw1;have k1:=zk hw1;obtain ⟨x0,x1,x2⟩:=zl k1;go_enter Try.func42,Try.ntmps42;go_wp2_with fail
 refine (zA b 0 ((N.bn:Int) - 1) _).mono ?_;rintro e w2 ⟨rfl,ew⟩;obtain rfl:=ew.symm;rw [hA];clear hA;go_wp2;go_ret;exact ⟨rfl,b01⟩

theorem zaQ (N:NV) (k:Nat) (g off:Nat) (w:World) (hle:N.bn≤9223372036854775807) (hk:k < N.bn) (hba:N.ba=some ⟨g,off,none⟩) :
  Calls Try.prog 42 #[.agg #[.slice N.ba N.bn N.bc,.slice N.la N.ln N.lc,.slice N.sa N.sn N.sc],.int .i64 (k:Int)] w fun e w'=>e=.returned (.pointer (some ⟨g,off+k*11,none⟩))∧Below w.heap.size w w':=by
 generalize hw1:w.alloc (Obj.cells #[.slice N.ba N.bn N.bc,.slice N.la N.ln N.lc,.slice N.sa N.sn N.sc] 33)=w1;have b01:=zb hw1;have k1:=zk hw1;obtain ⟨x0,x1,x2⟩:=zl k1;have hA:(decide (0≤(k:Int)) && decide ((k:Int)≤(N.bn:Int) - 1))=true:=by simp; omega
 have i1:(0:Int)≤(k:Int):=by omega
 have i2:(k:Int) < (N.bn:Int):=by omega
 rw [hba] at x0;clear hba;go_enter Try.func42,Try.ntmps42;go_wp2_with fail
 refine (zA (k:Int) 0 ((N.bn:Int) - 1) _).mono ?_;rintro e w2 ⟨rfl,ew⟩;obtain rfl:=ew.symm;rw [hA];clear hA;go_wp2;go_ret;exact ⟨rfl,b01⟩

def PtAt (w:World) (v:Option Addr) (o:Option PT):Prop:=match o with
 | none=>v=none
 | some y=>∃g j:Nat,v=some ⟨g,j,none⟩∧w.cell? ⟨g,j,none⟩=some (.bool y.up)
def PtAll (w:World) (v:Option Addr) (o:Option PT):Prop:=match o with
 | none=>v=none
 | some y=>∃g j:Nat,v=some ⟨g,j,none⟩∧w.cell? ⟨g,j,none⟩=some (.bool y.up)∧w.cell? ⟨g,j+1,none⟩=some (.int .i64 y.k)∧w.cell? ⟨g,j+2,none⟩=some (.bool y.has)∧w.cell? ⟨g,j+3,none⟩=some (.int .i64 y.v.r)∧w.cell? ⟨g,j+4,none⟩=some (.int .i64 y.v.c)∧w.cell? ⟨g,j+5,none⟩=some (.int .i64 y.v.h)∧w.cell? ⟨g,j+6,none⟩=some (.int .i64 y.v.b)∧w.cell? ⟨g,j+7,none⟩=some (.int .i64 y.v.p)
theorem PtAll.upAt {w:World} {v:Option Addr} {o:Option PT} (h:PtAll w v o):PtAt w v o:=by
 cases o with
 | none=>exact h
 | some y =>
  obtain ⟨g,j,e,c,-⟩:=h;exact ⟨g,j,e,c⟩

theorem zb4 (N:NV) (b p:Int) (w:World) (h:zJ w N) :
  Calls Try.prog 54 #[.agg #[.slice N.ba N.bn N.bc,.slice N.la N.ln N.lc,.slice N.sa N.sn N.sc],.agg #[.int .i64 b,.int .i64 p]] w fun e w'=>∃v,e=.returned (.pointer v)∧PtAll w v (zaK N.brs b p)∧Below w.heap.size w w':=by
 have hle:=Nat.le_trans h.b.le h.b.top;unfold maxLen at hle;have hsz:=h.b.size;generalize hw1:w.alloc (Obj.cells #[.slice N.ba N.bn N.bc,.slice N.la N.ln N.lc,.slice N.sa N.sn N.sc] 33)=w1;generalize hw2:w1.alloc (Obj.cells #[.int .i64 b,.int .i64 p] 60)=w2;have b01:=zb hw1;have b12:=zb hw2;have kNe:=za (zk hw1) b12;have kE:=zk hw2;have b02:=zc b01 b12;obtain ⟨x0,x1,x2⟩:=zl kNe;obtain ⟨e0,e1⟩:=zD kE;cases hA:(decide (0≤b) && decide (b≤(N.bn:Int) - 1))
 ·have HF:=hide (zeN (bs:=N.brs) (b:=b) (p:=p) (by rw [zen,hsz]; exact hA));go_enter Try.func54,Try.ntmps54;(go_wp2_with fail);refine (zdd N b _ hle hA).mono ?_;rintro e w3 ⟨rfl,hb3⟩;have b03:=zc b02 hb3;clear x0 x1 x2 e0 e1 hb3;have vv:Below w3.heap.size w3 w3.drew:=zC (Below.refl _ _);(go_wp2_with fail);refine wp_region_held_drew (S:=(fun _=>True)) (by kernel_rfl) (trivial) (fun hHeld => ?_);refine kK 0 q1 ?_;refine kK 1 q2 ?_;refine kK 2 q3 ?_;refine kN 3 q4 ?_;refine kN 4 q5 ?_;refine kN 5 q6 ?_;refine kN 6 q7 ?_;refine kN 7 q8 ?_;refine kN 8 q9 ?_;refine kN 9 q10 ?_;refine kN 10 q11 ?_;refine kK 11 q12 ?_;refine wpAnyH_done (by kernel_rfl) ?_ _;have HB:=hide (zc b03 vv);clear hHeld vv;go_wp2;go_ret;exact ⟨none,rfl,by rw [HF.out]; rfl,HB.out⟩
 ·obtain ⟨k,rfl⟩:∃k:Nat,b=(k:Int):=⟨b.toNat,by simp at hA; omega⟩;have hk:k < N.bn:=by simp at hA; omega
  obtain ⟨x,bb,off,hx,hba,cc0,cc1,cc2,-⟩:=br_at h.b k hk;have hr:=h.item x (List.mem_of_getElem? hx);have hpl:=Nat.le_trans hr.ports.le hr.ports.top;unfold maxLen at hpl;have HX:=hide (zfj hx);have HBA:=hide hba;clear hx hA hba;go_enter Try.func54,Try.ntmps54;(go_wp2_with fail);refine (zaQ N k bb off _ hle hk HBA.out).mono ?_;rintro e w3 ⟨rfl,hb3⟩;have b03:=zc b02 hb3;have kE:=za kE hb3;have c2:=(b03.cell (zp cc2)).trans cc2;clear x0 x1 x2 e0 e1 hb3 cc0 cc1 cc2;obtain ⟨e0,e1⟩:=zD kE;generalize hR:w1.heap.size=R at *;have vv:Below w3.heap.size w3 w3.drew:=zC (Below.refl _ _);(go_wp2_with fail);cases hB:(decide (0≤p) && decide (p≤(x.n:Int) - 1))
  ·have HF:=hide (zdX HX.out (by rw [hr.ports.size]; exact hB));refine wp_region_held_drew (S:=(fun W=>W.cell? ⟨bb,off+k*11+2,none⟩=some (.slice x.a x.n x.c)∧W.cell? ⟨R,1,none⟩=some (.int .i64 p))) (by kernel_rfl) (⟨(vv.cell (zp c2)).trans c2,(zD (za kE vv)).2⟩) (fun hHeld => ?_);refine kK 0 q1 ?_;refine kK 1 q2 ?_;refine kK 2 q3 ?_;refine kK 3 q4 ?_;refine kK 4 q5 ?_;refine kK 5 q6 ?_;refine kK 6 q7 ?_;refine kK 7 q8 ?_;refine kK 8 q9 ?_;refine kR 9 q10 (fun K hK => ?_);go_simp;refine (zcO x.a x.n x.c p _ hpl).mono ?_;rintro r wz ⟨rfl,ew⟩;obtain rfl:=ew.symm;rw [hB];(go_wp2_with fail);refine hK.out _ _ (⟨(vv.cell (zp c2)).trans c2,(zD (za kE vv)).2⟩) (fun hHeld => ?_);clear hK K;(try simp only [Act.put,lA,lB,lC]);refine kK 10 q11 ?_;refine kK 11 q12 ?_;refine wpAnyH_done (by kernel_rfl) ?_ _;have HB:=hide (zc b03 vv);clear hHeld vv c2 kE;go_wp2;go_ret;exact ⟨none,rfl,by rw [HF.out]; rfl,HB.out⟩
  ·obtain ⟨j,rfl⟩:∃j:Nat,p=(j:Int):=⟨p.toNat,by simp at hB; omega⟩;have hj:j < x.n:=by simp at hB; omega
   obtain ⟨y,pb,po,hy,hpa,d0⟩:=pt_at hr.ports j hj;have HF:=hide (zcy HX.out hy);have i3:(0:Int)≤(j:Int):=by omega
   have i4:(j:Int) < (x.n:Int):=by omega
   have HD:=hide d0;rw [hpa] at c2;clear hpa d0;refine wp_region_held_drew (S:=(fun W=>W.cell? ⟨bb,off+k*11+2,none⟩=some (.slice (some ⟨pb,po,none⟩) x.n x.c)∧W.cell? ⟨R,1,none⟩=some (.int .i64 (j:Int)))) (by kernel_rfl) (⟨(vv.cell (zp c2)).trans c2,(zD (za kE vv)).2⟩) (fun hHeld => ?_);refine kK 0 q1 ?_;refine kK 1 q2 ?_;refine kK 2 q3 ?_;refine kK 3 q4 ?_;refine kK 4 q5 ?_;refine kK 5 q6 ?_;refine kK 6 q7 ?_;refine kK 7 q8 ?_;refine kK 8 q9 ?_;refine kR 9 q10 (fun K hK => ?_);go_simp;refine (zcO (some ⟨pb,po,none⟩) x.n x.c (j:Int) _ hpl).mono ?_;rintro r wz ⟨rfl,ew⟩;obtain rfl:=ew.symm;rw [hB];(go_wp2_with fail);refine hK.out _ _ (⟨(vv.cell (zp c2)).trans c2,(zD (za kE vv)).2⟩) (fun hHeld => ?_);clear hK K;(try simp only [Act.put,lA,lB,lC]);refine kK 10 q11 ?_;refine kK 11 q12 ?_;refine wpAnyH_done (by kernel_rfl) ?_ _;have HB:=hide (zc b03 (zC vv));have c2:=(vv.cell (zp c2)).trans c2;have e1:=(zD (za kE vv)).2;clear hHeld vv kE hB;(go_wp2_with fail)
   go_region
   go_wp2;go_ret;exact ⟨_,rfl,by rw [HF.out]; exact ⟨_,_,rfl,HD.out⟩,HB.out⟩

theorem zb5 (N:NV) (b p:Int) (w:World) (h:zJ w N) :
  Calls Try.prog 54 #[.agg #[.slice N.ba N.bn N.bc,.slice N.la N.ln N.lc,.slice N.sa N.sn N.sc],.agg #[.int .i64 b,.int .i64 p]] w fun e w'=>∃v,e=.returned (.pointer v)∧PtAt w v (zaK N.brs b p)∧Below w.heap.size w w':=by
 refine (zb4 N b p w h).mono ?_;rintro e w1 ⟨v,rfl,hv,hb⟩;exact ⟨v,rfl,hv.upAt,hb⟩

theorem PtAt.later {w w':World} {v:Option Addr} {o:Option PT} (h:PtAt w v o) (hb:Below w.heap.size w w'):PtAt w' v o:=by
 cases o with
 | none=>exact h
 | some y =>
  obtain ⟨g,j,e,c⟩:=h;exact ⟨g,j,e,(hb.cell (zp c)).trans c⟩

theorem zaV (N:NV) (k:Int) (w:World) (h:zJ w N) :
  Calls Try.prog 28 #[.agg #[.slice N.ba N.bn N.bc,.slice N.la N.ln N.lc,.slice N.sa N.sn N.sc],.int .i64 k] w fun e w'=>e=.returned (.bool (zat N.brs N.ls k))∧Below w.heap.size w w':=by
 have hle:=Nat.le_trans h.l.le h.l.top;unfold maxLen at hle;have hsz:=h.l.size;generalize hG:zat N.brs N.ls k=U;have HG:=hide hG;clear hG;generalize hw1:w.alloc (Obj.cells #[.slice N.ba N.bn N.bc,.slice N.la N.ln N.lc,.slice N.sa N.sn N.sc] 33)=w1;have b01:=zb hw1;have k1:=zk hw1;obtain ⟨x0,x1,x2⟩:=zl k1;cases hA:(decide (0≤k) && decide (k≤(N.ln:Int) - 1))
 ·have HF:Hid (U=false):=hide (by
   rw [← HG.out];unfold zat
   split
   ·rw [List.getElem?_eq_none (by simp at hA; omega)]
   ·rfl)
  go_enter Try.func28,Try.ntmps28;(go_wp2_with fail);refine (zA k 0 ((N.ln:Int) - 1) _).mono ?_;rintro e w2 ⟨rfl,ew⟩;obtain rfl:=ew.symm;rw [hA];clear hA;go_wp2;go_ret;exact ⟨by rw [HF.out]; rfl,b01⟩
 ·obtain ⟨j,rfl⟩:∃j:Nat,k=(j:Int):=⟨k.toNat,by simp at hA; omega⟩;have hj:j < N.ln:=by simp at hA; omega
  obtain ⟨x,lb,off,hx,hla,a0,a1,a2,a3⟩:=zak (h.l.below b01) j hj;have HG:Hid ((upAt N.brs x.a x.p && upAt N.brs x.b x.q)=U):=hide (by rw [← HG.out]; unfold zat; rw [if_pos (by omega),Int.toNat_natCast,hx]);have i1:(0:Int)≤(j:Int):=by omega
  have i2:(j:Int) < (N.ln:Int):=by omega
  rw [hla] at x1;clear hx hla;go_enter Try.func28,Try.ntmps28;(go_wp2_with fail);refine (zA (j:Int) 0 ((N.ln:Int) - 1) _).mono ?_;rintro e w2 ⟨rfl,ew⟩;obtain rfl:=ew.symm;rw [hA];clear hA;(go_wp2_with fail);refine (zbe x _).mono ?_;rintro e we ⟨rfl,hbe⟩;have kNe:=za k1 hbe;have b0e:=zc b01 hbe;clear x0 x1 x2 a0 a1 a2 a3 k1 hbe;generalize hwq:we.alloc (Obj.cells #[.int .i64 x.a,.int .i64 x.p,.int .i64 x.b,.int .i64 x.q] 61)=wq;have bq:=zb hwq;have kE:=zk hwq;have kNe:=za kNe bq;have bq:=zc b0e bq;clear b0e;have vv:Below wq.heap.size wq wq.drew:=zC (Below.refl _ _);(go_wp2_with fail);refine wp_region_held_drew (S:=(fun W=>(W.cell? ⟨w.heap.size,0,none⟩=some (.slice N.ba N.bn N.bc)∧W.cell? ⟨w.heap.size,1,none⟩=some (.slice N.la N.ln N.lc)∧W.cell? ⟨w.heap.size,2,none⟩=some (.slice N.sa N.sn N.sc))∧(W.cell? ⟨we.heap.size,0,none⟩=some (.int .i64 x.a)∧W.cell? ⟨we.heap.size,1,none⟩=some (.int .i64 x.p)∧W.cell? ⟨we.heap.size,2,none⟩=some (.int .i64 x.b)∧W.cell? ⟨we.heap.size,3,none⟩=some (.int .i64 x.q)))) (by kernel_rfl) (⟨zl (za kNe vv),zz (za kE vv)⟩) (fun hHeld => ?_);refine kK 0 ⟨some 21,.load 33 (.tmp 2),33,"l13_net.go:74",#[],none⟩ ?_;refine kK 1 ⟨some 22,.indexAddr 61 (.tmp 5) (.const (.int .i64 0)),0,"l13_net.go:74",#[],none⟩ ?_;refine kK 2 ⟨some 23,.load 60 (.tmp 22),60,"l13_net.go:74",#[⟨1,.data⟩],none⟩ ?_;refine kK 4 ⟨some 25,.load 33 (.tmp 2),33,"l13_net.go:74",#[],none⟩ ?_;refine kK 5 ⟨some 26,.indexAddr 61 (.tmp 5) (.const (.int .i64 1)),0,"l13_net.go:74",#[],none⟩ ?_;refine kK 6 ⟨some 27,.load 60 (.tmp 26),60,"l13_net.go:74",#[⟨5,.data⟩],none⟩ ?_;refine kR 3 ⟨some 24,.call ⟨.value (.func 54),#[.tmp 21,.tmp 23],#[33,60]⟩,109,"l13_net.go:74",#[⟨0,.data⟩,⟨2,.data⟩],none⟩ (fun K hK => ?_);go_simp;refine (zb5 N x.a x.p _ (h.below (zc bq vv))).mono ?_;rintro r wz ⟨v1,rfl,v1P,hbz⟩;have v1P:=PtAt.later v1P hbz;(try have v2P:=PtAt.later v2P hbz);have vv:=zc vv hbz;(go_wp2_with fail);refine hK.out _ _ (⟨zl (za kNe vv),zz (za kE vv)⟩) (fun hHeld => ?_);clear hK K;(try simp only [Act.put,lA,lB,lC]);refine kR 7 ⟨some 28,.call ⟨.value (.func 54),#[.tmp 25,.tmp 27],#[33,60]⟩,109,"l13_net.go:74",#[⟨4,.data⟩,⟨6,.data⟩,⟨3,.chain⟩],none⟩ (fun K hK => ?_);go_simp;refine (zb5 N x.b x.q _ (h.below (zc bq vv))).mono ?_;rintro r wz ⟨v2,rfl,v2P,hbz⟩;have v2P:=PtAt.later v2P hbz;(try have v1P:=PtAt.later v1P hbz);have vv:=zc vv hbz;(go_wp2_with fail);refine hK.out _ _ (⟨zl (za kNe vv),zz (za kE vv)⟩) (fun hHeld => ?_);clear hK K;(try simp only [Act.put,lA,lB,lC]);refine kK 8 ⟨some 6,.assign (.tmp 24),109,"l13_net.go:74",#[⟨3,.data⟩,⟨7,.chain⟩,⟨0,.phase⟩,⟨1,.phase⟩,⟨2,.phase⟩,⟨3,.phase⟩,{ on:=4,ground:=Ground.textOnly Departure.lateStores },{ on:=5,ground:=Ground.textOnly Departure.lateStores },{ on:=6,ground:=Ground.textOnly Departure.lateStores },{ on:=7,ground:=Ground.textOnly Departure.lateStoresUnsure }],none⟩ ?_;refine kK 9 ⟨some 7,.assign (.tmp 28),109,"l13_net.go:74",#[⟨7,.data⟩,⟨8,.chain⟩,⟨0,.phase⟩,⟨1,.phase⟩,⟨2,.phase⟩,⟨3,.phase⟩,⟨4,.phase⟩,⟨5,.phase⟩,⟨6,.phase⟩,⟨7,.phase⟩,⟨8,.phase⟩],none⟩ ?_;refine wpAnyH_done (by kernel_rfl) ?_ _;have HB:=hide (zc bq vv);have bz:=zc bq vv;clear hHeld kNe kE vv;cases hP:zaK N.brs x.a x.p with
  | none =>
   rw [hP] at v1P;have e1:v1=none:=v1P;subst e1;have HF:Hid (U=false):=hide (by rw [← HG.out]; unfold upAt; rw [hP]; rfl);clear bz v2P v1P;go_wp2;go_ret;exact ⟨by rw [HF.out]; rfl,HB.out⟩
  | some y1 =>
   rw [hP] at v1P;obtain ⟨p1,o1,rfl,q1⟩:=v1P;cases hQ:zaK N.brs x.b x.q with
   | none =>
    rw [hQ] at v2P;have e2:v2=none:=v2P;subst e2;have HF:Hid (U=false):=hide (by rw [← HG.out]; unfold upAt; rw [hQ]; simp);clear bz v2P q1;go_wp2;go_ret;exact ⟨by rw [HF.out]; rfl,HB.out⟩
   | some y2 =>
    rw [hQ] at v2P;obtain ⟨p2,o2,rfl,q2⟩:=v2P;have HF:Hid (U=(y1.up && y2.up)):=hide (by rw [← HG.out]; unfold upAt; rw [hP,hQ]);clear bz hP hQ;cases h1:y1.up
    ·rw [h1] at q1;have HF:Hid (U=false):=hide (by rw [HF.out,h1]; rfl);go_wp2;go_ret;exact ⟨by rw [HF.out]; rfl,HB.out⟩
    ·rw [h1] at q1;have HF:Hid (U=y2.up):=hide (by rw [HF.out,h1]; rfl);go_wp2;go_ret;exact ⟨by rw [HF.out]; rfl,HB.out⟩

def zX (p:PT) (v:VD):Bool:=p.has && ((p.v.r == v.r) && ((p.v.c == v.c) && ((p.v.h == v.h) && ((p.v.b == v.b) && (p.v.p == v.p)))))

def agrAt (bs:List BR) (x:LK):Bool:=match bs[x.a.toNat]?,bs[x.b.toNat]? with
 | some A,some B=>match A.ports[x.p.toNat]?,B.ports[x.q.toNat]? with
  | some pA,some pB=>zX pB (sayV A.id A.ports x.p) && zX pA (sayV B.id B.ports x.q)
  | _,_=>true
 | _,_=>true
def agrK (bs:List BR) (ls:List LK) (k:Nat):Bool:=match ls[k]? with
 | some x => !(zat bs ls (k:Int)) || agrAt bs x
 | none=>true
def agreed (bs:List BR) (ls:List LK):Bool:=(List.range ls.length).all (agrK bs ls)

theorem za6 {bs:List BR} {ls:List LK} {k:Nat} {x:LK} (hx:ls[k]?=some x) (h:zat bs ls (k:Int)=true):∃(i ip j jq:Nat) (A B:BR) (pA pB:PT),x=⟨(i:Int),(ip:Int),(j:Int),(jq:Int)⟩∧bs[i]?=some A∧bs[j]?=some B∧A.ports[ip]?=some pA∧B.ports[jq]?=some pB:=by
 unfold zat at h;rw [if_pos (by omega),Int.toNat_natCast,hx] at h;dsimp only at h;have key:∀b p:Int,upAt bs b p=true→∃(i ip:Nat) (A:BR) (pA:PT),b=(i:Int)∧p=(ip:Int)∧bs[i]?=some A∧A.ports[ip]?=some pA:=by
  intro b p hu;unfold upAt zaK at hu;by_cases hc:0≤b∧0≤p
  ·rw [if_pos hc] at hu;cases hA:bs[b.toNat]? with
   | none=>rw [hA] at hu; simp at hu
   | some A =>
    rw [hA] at hu;cases hp:A.ports[p.toNat]? with
    | none=>simp [hp] at hu
    | some pA=>exact ⟨b.toNat,p.toNat,A,pA,by omega,by omega,hA,hp⟩
  ·rw [if_neg hc] at hu
   simp at hu
 rw [Bool.and_eq_true] at h;obtain ⟨i,ip,A,pA,e1,e2,hA,hpA⟩:=key _ _ h.1;obtain ⟨j,jq,B,pB,e3,e4,hB,hpB⟩:=key _ _ h.2;obtain ⟨xa,xp,xb,xq⟩:=x;dsimp only at e1 e2 e3 e4;subst e1 e2 e3 e4;exact ⟨i,ip,j,jq,A,B,pA,pB,rfl,hA,hB,hpA,hpB⟩

theorem zdL {bs:List BR} {i ip j jq:Nat} {A B:BR} {pA pB:PT} (hA:bs[i]?=some A) (hB:bs[j]?=some B) (hpA:A.ports[ip]?=some pA) (hpB:B.ports[jq]?=some pB):agrAt bs ⟨(i:Int),(ip:Int),(j:Int),(jq:Int)⟩=(zX pB (sayV A.id A.ports (ip:Int)) && zX pA (sayV B.id B.ports (jq:Int))):=by
 unfold agrAt;simp only [Int.toNat_natCast,hA,hB,hpA,hpB]

theorem za0 {bs:List BR} {ls:List LK} {k:Nat} (hk:k < ls.length) (h:agrK bs ls k=false):agreed bs ls=false:=by
 unfold agreed;rw [Bool.eq_false_iff];intro hc;rw [List.all_eq_true] at hc
 have:=hc k (List.mem_range.2 hk)
 rw [h] at this;cases this

theorem zbQ {bs:List BR} {ls:List LK} (h:∀k,k < ls.length→agrK bs ls k=true):agreed bs ls=true:=by
 unfold agreed;rw [List.all_eq_true];intro k hk;exact h k (List.mem_range.1 hk)

theorem zbg {N:NV} {k:Nat} {A:BR} (h:N.brs[k]?=some A):∃y:BV,N.bs[k]?=some y∧y.B=A:=by
 unfold NV.brs at h;rw [List.getElem?_map] at h;cases hy:N.bs[k]? with
 | none=>rw [hy] at h; cases h
 | some y=>rw [hy] at h; cases h; exact ⟨y,rfl,rfl⟩

end Go.Proofs.Ytgmkhoakindpkaa
