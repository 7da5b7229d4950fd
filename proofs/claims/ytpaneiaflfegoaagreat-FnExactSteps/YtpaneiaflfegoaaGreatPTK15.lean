/-
  Packed: BrNewS BrBuild NetBeside NetUp NetMath NetUsed NetUpI.
-/
import Derived.Test.YtpaneiaflfegoaaGreatPTKW
import Derived.Test.YtpaneiaflfegoaaGreatPTBrOkS
import Derived.Test.YtpaneiaflfegoaaGreatPTK01
import Derived.Test.YtpaneiaflfegoaaGreatPTK02
import Derived.Test.YtpaneiaflfegoaaGreatPTK03
import Derived.Test.YtpaneiaflfegoaaGreatPTK04
import Derived.Test.YtpaneiaflfegoaaGreatPTK11
import Derived.Deep.RegionHeld3
namespace Go.Proofs.YtpaneiaflfegoaaGreat
set_option maxRecDepth 100000
set_option maxHeartbeats 16000000
open Go.RowKit

theorem BrOwn.boxed11 {w:World} {base:Nat} {a:Option Addr} {n c:Nat} {fa:Option Addr} {fn fc:Nat} {ra:Option Addr} {rn rc:Nat} {oa:Option Addr} {on oc:Nat} {B:BR} (h:BrOwn w base a n c fa fn fc ra rn rc oa on oc B) {X:Nat} {cs:Array Value} (hX:w.heap[X]?=some (.cells cs 64)) (u0 u1 u2 u3 u4 u5 u6 u7 u8 u9 u10:Value):BrOwn (((((((((((w.setCell ⟨X,0,none⟩ u0).setCell ⟨X,1,none⟩ u1).setCell ⟨X,2,none⟩ u2).setCell ⟨X,3,none⟩ u3).setCell ⟨X,4,none⟩ u4).setCell ⟨X,5,none⟩ u5).setCell ⟨X,6,none⟩ u6).setCell ⟨X,7,none⟩ u7).setCell ⟨X,8,none⟩ u8).setCell ⟨X,9,none⟩ u9).setCell ⟨X,10,none⟩ u10) base a n c fa fn fc ra rn rc oa on oc B :=
 (BrOwn.boxed (BrOwn.boxed (BrOwn.boxed (BrOwn.boxed (BrOwn.boxed (BrOwn.boxed (BrOwn.boxed (BrOwn.boxed (BrOwn.boxed (BrOwn.boxed (BrOwn.boxed h hX 0 u0) (box11 hX 0 u0) 1 u1) (box11 (box11 hX 0 u0) 1 u1) 2 u2) (box11 (box11 (box11 hX 0 u0) 1 u1) 2 u2) 3 u3) (box11 (box11 (box11 (box11 hX 0 u0) 1 u1) 2 u2) 3 u3) 4 u4) (box11 (box11 (box11 (box11 (box11 hX 0 u0) 1 u1) 2 u2) 3 u3) 4 u4) 5 u5) (box11 (box11 (box11 (box11 (box11 (box11 hX 0 u0) 1 u1) 2 u2) 3 u3) 4 u4) 5 u5) 6 u6) (box11 (box11 (box11 (box11 (box11 (box11 (box11 hX 0 u0) 1 u1) 2 u2) 3 u3) 4 u4) 5 u5) 6 u6) 7 u7) (box11 (box11 (box11 (box11 (box11 (box11 (box11 (box11 hX 0 u0) 1 u1) 2 u2) 3 u3) 4 u4) 5 u5) 6 u6) 7 u7) 8 u8) (box11 (box11 (box11 (box11 (box11 (box11 (box11 (box11 (box11 hX 0 u0) 1 u1) 2 u2) 3 u3) 4 u4) 5 u5) 6 u6) 7 u7) 8 u8) 9 u9) (box11 (box11 (box11 (box11 (box11 (box11 (box11 (box11 (box11 (box11 hX 0 u0) 1 u1) 2 u2) 3 u3) 4 u4) 5 u5) 6 u6) 7 u7) 8 u8) 9 u9) 10 u10)

theorem zag {K:Nat} {a w:World} (h:Below K a w) {g:Nat} (hB:K≤g) (u0 u1 u2 u3 u4 u5 u6 u7 u8 u9 u10:Value):Below K a (((((((((((w.setCell ⟨g,0,none⟩ u0).setCell ⟨g,1,none⟩ u1).setCell ⟨g,2,none⟩ u2).setCell ⟨g,3,none⟩ u3).setCell ⟨g,4,none⟩ u4).setCell ⟨g,5,none⟩ u5).setCell ⟨g,6,none⟩ u6).setCell ⟨g,7,none⟩ u7).setCell ⟨g,8,none⟩ u8).setCell ⟨g,9,none⟩ u9).setCell ⟨g,10,none⟩ u10) :=
 (zn (zn (zn (zn (zn (zn (zn (zn (zn (zn (zn h hB 0 u0) hB 1 u1) hB 2 u2) hB 3 u3) hB 4 u4) hB 5 u5) hB 6 u6) hB 7 u7) hB 8 u8) hB 9 u9) hB 10 u10)

structure BcSt (w wr:World) (R X:Nat) (cs:Array Value):Prop where
 box:wr.heap[X]?=some (.cells cs 64)
 res:wr.heap[R]?=some (.cells #[.int .i64 0,.string ⟨#[]⟩,.slice none 0 0,.slice none 0 0,.slice none 0 0,.slice none 0 0,.int .i64 0,.int .i64 0,.int .i64 0,.int .i64 0,.int .i64 0] 64)
 below:Below w.heap.size w wr
 hX:w.heap.size≤X
 hR:w.heap.size≤R
 ne:R≠X

theorem BcSt.later {w wr wx:World} {R X:Nat} {cs:Array Value} (h:BcSt w wr R X cs) (hb:Below wr.heap.size wr wx):BcSt w wx R X cs :=
 ⟨za h.box hb,za h.res hb,zc h.below hb,h.hX,h.hR,h.ne⟩

theorem BcSt.put {w wr:World} {R X:Nat} {cs:Array Value} (h:BcSt w wr R X cs) (j:Nat) (u:Value) {cs':Array Value} (he:cs.setIfInBounds j u=cs'):BcSt w (wr.setCell ⟨X,j,none⟩ u) R X cs' :=
 ⟨by rw [← he]; exact box11 h.box j u,z8 h.res h.ne,zn h.below h.hX j u,h.hX,h.hR,h.ne⟩

theorem BcSt.grown {w wr wx:World} {R X:Nat} {cs:Array Value} (h:BcSt w wr R X cs) {base k:Nat} {e:TypeId} {v:Value} {n:Nat} {xs:List Value} (ho:wr.ownsRow base e k v n xs) (hne:(e:Nat)≠64) (hg:wr.grownBy wx v.ownBlock) (hb:Below w.heap.size wr wx):BcSt w wx R X cs :=
 ⟨ze h.box hg (fun i e=>zy ho h.box hne i e),ze h.res hg (fun i e=>zy ho h.res hne i e),h.below.trans hb,h.hX,h.hR,h.ne⟩

theorem BcSt.stay {w wr:World} {R X:Nat} {cs:Array Value} (h:BcSt w wr R X cs) {base k:Nat} {e:TypeId} {v:Value} {n:Nat} {xs:List Value} (ho:wr.ownsRow base e k v n xs) (hne:(e:Nat)≠64) (j:Nat) (u:Value):(wr.setCell ⟨X,j,none⟩ u).ownsRow base e k v n xs :=
 zw ho (zg (rb:=X) j u) (zy ho h.box hne)

theorem BcSt.out {w wr:World} {R X:Nat} {cs:Array Value} (h:BcSt w wr R X cs) {base:Nat} {a:Option Addr} {n c:Nat} {fa:Option Addr} {fn fc:Nat} {ra:Option Addr} {rn rc:Nat} {oa:Option Addr} {on oc:Nat} {B:BR} (ho:BrOwn wr base a n c fa fn fc ra rn rc oa on oc B) (u0 u1 u2 u3 u4 u5 u6 u7 u8 u9 u10:Value):BrOwn (((((((((((wr.setCell ⟨R,0,none⟩ u0).setCell ⟨R,1,none⟩ u1).setCell ⟨R,2,none⟩ u2).setCell ⟨R,3,none⟩ u3).setCell ⟨R,4,none⟩ u4).setCell ⟨R,5,none⟩ u5).setCell ⟨R,6,none⟩ u6).setCell ⟨R,7,none⟩ u7).setCell ⟨R,8,none⟩ u8).setCell ⟨R,9,none⟩ u9).setCell ⟨R,10,none⟩ u10) base a n c fa fn fc ra rn rc oa on oc B∧Below w.heap.size w (((((((((((wr.setCell ⟨R,0,none⟩ u0).setCell ⟨R,1,none⟩ u1).setCell ⟨R,2,none⟩ u2).setCell ⟨R,3,none⟩ u3).setCell ⟨R,4,none⟩ u4).setCell ⟨R,5,none⟩ u5).setCell ⟨R,6,none⟩ u6).setCell ⟨R,7,none⟩ u7).setCell ⟨R,8,none⟩ u8).setCell ⟨R,9,none⟩ u9).setCell ⟨R,10,none⟩ u10) :=
 ⟨ho.boxed11 h.res u0 u1 u2 u3 u4 u5 u6 u7 u8 u9 u10,zag h.below h.hR u0 u1 u2 u3 u4 u5 u6 u7 u8 u9 u10⟩

def za1 (b p:Int) (x:LK):Option (Int × Int):=if x.a=b∧x.p=p then some (x.b,x.q) else if x.b=b∧x.q=p then some (x.a,x.p) else none
def zbA (ls:List LK) (b p:Int):Option (Int × Int):=ls.findSome? (za1 b p)
def zft (o:Option (Int × Int)):Value:=match o with
 | some (x,y)=>.tuple #[.int .i64 x,.int .i64 y,.bool true]
 | none=>.tuple #[.int .i64 (-1),.int .i64 (-1),.bool false]

theorem zg8 {ls:List LK} {b p:Int} (h:∀x∈ls,za1 b p x=none):zbA ls b p=none:=by
 unfold zbA;exact List.findSome?_eq_none_iff.2 h

theorem zeW {ls:List LK} {b p:Int} {k:Nat} {x:LK} (hx:ls[k]?=some x) (hn:∀y∈ls.take k,za1 b p y=none) {q:Int × Int} (hq:za1 b p x=some q):zbA ls b p=some q:=by
 have hk:=(List.getElem?_eq_some_iff.1 hx).1;have e:ls=ls.take k++x::ls.drop (k+1):=by
  obtain ⟨h,rfl⟩:=List.getElem?_eq_some_iff.1 hx;rw [← List.drop_eq_getElem_cons h,List.take_append_drop]
 unfold zbA;rw [e,List.findSome?_append,List.findSome?_eq_none_iff.2 hn,Option.none_or,List.findSome?_cons,hq]

theorem zkr {ls:List LK} {b p:Int} {k:Nat} {x:LK} (hx:ls[k]?=some x) (hn:∀y∈ls.take k,za1 b p y=none) (hq:za1 b p x=none):∀y∈ls.take (k+1),za1 b p y=none:=by
 rw [List.take_add_one,hx];intro y hy;rcases List.mem_append.1 hy with hy | hy
 ·exact hn y hy
 ·have:=List.mem_singleton.1 (by simpa using hy); rw [this]; exact hq

theorem zM {w:World} {g:Nat} {T:TypeId} {c0 c1 c2 c3:Value} (h:w.heap[g]?=some (.cells #[c0,c1,c2,c3] T)):w.cell? ⟨g,0,none⟩=some c0∧w.cell? ⟨g,1,none⟩=some c1∧w.cell? ⟨g,2,none⟩=some c2∧w.cell? ⟨g,3,none⟩=some c3:=by
 simp [World.cell?,h]

theorem zm {w:World} {g:Nat} {T:TypeId} {c0 c1:Value} (h:w.heap[g]?=some (.cells #[c0,c1] T)):w.cell? ⟨g,0,none⟩=some c0∧w.cell? ⟨g,1,none⟩=some c1:=by
 simp [World.cell?,h]

theorem zd {w:World} {g:Nat} {T:TypeId} {c0 c1 c2:Value} (h:w.heap[g]?=some (.cells #[c0,c1,c2] T)):w.cell? ⟨g,0,none⟩=some c0∧w.cell? ⟨g,1,none⟩=some c1∧w.cell? ⟨g,2,none⟩=some c2:=by
 simp [World.cell?,h]

theorem zdy (a b a' b':Int) (w:World):(binOp .eql 164 (.agg #[.int .i64 a,.int .i64 b]) (.agg #[.int .i64 a',.int .i64 b'])).run Tryz.prog w=.ok (.bool ((a == a') && (b == b'))) w:=by
 have u3:=Tryz.underlying3;have a3:=Tryz.isAgg3;have z3:=Tryz.sizeOf3;have hS:Tryz.prog.underlying 164=some (.struct (Tryz.prog.fieldsOf 164)):=by kernel_rfl
 have hp:Tryz.prog.stoodInHeld 164=false:=by kernel_rfl
 rw [run_eql_struct,show (10000:Nat)=9999+1 from rfl,run_equalIn_agg w 9999 164 _ _ hS hp];simp only [Program.fieldsOf,Tryz.underlying164];go_simp;by_cases h1:a=a' <;> by_cases h2:b=b' <;> simp [h1,h2]

theorem zb8 (x:LK) (w:World):Calls Tryz.prog 118 #[.agg #[.int .i64 x.a,.int .i64 x.p,.int .i64 x.b,.int .i64 x.q]] w fun e w'=>e=.returned (.agg #[.int .i64 x.a,.int .i64 x.p,.int .i64 x.b,.int .i64 x.q])∧Below w.heap.size w w':=by
 go_enter Tryz.func118,Tryz.ntmps118;go_wp2;exact bodyPost_ret (v:=.agg #[.int .i64 x.a,.int .i64 x.p,.int .i64 x.b,.int .i64 x.q]) (by simp [results,Tryz.results118,go_sem, *]) rfl ⟨rfl,zL _ _ _⟩

theorem zeK (N:NV) (b p:Int) (w:World) (h:zae w N) :
  Calls Tryz.prog 121 #[.agg #[.slice N.ba N.bn N.bc,.slice N.la N.ln N.lc,.slice N.sa N.sn N.sc],.int .i64 b,.int .i64 p] w fun e w'=>e=.returned (zft (zbA N.ls b p))∧Below w.heap.size w w':=by
 obtain ⟨ba,bn,bc,bs,la,ln,lc,ls,sa,sn,sc,ss⟩:=N;obtain ⟨-,-,hL,-⟩:=h;dsimp only at hL ⊢;have hle:=Nat.le_trans hL.le hL.top;unfold maxLen at hle;have hsz:=hide hL.size;generalize hw1:w.alloc (Obj.cells #[.slice ba bn bc,.slice la ln lc,.slice sa sn sc] 34)=w1;generalize hw2:w1.alloc (Obj.cells #[.int .i64 b,.int .i64 p] 164)=w2;have b01:=zb hw1;have b12:=zb hw2;have k1:=za (zk hw1) b12;have k2:=zk hw2;have b02:=zc b01 b12;obtain ⟨x0,x1,x2⟩:=zd k1;go_enter Tryz.func121,Tryz.ntmps121;go_wp2_with fail
 generalize hX:w1.heap.size=X at *;clear hw1 hw2 x0 x1 x2
 go_loopw [19] (fun i wr=>∃k:Nat,k≤ln∧i=.int .i64 k∧(∀y∈ls.take k,za1 b p y=none)∧wr.heap[X]?=some (.cells #[.int .i64 b,.int .i64 p] 164)∧Below w.heap.size w wr) (fun i _=>ln - (intOf i).toNat)
 case atStart=>exact ⟨0,Nat.zero_le _,rfl,by intro y hy; simp at hy,k2,b02⟩
 case round =>
  obtain ⟨k,hk,rfl,hn,hbox,hb⟩:=hrel;clear k1 k2 b02 b01 b12;by_cases hlt:k < ln
  ·obtain ⟨x,lb,off,hx,rfl,a0,a1,a2,a3⟩:=zaw (hL.below hb) k hlt;have i1:(0:Int)≤(k:Int):=by omega
   have i2:(k:Int) < (ln:Int):=by omega
   have HX:=hide hx;have HN:=hide hn;generalize hwa:wr.alloc (Obj.cells #[.int .i64 x.a,.int .i64 x.p,.int .i64 x.b,.int .i64 x.q] 98)=wa;have ba:=zb hwa;have ka:=zk hwa;have hbx:=za hbox ba;have hba:=zc hb ba;obtain ⟨y0,y1,y2,y3⟩:=zM ka;clear hx hn hb hbox;(go_wp2_with fail);refine (zb8 x _).mono ?_;rintro e we ⟨rfl,hbe⟩;have ke:=za ka hbe;have hbx:=za hbx hbe;have hbe':=zc hba hbe;generalize hR:wr.heap.size=R at *;clear hwa y0 y1 y2 y3 ka ba hbe hba a0 a1 a2 a3;generalize hwq:we.alloc (Obj.cells #[.int .i64 x.a,.int .i64 x.p,.int .i64 x.b,.int .i64 x.q] 165)=wq;have bq:=zb hwq;have kq:=zk hwq;have ke:=za ke bq;have hbx:=za hbx bq;have HBQ:=hide (zc hbe' bq);obtain ⟨y0,y1,y2,y3⟩:=zM ke;obtain ⟨z0,z1,z2,z3⟩:=zM kq;obtain ⟨u0,u1⟩:=zm hbx;have HBX:=hide hbx;clear hbe' bq ke kq hbx;have hgd:Tryz.prog.eqGuardType Tryz.prog.depth 164=false:=by kernel_rfl
   by_cases e1:x.a=b∧x.p=p
   ·have HG:Hid (zbA ls b p=some (x.b,x.q)):=hide (zeW HX.out HN.out (by unfold za1; rw [if_pos e1]));have he:∀W,(binOp .eql 164 (.agg #[.int .i64 b,.int .i64 p]) (.agg #[.int .i64 x.a,.int .i64 x.p])).run Tryz.prog W=.ok (.bool true) W:=fun W=>by rw [zdy,e1.1,e1.2]; simp
    clear e1;(go_wp2_with fail)
    go_region
    go_wp2;rw [HG.out];exact bodyPost_ret (v:=.tuple #[.int .i64 x.b,.int .i64 x.q,.bool true]) (by simp [results,Tryz.results121,go_sem, *]) rfl ⟨rfl,zp HBQ.out⟩
   ·have he:∀W,(binOp .eql 164 (.agg #[.int .i64 b,.int .i64 p]) (.agg #[.int .i64 x.a,.int .i64 x.p])).run Tryz.prog W=.ok (.bool false) W:=fun W=>by
     rw [zdy,show ((b == x.a) && (p == x.p))=false by
      cases h1:(b == x.a) && (p == x.p)
      ·rfl
      ·simp at h1; exact absurd ⟨h1.1.symm,h1.2.symm⟩ e1]
    by_cases e2:x.b=b∧x.q=p
    ·have HG:Hid (zbA ls b p=some (x.a,x.p)):=hide (zeW HX.out HN.out (by unfold za1; rw [if_neg e1,if_pos e2]));have he2:∀W,(binOp .eql 164 (.agg #[.int .i64 b,.int .i64 p]) (.agg #[.int .i64 x.b,.int .i64 x.q])).run Tryz.prog W=.ok (.bool true) W:=fun W=>by rw [zdy,e2.1,e2.2]; simp
     clear e1 e2;(go_wp2_with fail)
     go_region
     go_wp2;rw [HG.out];exact bodyPost_ret (v:=.tuple #[.int .i64 x.a,.int .i64 x.p,.bool true]) (by simp [results,Tryz.results121,go_sem, *]) rfl ⟨rfl,zp HBQ.out⟩
    ·have HT:=hide (zkr HX.out HN.out (by unfold za1; rw [if_neg e1,if_neg e2]));have he2:∀W,(binOp .eql 164 (.agg #[.int .i64 b,.int .i64 p]) (.agg #[.int .i64 x.b,.int .i64 x.q])).run Tryz.prog W=.ok (.bool false) W:=fun W=>by
      rw [zdy,show ((b == x.b) && (p == x.q))=false by
       cases h1:(b == x.b) && (p == x.q)
       ·rfl
       ·simp at h1; exact absurd ⟨h1.1.symm,h1.2.symm⟩ e2]
     clear e1 e2;go_wp2
     go_roundw
     case rel=>exact ⟨k+1,by omega,by go_num,HT.out,HBX.out,HBQ.out⟩
     case measure=>simp [intOf]; omega
  ·have hkn:k=ln:=by omega
   rw [List.take_of_length_le (by have:=hsz.out; omega)] at hn;have HG:=hide (zg8 hn);subst hkn;go_wp2;rw [HG.out];exact bodyPost_ret (v:=.tuple #[.int .i64 (-1),.int .i64 (-1),.bool false]) (by simp [results,Tryz.results121,go_sem, *]) rfl ⟨rfl,hb⟩

abbrev q88:Oper:=⟨some 10,.move (.tmp 5),176,"l13_net.go:99",#[],none⟩
abbrev q89:Oper:=⟨some 11,.binOp .eql 176 (.tmp 10) (.const (.pointer none)) 176,4,"l13_net.go:99",#[⟨0,.data⟩],none⟩
abbrev q90:Oper:=⟨some 12,.move (.tmp 11),4,"l13_net.go:99",#[⟨1,.data⟩],none⟩
abbrev q91:Oper:=⟨some 13,.move (.tmp 5),176,"l13_net.go:99",#[⟨2,.guard⟩],some (2,false)⟩
abbrev q92:Oper:=⟨some 14,.nilCheck (.tmp 13),0,"l13_net.go:99",#[⟨3,.data⟩,⟨2,.guard⟩],some (2,false)⟩
abbrev q93:Oper:=⟨some 15,.fieldAddr 64 (.tmp 14) 2,0,"l13_net.go:99",#[⟨4,.data⟩,⟨2,.guard⟩],some (2,false)⟩
abbrev q94:Oper:=⟨some 16,.load 57 (.tmp 15),57,"l13_net.go:99",#[⟨5,.data⟩,⟨2,.guard⟩],some (2,false)⟩
abbrev q95:Oper:=⟨some 17,.fieldAddr 164 (.tmp 3) 1,0,"l13_net.go:99",#[⟨2,.guard⟩],some (2,false)⟩
abbrev q96:Oper:=⟨some 18,.load 3 (.tmp 17),3,"l13_net.go:99",#[⟨7,.data⟩,⟨2,.guard⟩],some (2,false)⟩
abbrev q97:Oper:=⟨some 19,.call ⟨.value (.func 153),#[.tmp 16,.tmp 18],#[123,3]⟩,4,"l13_net.go:99",#[⟨6,.data⟩,⟨8,.data⟩,⟨2,.chain⟩,⟨2,.guard⟩],some (2,false)⟩
abbrev q98:Oper:=⟨some 20,.unOp .not 4 (.tmp 19),4,"l13_net.go:99",#[⟨9,.data⟩,⟨2,.guard⟩],some (2,false)⟩
abbrev q99:Oper:=⟨some 21,.pick (.tmp 12) (.const (.bool true)) (.tmp 20),4,"l13_net.go:99",#[⟨2,.data⟩,⟨10,.data⟩],none⟩

def zaG (bs:List BR) (b p:Int):Option PT:=if 0≤b∧0≤p then (bs[b.toNat]?).bind (fun B=>B.ports[p.toNat]?) else none
def upAt (bs:List BR) (b p:Int):Bool:=match zaG bs b p with
 | some x=>x.up
 | none=>false
def zak (bs:List BR) (ls:List LK) (k:Int):Bool:=if 0≤k then (match ls[k.toNat]? with
 | some x=>upAt bs x.a x.p && upAt bs x.b x.q
 | none=>false) else false

theorem zf7 {N:NV} {k:Nat} {x:BV} (h:N.bs[k]?=some x):N.brs[k]?=some x.B:=by unfold NV.brs; rw [List.getElem?_map,h]; rfl
theorem zdw (N:NV):N.brs.length=N.bs.length:=by unfold NV.brs; simp

theorem zhP {bs:List BR} {b p:Int} (h:(decide (0≤b) && decide (b≤(bs.length:Int) - 1))=false):zaG bs b p=none:=by
 unfold zaG
 split
 ·rename_i hc
  rw [List.getElem?_eq_none (by simp at h; omega)]
  rfl
 ·rfl
theorem zkc {bs:List BR} {k:Nat} {B:BR} (h:bs[k]?=some B) (p:Int):zaG bs (k:Int) p=if 0≤p then B.ports[p.toNat]? else none:=by
 unfold zaG;by_cases hp:0≤p
 ·rw [if_pos ⟨by omega,hp⟩,if_pos hp,Int.toNat_natCast,h]; rfl
 ·rw [if_neg (fun hc=>hp hc.2),if_neg hp]
theorem zfU {bs:List BR} {k:Nat} {B:BR} (h:bs[k]?=some B) {p:Int} (hp:(decide (0≤p) && decide (p≤(B.ports.length:Int) - 1))=false):zaG bs (k:Int) p=none:=by
 rw [zkc h]
 split
 ·exact List.getElem?_eq_none (by simp at hp; omega)
 ·rfl
theorem zhO {bs:List BR} {k:Nat} {B:BR} (h:bs[k]?=some B) {j:Nat} {y:PT} (hy:B.ports[j]?=some y):zaG bs (k:Int) (j:Int)=some y:=by
 rw [zkc h,if_pos (by omega),Int.toNat_natCast,hy]

theorem zfm (N:NV) (b p:Int) (w:World) (h:zae w N) :
  Calls Tryz.prog 104 #[.agg #[.slice N.ba N.bn N.bc,.slice N.la N.ln N.lc,.slice N.sa N.sn N.sc],.int .i64 b,.int .i64 p] w fun e w'=>e=.returned (.bool (upAt N.brs b p))∧Below w.heap.size w w':=by
 have hle:=Nat.le_trans h.b.le h.b.top;unfold maxLen at hle;have hsz:=h.b.size;generalize hG:upAt N.brs b p=U;have HG:=hide hG;clear hG;generalize hw1:w.alloc (Obj.cells #[.slice N.ba N.bn N.bc,.slice N.la N.ln N.lc,.slice N.sa N.sn N.sc] 34)=w1;have b01:=zb hw1;have k1:=zk hw1;obtain ⟨x0,x1,x2⟩:=zd k1;cases hA:(decide (0≤b) && decide (b≤(N.bn:Int) - 1))
 ·have HF:Hid (U=false):=hide (by rw [← HG.out]; unfold upAt; rw [zhP (by rw [zdw,hsz]; exact hA)]);go_enter Tryz.func104,Tryz.ntmps104;(go_wp2_with fail);refine (zh b 0 ((N.bn:Int) - 1) _).mono ?_;rintro e w2 ⟨rfl,ew⟩;obtain rfl:=ew.symm;rw [hA];clear hA;go_wp2;go_ret;exact ⟨by rw [HF.out]; rfl,b01⟩
 ·obtain ⟨k,rfl⟩:∃k:Nat,b=(k:Int):=⟨b.toNat,by simp at hA; omega⟩;have hk:k < N.bn:=by simp at hA; omega
  obtain ⟨x,bb,off,hx,hba,c0,c1,c2,c3,c4,c5,c6,c7,c8,c9,c10⟩:=br_at (h.b.below b01) k hk;have hm:=List.mem_of_getElem? hx;have hr:=(h.item x hm).below b01;have hpl:=Nat.le_trans hr.ports.le hr.ports.top;unfold maxLen at hpl;have i1:(0:Int)≤(k:Int):=by omega
  have i2:(k:Int) < (N.bn:Int):=by omega
  have HX:=hide (zf7 hx);clear hx hm;rw [hba] at x0;cases hB:(decide (0≤p) && decide (p≤(x.n:Int) - 1))
  ·have HF:Hid (U=false):=hide (by rw [← HG.out]; unfold upAt; rw [zfU HX.out (by rw [hr.ports.size]; exact hB)]);clear hba;go_enter Tryz.func104,Tryz.ntmps104;(go_wp2_with fail);refine (zh (k:Int) 0 ((N.bn:Int) - 1) _).mono ?_;rintro e w2 ⟨rfl,ew⟩;obtain rfl:=ew.symm;rw [hA];clear hA;(go_wp2_with fail);refine (zh p 0 ((x.n:Int) - 1) _).mono ?_;rintro e w2 ⟨rfl,ew⟩;obtain rfl:=ew.symm;rw [hB];clear hB;go_wp2;go_ret;exact ⟨by rw [HF.out]; rfl,b01⟩
  ·obtain ⟨j,rfl⟩:∃j:Nat,p=(j:Int):=⟨p.toNat,by simp at hB; omega⟩;have hj:j < x.n:=by simp at hB; omega
   obtain ⟨y,pb,po,hy,hpa,d0,-⟩:=pt_at hr.ports j hj;have HF:Hid (U=y.up):=hide (by rw [← HG.out]; unfold upAt; rw [zhO HX.out hy]);have i3:(0:Int)≤(j:Int):=by omega
   have i4:(j:Int) < (x.n:Int):=by omega
   rw [hpa] at c2;clear hba hpa;go_enter Tryz.func104,Tryz.ntmps104;(go_wp2_with fail);refine (zh (k:Int) 0 ((N.bn:Int) - 1) _).mono ?_;rintro e w2 ⟨rfl,ew⟩;obtain rfl:=ew.symm;rw [hA];clear hA;(go_wp2_with fail);refine (zh (j:Int) 0 ((x.n:Int) - 1) _).mono ?_;rintro e w2 ⟨rfl,ew⟩;obtain rfl:=ew.symm;rw [hB];clear hB;go_wp2;go_ret;exact ⟨by rw [HF.out]; rfl,b01⟩

theorem zby (N:NV) (k:Int) (w:World) (h:zae w N) :
  Calls Tryz.prog 55 #[.agg #[.slice N.ba N.bn N.bc,.slice N.la N.ln N.lc,.slice N.sa N.sn N.sc],.int .i64 k] w fun e w'=>e=.returned (.bool (zak N.brs N.ls k))∧Below w.heap.size w w':=by
 have hle:=Nat.le_trans h.l.le h.l.top;unfold maxLen at hle;have hsz:=h.l.size;generalize hG:zak N.brs N.ls k=U;have HG:=hide hG;clear hG;generalize hw1:w.alloc (Obj.cells #[.slice N.ba N.bn N.bc,.slice N.la N.ln N.lc,.slice N.sa N.sn N.sc] 34)=w1;have b01:=zb hw1;have k1:=zk hw1;obtain ⟨x0,x1,x2⟩:=zd k1;cases hA:(decide (0≤k) && decide (k≤(N.ln:Int) - 1))
 ·have HF:Hid (U=false):=hide (by
   rw [← HG.out];unfold zak
   split
   ·rw [List.getElem?_eq_none (by simp at hA; omega)]
   ·rfl)
  go_enter Tryz.func55,Tryz.ntmps55;(go_wp2_with fail);refine (zh k 0 ((N.ln:Int) - 1) _).mono ?_;rintro e w2 ⟨rfl,ew⟩;obtain rfl:=ew.symm;rw [hA];clear hA;go_wp2;go_ret;exact ⟨by rw [HF.out]; rfl,b01⟩
 ·obtain ⟨j,rfl⟩:∃j:Nat,k=(j:Int):=⟨k.toNat,by simp at hA; omega⟩;have hj:j < N.ln:=by simp at hA; omega
  obtain ⟨x,lb,off,hx,hla,a0,a1,a2,a3⟩:=zaw (h.l.below b01) j hj;have HF:Hid (U=(upAt N.brs x.a x.p && upAt N.brs x.b x.q)):=hide (by rw [← HG.out]; unfold zak; rw [if_pos (by omega),Int.toNat_natCast,hx]);have i1:(0:Int)≤(j:Int):=by omega
  have i2:(j:Int) < (N.ln:Int):=by omega
  have y1:=x1;rw [hla] at y1;clear hx;have HLA:=hide hla;clear hla x1;go_enter Tryz.func55,Tryz.ntmps55;(go_wp2_with fail);refine (zh (j:Int) 0 ((N.ln:Int) - 1) _).mono ?_;rintro e w2 ⟨rfl,ew⟩;obtain rfl:=ew.symm;rw [hA];clear hA;generalize hwa:w1.alloc (Obj.cells #[.int .i64 x.a,.int .i64 x.p,.int .i64 x.b,.int .i64 x.q] 98)=wa;have ba:=zb hwa;have ka:=zk hwa;have kNe:=za k1 ba;have b0a:=zc b01 ba;obtain ⟨z0,z1,z2⟩:=zd kNe;obtain ⟨u0,u1,u2,u3⟩:=zM ka;(go_wp2_with fail);refine (zfm N x.a x.p _ (h.below b0a)).mono ?_;rintro e w3 ⟨rfl,hb3⟩;have kNe:=za kNe hb3;have ka:=za ka hb3;have b03:=zc b0a hb3;clear z0 z1 z2 u0 u1 u2 u3 a0 a1 a2 a3 x0 x2 y1 hwa hb3 ba;generalize hR:w1.heap.size=R at *;obtain ⟨z0,z1,z2⟩:=zd kNe;obtain ⟨u0,u1,u2,u3⟩:=zM ka;cases hU:upAt N.brs x.a x.p
  ·have HF:Hid (U=false):=hide (by rw [HF.out,hU]; rfl);go_wp2;go_ret;exact ⟨by rw [HF.out]; rfl,b03⟩
  ·have HF:Hid (U=upAt N.brs x.b x.q):=hide (by rw [HF.out,hU]; rfl);(go_wp2_with fail);refine (zfm N x.b x.q _ (h.below b03)).mono ?_;rintro e w4 ⟨rfl,hb4⟩;have HB:=hide (zc b03 hb4);clear z0 z1 z2 u0 u1 u2 u3 hb4;go_wp2;go_ret;exact ⟨by rw [HF.out]; rfl,HB.out⟩

theorem zgo (a:Option Addr) (n c:Nat) (port:Int) (w:World) (hn:n≤9223372036854775807) :
  Calls Tryz.prog 153 #[.slice a n c,.int .i64 port] w fun e w'=>e=.returned (.bool (decide (0≤port) && decide (port≤(n:Int) - 1)))∧w'=w:=by
 go_enter Tryz.func153,Tryz.ntmps153;go_wp2_with fail
 refine (zE port 0 ((n:Int) - 1) _).mono ?_;rintro r w3 ⟨rfl,ew⟩;obtain rfl:=ew.symm;go_wp2;go_ret;exact ⟨rfl,rfl⟩

theorem zhb (N:NV) (b:Int) (w:World) (hle:N.bn≤9223372036854775807) (hA:(decide (0≤b) && decide (b≤(N.bn:Int) - 1))=false) :
  Calls Tryz.prog 129 #[.agg #[.slice N.ba N.bn N.bc,.slice N.la N.ln N.lc,.slice N.sa N.sn N.sc],.int .i64 b] w fun e w'=>e=.returned (.pointer none)∧Below w.heap.size w w':=by
 generalize hw1:w.alloc (Obj.cells #[.slice N.ba N.bn N.bc,.slice N.la N.ln N.lc,.slice N.sa N.sn N.sc] 34)=w1;have b01:=zb hw1;have k1:=zk hw1;obtain ⟨x0,x1,x2⟩:=zd k1;go_enter Tryz.func129,Tryz.ntmps129;go_wp2_with fail
 refine (zE b 0 ((N.bn:Int) - 1) _).mono ?_;rintro e w2 ⟨rfl,ew⟩;obtain rfl:=ew.symm;rw [hA];clear hA;go_wp2;go_ret;exact ⟨rfl,b01⟩

theorem zbi (N:NV) (k:Nat) (g off:Nat) (w:World) (hle:N.bn≤9223372036854775807) (hk:k < N.bn) (hba:N.ba=some ⟨g,off,none⟩) :
  Calls Tryz.prog 129 #[.agg #[.slice N.ba N.bn N.bc,.slice N.la N.ln N.lc,.slice N.sa N.sn N.sc],.int .i64 (k:Int)] w fun e w'=>e=.returned (.pointer (some ⟨g,off+k*11,none⟩))∧Below w.heap.size w w':=by
 generalize hw1:w.alloc (Obj.cells #[.slice N.ba N.bn N.bc,.slice N.la N.ln N.lc,.slice N.sa N.sn N.sc] 34)=w1;have b01:=zb hw1;have k1:=zk hw1;obtain ⟨x0,x1,x2⟩:=zd k1;have hA:(decide (0≤(k:Int)) && decide ((k:Int)≤(N.bn:Int) - 1))=true:=by simp; omega
 have i1:(0:Int)≤(k:Int):=by omega
 have i2:(k:Int) < (N.bn:Int):=by omega
 rw [hba] at x0;clear hba;go_enter Tryz.func129,Tryz.ntmps129;go_wp2_with fail
 refine (zE (k:Int) 0 ((N.bn:Int) - 1) _).mono ?_;rintro e w2 ⟨rfl,ew⟩;obtain rfl:=ew.symm;rw [hA];clear hA;go_wp2;go_ret;exact ⟨rfl,b01⟩

def PtAt (w:World) (v:Option Addr) (o:Option PT):Prop:=match o with
 | none=>v=none
 | some y=>∃g j:Nat,v=some ⟨g,j,none⟩∧w.cell? ⟨g,j,none⟩=some (.bool y.up)
def PtAll (w:World) (v:Option Addr) (o:Option PT):Prop:=match o with
 | none=>v=none
 | some y=>∃g j:Nat,v=some ⟨g,j,none⟩∧w.cell? ⟨g,j,none⟩=some (.bool y.up)∧w.cell? ⟨g,j+1,none⟩=some (.int .i64 y.k)∧w.cell? ⟨g,j+2,none⟩=some (.bool y.has)∧w.cell? ⟨g,j+3,none⟩=some (.int .i64 y.v.r)∧w.cell? ⟨g,j+4,none⟩=some (.int .i64 y.v.c)∧w.cell? ⟨g,j+5,none⟩=some (.int .i64 y.v.h)∧w.cell? ⟨g,j+6,none⟩=some (.int .i64 y.v.b)∧w.cell? ⟨g,j+7,none⟩=some (.int .i64 y.v.p)
theorem PtAll.upAt {w:World} {v:Option Addr} {o:Option PT} (h:PtAll w v o):PtAt w v o:=by
 cases o with
 | none=>exact h
 | some y =>
  obtain ⟨g,j,e,c,-⟩:=h;exact ⟨g,j,e,c⟩

theorem zjb (N:NV) (b p:Int) (w:World) (h:zae w N) :
  Calls Tryz.prog 119 #[.agg #[.slice N.ba N.bn N.bc,.slice N.la N.ln N.lc,.slice N.sa N.sn N.sc],.agg #[.int .i64 b,.int .i64 p]] w fun e w'=>∃v,e=.returned (.pointer v)∧PtAll w v (zaG N.brs b p)∧Below w.heap.size w w':=by
 have hle:=Nat.le_trans h.b.le h.b.top;unfold maxLen at hle;have hsz:=h.b.size;generalize hw1:w.alloc (Obj.cells #[.slice N.ba N.bn N.bc,.slice N.la N.ln N.lc,.slice N.sa N.sn N.sc] 34)=w1;generalize hw2:w1.alloc (Obj.cells #[.int .i64 b,.int .i64 p] 164)=w2;have b01:=zb hw1;have b12:=zb hw2;have kNe:=za (zk hw1) b12;have kE:=zk hw2;have b02:=zc b01 b12;obtain ⟨x0,x1,x2⟩:=zd kNe;obtain ⟨e0,e1⟩:=zm kE;cases hA:(decide (0≤b) && decide (b≤(N.bn:Int) - 1))
 ·have HF:=hide (zhP (bs:=N.brs) (b:=b) (p:=p) (by rw [zdw,hsz]; exact hA));go_enter Tryz.func119,Tryz.ntmps119;(go_wp2_with fail);refine (zhb N b _ hle hA).mono ?_;rintro e w3 ⟨rfl,hb3⟩;have b03:=zc b02 hb3;clear x0 x1 x2 e0 e1 hb3;have vv:Below w3.heap.size w3 w3.drew:=zp (Below.refl _ _);(go_wp2_with fail);refine wp_region_held_drew (S:=(fun _=>True)) (by kernel_rfl) (trivial) (fun hHeld => ?_);refine kK 0 q88 ?_;refine kK 1 q89 ?_;refine kK 2 q90 ?_;refine kN 3 q91 ?_;refine kN 4 q92 ?_;refine kN 5 q93 ?_;refine kN 6 q94 ?_;refine kN 7 q95 ?_;refine kN 8 q96 ?_;refine kN 9 q97 ?_;refine kN 10 q98 ?_;refine kK 11 q99 ?_;refine wpAnyH_done (by kernel_rfl) ?_ _;have HB:=hide (zc b03 vv);clear hHeld vv;go_wp2;go_ret;exact ⟨none,rfl,by rw [HF.out]; rfl,HB.out⟩
 ·obtain ⟨k,rfl⟩:∃k:Nat,b=(k:Int):=⟨b.toNat,by simp at hA; omega⟩;have hk:k < N.bn:=by simp at hA; omega
  obtain ⟨x,bb,off,hx,hba,cc0,cc1,cc2,-⟩:=br_at h.b k hk;have hr:=h.item x (List.mem_of_getElem? hx);have hpl:=Nat.le_trans hr.ports.le hr.ports.top;unfold maxLen at hpl;have HX:=hide (zf7 hx);have HBA:=hide hba;clear hx hA hba;go_enter Tryz.func119,Tryz.ntmps119;(go_wp2_with fail);refine (zbi N k bb off _ hle hk HBA.out).mono ?_;rintro e w3 ⟨rfl,hb3⟩;have b03:=zc b02 hb3;have kE:=za kE hb3;have c2:=(b03.cell (zF cc2)).trans cc2;clear x0 x1 x2 e0 e1 hb3 cc0 cc1 cc2;obtain ⟨e0,e1⟩:=zm kE;generalize hR:w1.heap.size=R at *;have vv:Below w3.heap.size w3 w3.drew:=zp (Below.refl _ _);(go_wp2_with fail);cases hB:(decide (0≤p) && decide (p≤(x.n:Int) - 1))
  ·have HF:=hide (zfU HX.out (by rw [hr.ports.size]; exact hB));refine wp_region_held_drew (S:=(fun W=>W.cell? ⟨bb,off+k*11+2,none⟩=some (.slice x.a x.n x.c)∧W.cell? ⟨R,1,none⟩=some (.int .i64 p))) (by kernel_rfl) (⟨(vv.cell (zF c2)).trans c2,(zm (za kE vv)).2⟩) (fun hHeld => ?_);refine kK 0 q88 ?_;refine kK 1 q89 ?_;refine kK 2 q90 ?_;refine kK 3 q91 ?_;refine kK 4 q92 ?_;refine kK 5 q93 ?_;refine kK 6 q94 ?_;refine kK 7 q95 ?_;refine kK 8 q96 ?_;refine kR 9 q97 (fun K hK => ?_);go_simp;refine (zgo x.a x.n x.c p _ hpl).mono ?_;rintro r wz ⟨rfl,ew⟩;obtain rfl:=ew.symm;rw [hB];(go_wp2_with fail);refine hK.out _ _ (⟨(vv.cell (zF c2)).trans c2,(zm (za kE vv)).2⟩) (fun hHeld => ?_);clear hK K;(try simp only [Act.put,lA,lB,lC]);refine kK 10 q98 ?_;refine kK 11 q99 ?_;refine wpAnyH_done (by kernel_rfl) ?_ _;have HB:=hide (zc b03 vv);clear hHeld vv c2 kE;go_wp2;go_ret;exact ⟨none,rfl,by rw [HF.out]; rfl,HB.out⟩
  ·obtain ⟨j,rfl⟩:∃j:Nat,p=(j:Int):=⟨p.toNat,by simp at hB; omega⟩;have hj:j < x.n:=by simp at hB; omega
   obtain ⟨y,pb,po,hy,hpa,d0⟩:=pt_at hr.ports j hj;have HF:=hide (zhO HX.out hy);have i3:(0:Int)≤(j:Int):=by omega
   have i4:(j:Int) < (x.n:Int):=by omega
   have HD:=hide d0;rw [hpa] at c2;clear hpa d0;refine wp_region_held_drew (S:=(fun W=>W.cell? ⟨bb,off+k*11+2,none⟩=some (.slice (some ⟨pb,po,none⟩) x.n x.c)∧W.cell? ⟨R,1,none⟩=some (.int .i64 (j:Int)))) (by kernel_rfl) (⟨(vv.cell (zF c2)).trans c2,(zm (za kE vv)).2⟩) (fun hHeld => ?_);refine kK 0 q88 ?_;refine kK 1 q89 ?_;refine kK 2 q90 ?_;refine kK 3 q91 ?_;refine kK 4 q92 ?_;refine kK 5 q93 ?_;refine kK 6 q94 ?_;refine kK 7 q95 ?_;refine kK 8 q96 ?_;refine kR 9 q97 (fun K hK => ?_);go_simp;refine (zgo (some ⟨pb,po,none⟩) x.n x.c (j:Int) _ hpl).mono ?_;rintro r wz ⟨rfl,ew⟩;obtain rfl:=ew.symm;rw [hB];(go_wp2_with fail);refine hK.out _ _ (⟨(vv.cell (zF c2)).trans c2,(zm (za kE vv)).2⟩) (fun hHeld => ?_);clear hK K;(try simp only [Act.put,lA,lB,lC]);refine kK 10 q98 ?_;refine kK 11 q99 ?_;refine wpAnyH_done (by kernel_rfl) ?_ _;have HB:=hide (zc b03 (zp vv));have c2:=(vv.cell (zF c2)).trans c2;have e1:=(zm (za kE vv)).2;clear hHeld vv kE hB;(go_wp2_with fail)
   go_region
   go_wp2;go_ret;exact ⟨_,rfl,by rw [HF.out]; exact ⟨_,_,rfl,HD.out⟩,HB.out⟩

theorem zcF (N:NV) (b p:Int) (w:World) (h:zae w N) :
  Calls Tryz.prog 119 #[.agg #[.slice N.ba N.bn N.bc,.slice N.la N.ln N.lc,.slice N.sa N.sn N.sc],.agg #[.int .i64 b,.int .i64 p]] w fun e w'=>∃v,e=.returned (.pointer v)∧PtAt w v (zaG N.brs b p)∧Below w.heap.size w w':=by
 refine (zjb N b p w h).mono ?_;rintro e w1 ⟨v,rfl,hv,hb⟩;exact ⟨v,rfl,hv.upAt,hb⟩

def endsL (ls:List LK):List (Int × Int):=ls.flatMap fun x=>[(x.a,x.p),(x.b,x.q)]
def usedL (ls:List LK) (b p:Int):Nat:=(endsL ls).count (b,p)

def zkE (bs:List BR):Prop:=∀(i j:Nat) (x y:BR),i < j→bs[i]?=some x→bs[j]?=some y→x.id≠y.id
def zaQ (bs:List BR):Prop:=(∀x∈bs,zG x=true)∧zkE bs∧1≤bs.length∧bs.length≤6
def zd0 (ls:List LK) (i:Nat) (B:BR):Prop:=∀(p:Nat) (x:PT),B.ports[p]?=some x→x.has=true→usedL ls (i:Int) (p:Int)≠0
def Quiet (bs:List BR) (ls:List LK):Prop:=∀(i:Nat) (B:BR),bs[i]?=some B→zd0 ls i B
def zbt (bs:List BR) (x:LK):Prop:=x.a≠x.b∧∃u v,zaG bs x.a x.p=some u∧zaG bs x.b x.q=some v∧u.up=v.up
def zh8 (bs:List BR) (ls:List LK) (x:LK):Prop:=zbt bs x∧usedL ls x.a x.p=1∧usedL ls x.b x.q=1
def zbe (bs:List BR) (ls:List LK):Prop:=ls.length≤9∧∀x∈ls,zh8 bs ls x
def SayOk (ls:List LK) (s:SY):Prop:=(decide (0≤s.l) && decide (s.l≤(ls.length:Int) - 1))=true∧okVd s.v=true
def zeU (ls:List LK) (ss:List SY):Prop:=ss.length≤40∧∀s∈ss,SayOk ls s
def NetOk (bs:List BR) (ls:List LK) (ss:List SY):Prop:=zaQ bs∧zbe bs ls∧Quiet bs ls∧zeU ls ss

theorem zfu (l l':List LK):endsL (l++l')=endsL l++endsL l':=by simp [endsL]
theorem zd8 (x:LK) (l:List LK):endsL (x::l)=(x.a,x.p)::(x.b,x.q)::endsL l:=by simp [endsL]
theorem zii {ls:List LK} {x:LK} (h:x∈ls):(x.a,x.p)∈endsL ls∧(x.b,x.q)∈endsL ls :=
 ⟨List.mem_flatMap.2 ⟨x,h,by simp⟩,List.mem_flatMap.2 ⟨x,h,by simp⟩⟩
theorem zhe (ls:List LK):(endsL ls).length=2*ls.length:=by
 induction ls with
 | nil=>rfl
 | cons x l ih=>rw [zd8]; simp only [List.length_cons,ih]; omega

def hit (b p a q:Int):Nat:=if a=b∧q=p then 1 else 0

theorem zbs {ls:List LK} {k:Nat} {x:LK} (h:ls[k]?=some x) (b p:Int):usedL (ls.take (k+1)) b p=usedL (ls.take k) b p+hit b p x.a x.p+hit b p x.b x.q:=by
 have e:ls.take (k+1)=ls.take k++[x]:=by rw [List.take_add_one,h]; rfl
 unfold usedL hit;rw [e,zfu,List.count_append,zd8];simp only [List.count_cons,endsL,List.flatMap_nil,List.count_nil,beq_iff_eq,Prod.mk.injEq];omega

theorem zkv (ls:List LK) (b p:Int):usedL ls b p≤2*ls.length:=by
 unfold usedL;rw [← zhe];exact List.count_le_length

theorem zjy (ls:List LK):(endsL ls).Nodup↔∀x∈ls,usedL ls x.a x.p=1∧usedL ls x.b x.q=1:=by
 constructor
 ·intro h x hx;obtain ⟨h1,h2⟩:=zii hx;have e:=List.nodup_iff_count.1 h;have p1:=List.count_pos_iff.2 h1;have p2:=List.count_pos_iff.2 h2;have e1:=e (x.a,x.p);have e2:=e (x.b,x.q);unfold usedL;exact ⟨by omega,by omega⟩
 ·intro h;refine List.nodup_iff_count.2 fun e => ?_
  by_cases he:e∈endsL ls
  ·obtain ⟨x,hx,hm⟩:=List.mem_flatMap.1 he
   simp at hm
   have h1:=h x hx;unfold usedL at h1;rcases hm with rfl | rfl
   ·omega
   ·omega
  ·rw [List.count_eq_zero_of_not_mem he]; omega

theorem zcu (bs:List BR) (ls:List LK):zbe bs ls↔ls.length≤9∧(∀x∈ls,zbt bs x)∧(endsL ls).Nodup:=by
 rw [zjy];unfold zbe zh8
 constructor
 ·rintro ⟨h1,h2⟩;exact ⟨h1,fun x hx=>(h2 x hx).1,fun x hx=>(h2 x hx).2⟩
 ·rintro ⟨h1,h2,h3⟩;exact ⟨h1,fun x hx=>⟨h2 x hx,h3 x hx⟩⟩

theorem zg9 (ls:List LK) (b p:Int):zbA ls b p=none↔usedL ls b p=0:=by
 unfold zbA usedL;rw [List.findSome?_eq_none_iff,List.count_eq_zero]
 constructor
 ·intro h hm;obtain ⟨x,hx,he⟩:=List.mem_flatMap.1 hm
  have:=h x hx
  unfold za1 at this;simp only [List.mem_cons,Prod.mk.injEq,List.not_mem_nil,or_false] at he;rcases he with ⟨h1,h2⟩ | ⟨h1,h2⟩
  ·rw [if_pos ⟨h1.symm,h2.symm⟩] at this; cases this
  ·split at this
   ·cases this
   ·rw [if_pos ⟨h1.symm,h2.symm⟩] at this; cases this
 ·intro h x hx;obtain ⟨m1,m2⟩:=zii hx;unfold za1;rw [if_neg,if_neg]
  ·rintro ⟨h1,h2⟩; exact h (by rw [← h1,← h2]; exact m2)
  ·rintro ⟨h1,h2⟩; exact h (by rw [← h1,← h2]; exact m1)

theorem zbI {α:Type} {l:List α} {k:Nat} {x:α} {P:α→Prop} (h:l[k]?=some x) (hp:∀y∈l.take k,P y) (hx:P x):∀y∈l.take (k+1),P y:=by
 rw [List.take_add_one,h];intro y hy;rcases List.mem_append.1 hy with hy | hy
 ·exact hp y hy
 ·have:=List.mem_singleton.1 (by simpa using hy)
  rw [this]; exact hx

theorem zdO (N:NV) (b p:Int) (w:World) (h:zae w N) (hsm:N.ln≤16777216) :
  Calls Tryz.prog 96 #[.agg #[.slice N.ba N.bn N.bc,.slice N.la N.ln N.lc,.slice N.sa N.sn N.sc],.int .i64 b,.int .i64 p] w fun e w'=>e=.returned (.int .i64 (usedL N.ls b p))∧Below w.heap.size w w':=by
 have hsz:=hide h.l.size;go_enter Tryz.func96,Tryz.ntmps96;go_wp2_with fail
 generalize hw1:w.alloc (Obj.cells #[.slice N.ba N.bn N.bc,.slice N.la N.ln N.lc,.slice N.sa N.sn N.sc] 34)=w1;have b01:=zb hw1;have k1:=zk hw1;clear hw1
 go_loopw [7,8] (fun m i wr=>∃k:Nat,k≤N.ln∧i=.int .i64 k∧m=.int .i64 (usedL (N.ls.take k) b p:Nat)∧wr.heap[w.heap.size]?=some (.cells #[.slice N.ba N.bn N.bc,.slice N.la N.ln N.lc,.slice N.sa N.sn N.sc] 34)∧Below w.heap.size w wr) (fun _ i _=>N.ln - (intOf i).toNat)
 case atStart=>exact ⟨0,Nat.zero_le _,rfl,by simp [usedL,endsL],k1,b01⟩
 case round =>
  obtain ⟨k,hk,rfl,rfl,hbox,hb⟩:=hrel;clear k1 b01;obtain ⟨x0,x1,x2⟩:=zd hbox;by_cases hlt:k < N.ln
  ·obtain ⟨x,lb,off,hx,hla,a0,a1,a2,a3⟩:=zaw (h.l.below hb) k hlt;rw [hla] at x1;clear hla;have i1:(0:Int)≤(k:Int):=by omega
   have i2:(k:Int) < (N.ln:Int):=by omega
   have hul:usedL (N.ls.take k) b p≤33554432:=by have:=zkv (N.ls.take k) b p; rw [List.length_take] at this; omega
   have HX:=hide hx;have KB:Hid (∀o:Obj,(wr.alloc o).heap[w.heap.size]?=some (.cells #[.slice N.ba N.bn N.bc,.slice N.la N.ln N.lc,.slice N.sa N.sn N.sc] 34)∧Below w.heap.size w (wr.alloc o)):=hide (fun o=>⟨za hbox (zl _ _),zc hb (zl _ _)⟩);clear hx hb hbox;by_cases st:x.a=b∧x.p=p
   ·obtain ⟨s,t⟩:=id st;by_cases uv:x.b=b∧x.q=p
    ·obtain ⟨u,v⟩:=id uv;have HM:Hid (usedL (N.ls.take (k+1)) b p=usedL (N.ls.take k) b p+2):=hide (by rw [zbs HX.out]; unfold hit; rw [if_pos st,if_pos uv]);generalize hU:usedL (N.ls.take k) b p=U at *;go_wp2
     go_roundw
     case rel=>exact ⟨k+1,by omega,by go_num,by rw [HM.out]; go_num,KB.out _⟩
     case measure=>simp [intOf]; omega
    ·by_cases u:x.b=b
     ·have v:¬x.q=p:=fun q=>uv ⟨u,q⟩
      have HM:Hid (usedL (N.ls.take (k+1)) b p=usedL (N.ls.take k) b p+1):=hide (by rw [zbs HX.out]; unfold hit; rw [if_pos st,if_neg uv]);generalize hU:usedL (N.ls.take k) b p=U at *;go_wp2
      go_roundw
      case rel=>exact ⟨k+1,by omega,by go_num,by rw [HM.out]; go_num,KB.out _⟩
      case measure=>simp [intOf]; omega
     ·have HM:Hid (usedL (N.ls.take (k+1)) b p=usedL (N.ls.take k) b p+1):=hide (by rw [zbs HX.out]; unfold hit; rw [if_pos st,if_neg uv]);generalize hU:usedL (N.ls.take k) b p=U at *;go_wp2
      go_roundw
      case rel=>exact ⟨k+1,by omega,by go_num,by rw [HM.out]; go_num,KB.out _⟩
      case measure=>simp [intOf]; omega
   ·by_cases s:x.a=b
    ·have t:¬x.p=p:=fun q=>st ⟨s,q⟩
     by_cases uv:x.b=b∧x.q=p
     ·obtain ⟨u,v⟩:=id uv;have HM:Hid (usedL (N.ls.take (k+1)) b p=usedL (N.ls.take k) b p+1):=hide (by rw [zbs HX.out]; unfold hit; rw [if_neg st,if_pos uv]);generalize hU:usedL (N.ls.take k) b p=U at *;go_wp2
      go_roundw
      case rel=>exact ⟨k+1,by omega,by go_num,by rw [HM.out]; go_num,KB.out _⟩
      case measure=>simp [intOf]; omega
     ·by_cases u:x.b=b
      ·have v:¬x.q=p:=fun q=>uv ⟨u,q⟩
       have HM:Hid (usedL (N.ls.take (k+1)) b p=usedL (N.ls.take k) b p+0):=hide (by rw [zbs HX.out]; unfold hit; rw [if_neg st,if_neg uv]);generalize hU:usedL (N.ls.take k) b p=U at *;go_wp2
       go_roundw
       case rel=>exact ⟨k+1,by omega,by go_num,by rw [HM.out]; go_num,KB.out _⟩
       case measure=>simp [intOf]; omega
      ·have HM:Hid (usedL (N.ls.take (k+1)) b p=usedL (N.ls.take k) b p+0):=hide (by rw [zbs HX.out]; unfold hit; rw [if_neg st,if_neg uv]);generalize hU:usedL (N.ls.take k) b p=U at *;go_wp2
       go_roundw
       case rel=>exact ⟨k+1,by omega,by go_num,by rw [HM.out]; go_num,KB.out _⟩
       case measure=>simp [intOf]; omega
    ·by_cases uv:x.b=b∧x.q=p
     ·obtain ⟨u,v⟩:=id uv;have HM:Hid (usedL (N.ls.take (k+1)) b p=usedL (N.ls.take k) b p+1):=hide (by rw [zbs HX.out]; unfold hit; rw [if_neg st,if_pos uv]);generalize hU:usedL (N.ls.take k) b p=U at *;go_wp2
      go_roundw
      case rel=>exact ⟨k+1,by omega,by go_num,by rw [HM.out]; go_num,KB.out _⟩
      case measure=>simp [intOf]; omega
     ·by_cases u:x.b=b
      ·have v:¬x.q=p:=fun q=>uv ⟨u,q⟩
       have HM:Hid (usedL (N.ls.take (k+1)) b p=usedL (N.ls.take k) b p+0):=hide (by rw [zbs HX.out]; unfold hit; rw [if_neg st,if_neg uv]);generalize hU:usedL (N.ls.take k) b p=U at *;go_wp2
       go_roundw
       case rel=>exact ⟨k+1,by omega,by go_num,by rw [HM.out]; go_num,KB.out _⟩
       case measure=>simp [intOf]; omega
      ·have HM:Hid (usedL (N.ls.take (k+1)) b p=usedL (N.ls.take k) b p+0):=hide (by rw [zbs HX.out]; unfold hit; rw [if_neg st,if_neg uv]);generalize hU:usedL (N.ls.take k) b p=U at *;go_wp2
       go_roundw
       case rel=>exact ⟨k+1,by omega,by go_num,by rw [HM.out]; go_num,KB.out _⟩
       case measure=>simp [intOf]; omega
  ·have hkn:k=N.ln:=by omega
   rw [List.take_of_length_le (by have:=hsz.out; omega)];subst hkn;go_wp2;go_ret;exact ⟨rfl,hb⟩

def endOk (bs:List BR) (ls:List LK) (b p:Int):Bool:=(zaG bs b p).isSome && decide (usedL ls b p=1)

theorem zbW (N:NV) (b p:Int) (w:World) (h:zae w N) (hsm:N.ln≤16777216) :
  Calls Tryz.prog 49 #[.agg #[.slice N.ba N.bn N.bc,.slice N.la N.ln N.lc,.slice N.sa N.sn N.sc],.int .i64 b,.int .i64 p] w fun e w'=>e=.returned (.bool (endOk N.brs N.ls b p))∧Below w.heap.size w w':=by
 have hle:=Nat.le_trans h.b.le h.b.top;unfold maxLen at hle;have hsz:=h.b.size;generalize hG:endOk N.brs N.ls b p=U;have HG:=hide hG;clear hG;generalize hw1:w.alloc (Obj.cells #[.slice N.ba N.bn N.bc,.slice N.la N.ln N.lc,.slice N.sa N.sn N.sc] 34)=w1;have b01:=zb hw1;have k1:=zk hw1;obtain ⟨x0,x1,x2⟩:=zd k1;cases hA:(decide (0≤b) && decide (b≤(N.bn:Int) - 1))
 ·have HF:Hid (U=false):=hide (by rw [← HG.out]; unfold endOk; rw [zhP (by rw [zdw,hsz]; exact hA)]; rfl);go_enter Tryz.func49,Tryz.ntmps49;(go_wp2_with fail);refine (zh b 0 ((N.bn:Int) - 1) _).mono ?_;rintro e w2 ⟨rfl,ew⟩;obtain rfl:=ew.symm;rw [hA];clear hA;go_wp2;go_ret;exact ⟨by rw [HF.out]; rfl,b01⟩
 ·obtain ⟨k,rfl⟩:∃k:Nat,b=(k:Int):=⟨b.toNat,by simp at hA; omega⟩;have hk:k < N.bn:=by simp at hA; omega
  obtain ⟨x,bb,off,hx,hba,c0,c1,c2,c3,c4,c5,c6,c7,c8,c9,c10⟩:=br_at (h.b.below b01) k hk;have hr:=(h.item x (List.mem_of_getElem? hx)).below b01;have hpl:=Nat.le_trans hr.ports.le hr.ports.top;unfold maxLen at hpl;have i1:(0:Int)≤(k:Int):=by omega
  have i2:(k:Int) < (N.bn:Int):=by omega
  have HX:=hide (zf7 hx);have K1:=hide k1;clear hx;rw [hba] at x0;cases hB:(decide (0≤p) && decide (p≤(x.n:Int) - 1))
  ·have HF:Hid (U=false):=hide (by rw [← HG.out]; unfold endOk; rw [zfU HX.out (by rw [hr.ports.size]; exact hB)]; rfl);clear hba;go_enter Tryz.func49,Tryz.ntmps49;(go_wp2_with fail);refine (zh (k:Int) 0 ((N.bn:Int) - 1) _).mono ?_;rintro e w2 ⟨rfl,ew⟩;obtain rfl:=ew.symm;rw [hA];clear hA;(go_wp2_with fail);refine (zh p 0 ((x.n:Int) - 1) _).mono ?_;rintro e w2 ⟨rfl,ew⟩;obtain rfl:=ew.symm;rw [hB];clear hB;go_wp2;go_ret;exact ⟨by rw [HF.out]; rfl,b01⟩
  ·obtain ⟨j,rfl⟩:∃j:Nat,p=(j:Int):=⟨p.toNat,by simp at hB; omega⟩;have hj:j < x.n:=by simp at hB; omega
   obtain ⟨y,pb,po,hy,-,-⟩:=pt_at hr.ports j hj;have HF:Hid (U=decide (usedL N.ls (k:Int) (j:Int)=1)):=hide (by rw [← HG.out]; unfold endOk; rw [zhO HX.out hy]; rfl);have i3:(0:Int)≤(j:Int):=by omega
   have i4:(j:Int) < (x.n:Int):=by omega
   clear hba hy;go_enter Tryz.func49,Tryz.ntmps49;(go_wp2_with fail);refine (zh (k:Int) 0 ((N.bn:Int) - 1) _).mono ?_;rintro e w2 ⟨rfl,ew⟩;obtain rfl:=ew.symm;rw [hA];clear hA;(go_wp2_with fail);refine (zh (j:Int) 0 ((x.n:Int) - 1) _).mono ?_;rintro e w2 ⟨rfl,ew⟩;obtain rfl:=ew.symm;rw [hB];clear hB;clear x0;obtain ⟨x0,-,-⟩:=zd K1.out;(go_wp2_with fail);refine (zdO N (k:Int) (j:Int) _ (h.below b01) hsm).mono ?_;rintro e w5 ⟨rfl,hb5⟩;have HB:=hide (zc b01 hb5);clear hb5 x0 x1 x2 c0 c1 c2 c3 c4 c5 c6 c7 c8 c9 c10;generalize hV:usedL N.ls (k:Int) (j:Int)=V at *;have HV:Hid (decide ((V:Int)=1)=decide (V=1)):=hide (by by_cases e:V=1 <;> simp [e]; omega);go_wp2;go_ret;exact ⟨by rw [HF.out]; exact zK (by by_cases e:V=1 <;> simp [e] <;> omega),HB.out⟩

theorem PtAt.later {w w':World} {v:Option Addr} {o:Option PT} (h:PtAt w v o) (hb:Below w.heap.size w w'):PtAt w' v o:=by
 cases o with
 | none=>exact h
 | some y =>
  obtain ⟨g,j,e,c⟩:=h;exact ⟨g,j,e,(hb.cell (zF c)).trans c⟩

theorem za7 (N:NV) (k:Int) (w:World) (h:zae w N) :
  Calls Tryz.prog 123 #[.agg #[.slice N.ba N.bn N.bc,.slice N.la N.ln N.lc,.slice N.sa N.sn N.sc],.int .i64 k] w fun e w'=>e=.returned (.bool (zak N.brs N.ls k))∧Below w.heap.size w w':=by
 have hle:=Nat.le_trans h.l.le h.l.top;unfold maxLen at hle;have hsz:=h.l.size;generalize hG:zak N.brs N.ls k=U;have HG:=hide hG;clear hG;generalize hw1:w.alloc (Obj.cells #[.slice N.ba N.bn N.bc,.slice N.la N.ln N.lc,.slice N.sa N.sn N.sc] 34)=w1;have b01:=zb hw1;have k1:=zk hw1;obtain ⟨x0,x1,x2⟩:=zd k1;cases hA:(decide (0≤k) && decide (k≤(N.ln:Int) - 1))
 ·have HF:Hid (U=false):=hide (by
   rw [← HG.out];unfold zak
   split
   ·rw [List.getElem?_eq_none (by simp at hA; omega)]
   ·rfl)
  go_enter Tryz.func123,Tryz.ntmps123;(go_wp2_with fail);refine (zE k 0 ((N.ln:Int) - 1) _).mono ?_;rintro e w2 ⟨rfl,ew⟩;obtain rfl:=ew.symm;rw [hA];clear hA;go_wp2;go_ret;exact ⟨by rw [HF.out]; rfl,b01⟩
 ·obtain ⟨j,rfl⟩:∃j:Nat,k=(j:Int):=⟨k.toNat,by simp at hA; omega⟩;have hj:j < N.ln:=by simp at hA; omega
  obtain ⟨x,lb,off,hx,hla,a0,a1,a2,a3⟩:=zaw (h.l.below b01) j hj;have HG:Hid ((upAt N.brs x.a x.p && upAt N.brs x.b x.q)=U):=hide (by rw [← HG.out]; unfold zak; rw [if_pos (by omega),Int.toNat_natCast,hx]);have i1:(0:Int)≤(j:Int):=by omega
  have i2:(j:Int) < (N.ln:Int):=by omega
  rw [hla] at x1;clear hx hla;go_enter Tryz.func123,Tryz.ntmps123;(go_wp2_with fail);refine (zE (j:Int) 0 ((N.ln:Int) - 1) _).mono ?_;rintro e w2 ⟨rfl,ew⟩;obtain rfl:=ew.symm;rw [hA];clear hA;(go_wp2_with fail);refine (zb8 x _).mono ?_;rintro e we ⟨rfl,hbe⟩;have kNe:=za k1 hbe;have b0e:=zc b01 hbe;clear x0 x1 x2 a0 a1 a2 a3 k1 hbe;generalize hwq:we.alloc (Obj.cells #[.int .i64 x.a,.int .i64 x.p,.int .i64 x.b,.int .i64 x.q] 165)=wq;have bq:=zb hwq;have kE:=zk hwq;have kNe:=za kNe bq;have bq:=zc b0e bq;clear b0e;have vv:Below wq.heap.size wq wq.drew:=zp (Below.refl _ _);(go_wp2_with fail);refine wp_region_held_drew (S:=(fun W=>(W.cell? ⟨w.heap.size,0,none⟩=some (.slice N.ba N.bn N.bc)∧W.cell? ⟨w.heap.size,1,none⟩=some (.slice N.la N.ln N.lc)∧W.cell? ⟨w.heap.size,2,none⟩=some (.slice N.sa N.sn N.sc))∧(W.cell? ⟨we.heap.size,0,none⟩=some (.int .i64 x.a)∧W.cell? ⟨we.heap.size,1,none⟩=some (.int .i64 x.p)∧W.cell? ⟨we.heap.size,2,none⟩=some (.int .i64 x.b)∧W.cell? ⟨we.heap.size,3,none⟩=some (.int .i64 x.q)))) (by kernel_rfl) (⟨zd (za kNe vv),zM (za kE vv)⟩) (fun hHeld => ?_);refine kK 0 ⟨some 21,.load 34 (.tmp 2),34,"l13_net.go:74",#[],none⟩ ?_;refine kK 1 ⟨some 22,.indexAddr 165 (.tmp 5) (.const (.int .i64 0)),0,"l13_net.go:74",#[],none⟩ ?_;refine kK 2 ⟨some 23,.load 164 (.tmp 22),164,"l13_net.go:74",#[⟨1,.data⟩],none⟩ ?_;refine kK 4 ⟨some 25,.load 34 (.tmp 2),34,"l13_net.go:74",#[],none⟩ ?_;refine kK 5 ⟨some 26,.indexAddr 165 (.tmp 5) (.const (.int .i64 1)),0,"l13_net.go:74",#[],none⟩ ?_;refine kK 6 ⟨some 27,.load 164 (.tmp 26),164,"l13_net.go:74",#[⟨5,.data⟩],none⟩ ?_;refine kR 3 ⟨some 24,.call ⟨.value (.func 119),#[.tmp 21,.tmp 23],#[34,164]⟩,167,"l13_net.go:74",#[⟨0,.data⟩,⟨2,.data⟩],none⟩ (fun K hK => ?_);go_simp;refine (zcF N x.a x.p _ (h.below (zc bq vv))).mono ?_;rintro r wz ⟨v1,rfl,v1P,hbz⟩;have v1P:=PtAt.later v1P hbz;(try have v2P:=PtAt.later v2P hbz);have vv:=zc vv hbz;(go_wp2_with fail);refine hK.out _ _ (⟨zd (za kNe vv),zM (za kE vv)⟩) (fun hHeld => ?_);clear hK K;(try simp only [Act.put,lA,lB,lC]);refine kR 7 ⟨some 28,.call ⟨.value (.func 119),#[.tmp 25,.tmp 27],#[34,164]⟩,167,"l13_net.go:74",#[⟨4,.data⟩,⟨6,.data⟩,⟨3,.chain⟩],none⟩ (fun K hK => ?_);go_simp;refine (zcF N x.b x.q _ (h.below (zc bq vv))).mono ?_;rintro r wz ⟨v2,rfl,v2P,hbz⟩;have v2P:=PtAt.later v2P hbz;(try have v1P:=PtAt.later v1P hbz);have vv:=zc vv hbz;(go_wp2_with fail);refine hK.out _ _ (⟨zd (za kNe vv),zM (za kE vv)⟩) (fun hHeld => ?_);clear hK K;(try simp only [Act.put,lA,lB,lC]);refine kK 8 ⟨some 6,.assign (.tmp 24),167,"l13_net.go:74",#[⟨3,.data⟩,⟨7,.chain⟩,⟨0,.phase⟩,⟨1,.phase⟩,⟨2,.phase⟩,⟨3,.phase⟩,{ on:=4,ground:=Ground.textOnly Departure.lateStores },{ on:=5,ground:=Ground.textOnly Departure.lateStores },{ on:=6,ground:=Ground.textOnly Departure.lateStores },{ on:=7,ground:=Ground.textOnly Departure.lateStoresUnsure }],none⟩ ?_;refine kK 9 ⟨some 7,.assign (.tmp 28),167,"l13_net.go:74",#[⟨7,.data⟩,⟨8,.chain⟩,⟨0,.phase⟩,⟨1,.phase⟩,⟨2,.phase⟩,⟨3,.phase⟩,⟨4,.phase⟩,⟨5,.phase⟩,⟨6,.phase⟩,⟨7,.phase⟩,⟨8,.phase⟩],none⟩ ?_;refine wpAnyH_done (by kernel_rfl) ?_ _;have HB:=hide (zc bq vv);have bz:=zc bq vv;clear hHeld kNe kE vv;cases hP:zaG N.brs x.a x.p with
  | none =>
   rw [hP] at v1P;have e1:v1=none:=v1P;subst e1;have HF:Hid (U=false):=hide (by rw [← HG.out]; unfold upAt; rw [hP]; rfl);clear bz v2P v1P;go_wp2;go_ret;exact ⟨by rw [HF.out]; rfl,HB.out⟩
  | some y1 =>
   rw [hP] at v1P;obtain ⟨p1,o1,rfl,q1⟩:=v1P;cases hQ:zaG N.brs x.b x.q with
   | none =>
    rw [hQ] at v2P;have e2:v2=none:=v2P;subst e2;have HF:Hid (U=false):=hide (by rw [← HG.out]; unfold upAt; rw [hQ]; simp);clear bz v2P q1;go_wp2;go_ret;exact ⟨by rw [HF.out]; rfl,HB.out⟩
   | some y2 =>
    rw [hQ] at v2P;obtain ⟨p2,o2,rfl,q2⟩:=v2P;have HF:Hid (U=(y1.up && y2.up)):=hide (by rw [← HG.out]; unfold upAt; rw [hP,hQ]);clear bz hP hQ;cases h1:y1.up
    ·rw [h1] at q1;have HF:Hid (U=false):=hide (by rw [HF.out,h1]; rfl);go_wp2;go_ret;exact ⟨by rw [HF.out]; rfl,HB.out⟩
    ·rw [h1] at q1;have HF:Hid (U=y2.up):=hide (by rw [HF.out,h1]; rfl);go_wp2;go_ret;exact ⟨by rw [HF.out]; rfl,HB.out⟩

end Go.Proofs.YtpaneiaflfegoaaGreat
