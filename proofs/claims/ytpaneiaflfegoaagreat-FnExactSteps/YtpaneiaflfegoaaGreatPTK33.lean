/-
  Packed: StepFit StepFitS EvFlat StepsIs.
-/
import Derived.Test.YtpaneiaflfegoaaGreatPTKW
import Derived.Test.YtpaneiaflfegoaaGreatPTK01
import Derived.Test.YtpaneiaflfegoaaGreatPTK02
import Derived.Test.YtpaneiaflfegoaaGreatPTK07
import Derived.Test.YtpaneiaflfegoaaGreatPTK26
import Derived.Test.YtpaneiaflfegoaaGreatPTK27
import Derived.Test.YtpaneiaflfegoaaGreatPTK31
import Derived.Test.YtpaneiaflfegoaaGreatPTK32
import Derived.WalkKit
import Derived.ProofKit
import Derived.OpenShut
import Derived.ShutString
import Derived.ChangeOld
import Derived.Below
import Derived.Lib.SmallJoins
namespace Go.Proofs.YtpaneiaflfegoaaGreat
set_option maxRecDepth 100000
set_option maxHeartbeats 16000000
open Go.RowKit

def NV.t (N:NV):List BR × List LK × List SY:=(N.brs,N.ls,N.ss)

theorem zex {N M:NV} (h:M.Same N):M.t=N.t:=by
 have e:M.brs=N.brs:=h.b;unfold NV.t;rw [e,h.l,h.s]
theorem ziH {N M:NV} (h:M.t=N.t):M.Same N:=by
 unfold NV.t at h;simp only [Prod.mk.injEq] at h;exact ⟨h.1,h.2.1,h.2.2⟩

def FitT (a:List BR × List LK × List SY):Prop:=(∀B∈a.1,zG B=true)∧a.1.length≤6∧a.2.1.length≤9∧a.2.2.length≤40

theorem zj8 {w:World} {x:BV} (h:x.Reads w) (hb:zG x.B=true):x.Tiny:=by
 obtain ⟨h1,h2,h3,h4,h5,h6,-⟩:=zaE hb;have q1:=h.ports.size;have q2:=h.f.size;have q3:=h.v.rows.size;have q4:=h.v.own.size;have p4:(x.B.ports.length:Int)≤6:=by unfold in3 at h4; simp at h4; omega
 have p5:x.B.f.length≤12:=((zb9 _).1 h5).2;have p6:x.B.v.rows.length≤6∧x.B.v.own.length≤6:=by
  unfold zar at h6;simp only [Bool.and_eq_true,decide_eq_true_eq,beq_iff_eq] at h6;exact ⟨h6.1.1.1.2,by have:=h6.1.1.1.1.2; omega⟩
 exact ⟨by omega,by omega,by omega,by omega⟩

theorem zlD {w w0:World} {N M:NV} (h:zae w M) (h0:zae w0 N) (hf:M.t=N.t∨FitT M.t) (hs:sizeN N≤1048576):M.Fits:=by
 rcases hf with e | ⟨f1,f2,f3,f4⟩
 ·have e':=ziH e;refine ziv h ?_;have q1:=h.b.size;have q2:=h.l.size;have q3:=h.s.size;have r1:=h0.b.size;have r2:=h0.l.size;have r3:=h0.s.size;have e1:=congrArg List.length e'.b;rw [List.length_map,List.length_map] at e1;have e2:zaj M.bs=zaj N.bs:=by
   unfold zaj
   have:=congrArg (List.map sizeB) e'.b
   rw [List.map_map,List.map_map] at this;exact congrArg List.sum this
  rw [e'.l] at q2;rw [e'.s] at q3;unfold sizeN at hs ⊢;omega
 ·have ht:∀x∈M.bs,x.Tiny:=fun x hx=>zj8 (h.item x hx) (f1 x.B (List.mem_map_of_mem hx))
  have hk:=(zkR M.bs ht 1).2;have q2:=h.l.size;have q3:=h.s.size;have f2':M.bs.length≤6:=by have:(M.bs.map BV.B).length≤6:=f2; simpa using this
  have f3':M.ls.length≤9:=f3;have f4':M.ss.length≤40:=f4;exact ⟨by omega,by omega,by omega⟩

structure NV.Sized (N:NV):Prop where
 n:N.bn≤1048576
 l:N.ln≤1048576
 s:N.sn≤1048576
 m:∀x∈N.bs,x.Small20

theorem ziG {w w0:World} {N M:NV} (h:zae w M) (h0:zae w0 N) (hf:M.t=N.t∨FitT M.t) (hs:N.Sized):M.Sized:=by
 have q1:=h.b.size;have q2:=h.l.size;have q3:=h.s.size;rcases hf with e | ⟨f1,f2,f3,f4⟩
 ·have e':=ziH e;have r1:=h0.b.size;have r2:=h0.l.size;have r3:=h0.s.size;have e1:=congrArg List.length e'.b;rw [List.length_map,List.length_map] at e1;rw [e'.l] at q2;rw [e'.s] at q3;have z1:=hs.n;have z2:=hs.l;have z3:=hs.s;refine ⟨by omega,by omega,by omega,zhT h ?_⟩;rw [show M.brs=N.brs from e'.b];exact zlU h0 hs.m
 ·have f2':M.bs.length≤6:=by have:(M.bs.map BV.B).length≤6:=f2; simpa using this
  have f3':M.ls.length≤9:=f3;have f4':M.ss.length≤40:=f4;refine ⟨by omega,by omega,by omega,fun x hx => ?_⟩;obtain ⟨t1,t2,t3,t4⟩:=zj8 (h.item x hx) (f1 x.B (List.mem_map_of_mem hx));exact ⟨by omega,by omega,by omega,by omega⟩

theorem zcY {w:World} {N:NV} (h:zae w N) (hs:sizeN N≤1048576):N.Sized:=by
 obtain ⟨z1,z2,z3,z4⟩:=zeu h hs;exact ⟨z1,z2,z3,z4⟩

theorem zjc {N:NV} (h:∀x∈N.bs,x.B.Rng):∀B∈N.brs,B.Rg:=by
 intro B hB;obtain ⟨y,hy,rfl⟩:=List.mem_map.1 hB;exact ⟨(h y hy).f,(h y hy).v⟩

theorem zlf {P:BR→Prop} {bs:List BR} {ls:List LK} {kd:Int} {s:SY} (h:∀B∈bs,P B) (hf:∀B p v,P B→P (hearB B p v)):∀B∈za9 bs ls kd s,P B:=by
 unfold za9
 split
 ·unfold zee
  split
  ·split
   ·exact zcp h (fun B=>hf B _ _)
   ·exact zcp h (fun B=>hf B _ _)
  ·exact h
 ·exact h
theorem zlk {P:BR→Prop} {bs:List BR} {ls:List LK} {ss:List SY} {kd i:Int} (h:∀B∈bs,P B) (h1:∀B p v,P B→P (hearB B p v)) (h2:∀B p u,P B→P (linkB B p u)) (h3:∀B,P B→P (tickB B)):∀B∈stepB bs ls ss kd i,P B:=by
 unfold stepB
 split
 ·exact zcp h h3
 ·split
  ·unfold zcW
   split
   ·exact zlf h h1
   ·exact h
  ·split
   ·unfold zbE
    split
    ·exact h
    ·split
     ·exact zcp (zcp h (fun B=>h2 B _ _)) (fun B=>h2 B _ _)
     ·exact h
   ·exact h

theorem zc0 (l:List BR) (i:Nat) (f:BR→BR):(atSet l i f).length=l.length:=by unfold atSet; split <;> simp
theorem zll (bs:List BR) (ls:List LK) (ss:List SY) (kd i:Int):(stepB bs ls ss kd i).length=bs.length:=by
 unfold stepB
 split
 ·exact zc0 _ _ _
 ·split
  ·unfold zcW
   split
   ·unfold za9
    split
    ·unfold zee
     split
     ·split <;> exact zc0 _ _ _
     ·rfl
    ·rfl
   ·rfl
  ·split
   ·unfold zbE
    split
    ·rfl
    ·split
     ·rw [zc0,zc0]
     ·rfl
   ·rfl
theorem zkp (bs:List BR) (ls:List LK) (ss:List SY) (kd i:Int) (h:ss.length≤40):(stepS bs ls ss kd i).length≤40:=by
 unfold stepS
 split
 ·exact ziJ _ _ _ _ h _
 ·split
  ·rw [List.length_append,List.length_take,List.length_drop]; omega
  ·exact h

theorem zkn {a b:List BR × List LK × List SY} {kd i:Int} {q:Bool} (h:StepR a kd i b q):b=a∨FitT b:=by
 by_cases ho:NetOk a.1 a.2.1 a.2.2∧zaD a.1 a.2.1 a.2.2 kd i
 ·obtain ⟨-,e1,e2⟩:=h.yes ho.1 ho.2;refine .inr ⟨?_, ?_, ?_, ?_⟩
  ·rw [e1]; exact zlk ho.1.1.1 (fun B p v hB=>zkZ hB p v) (fun B p u hB=>zk6 hB p u) (fun B hB=>zlm hB)
  ·rw [e1,zll]; exact ho.1.1.2.2.2
  ·rw [h.l]; exact ho.1.2.1.1
  ·rw [e2]; exact zkp _ _ _ _ _ ho.1.2.2.2.1
 ·obtain ⟨-,e1,e2⟩:=h.no ho;refine .inl ?_;obtain ⟨b1,b2,b3⟩:=b;obtain ⟨a1,a2,a3⟩:=a;have e3:=h.l;dsimp only at *;rw [e1,e2,e3]

theorem zh1 (kd i:Int) (w:World) :
  Calls Tryz.prog 8 #[.agg #[.int .i64 kd,.int .i64 i]] w fun e w'=>e=.returned (.agg #[.int .i64 kd,.int .i64 i])∧Below w.heap.size w w':=by
 go_enter Tryz.func8,Tryz.ntmps8;go_wp2;exact bodyPost_ret (v:=.agg #[.int .i64 kd,.int .i64 i]) (by simp [results,Tryz.results8,go_sem]) rfl ⟨rfl,zac _ _ _ _⟩

structure EV where
 kd:Int
 i:Int

def evF:Flat EV where
 k:=2
 cs:=fun x=>[.int .i64 x.kd,.int .i64 x.i]
 len:=fun _=>rfl
 pos:=by decide
 one:=fun _ v hv=>by
  simp only [List.mem_cons,List.not_mem_nil,or_false] at hv;rcases hv with rfl | rfl <;> rfl

theorem zbY {w:World} {ao:Option Addr} {len cap:Nat} {l:List EV} (h:GRow evF w ao len cap l) (i:Nat) (hi:i < len):∃(x:EV) (b off:Nat),l[i]?=some x∧ao=some ⟨b,off,none⟩∧w.cell? ⟨b,off+i*2,none⟩=some (.int .i64 x.kd)∧w.cell? ⟨b,off+i*2+1,none⟩=some (.int .i64 x.i):=by
 obtain ⟨x,b,off,hx,ha,hc⟩:=h.at i hi;exact ⟨x,b,off,hx,ha,hc 0 _ rfl,hc 1 _ rfl⟩

theorem zgY (x:EV) (w:World) :
  Calls Tryz.prog 8 #[.agg #[.int .i64 x.kd,.int .i64 x.i]] w fun r w'=>r=.returned (.agg #[.int .i64 x.kd,.int .i64 x.i])∧Below w.heap.size w w':=by
 refine (zh1 x.kd x.i w).mono ?_;rintro e w' ⟨rfl,hb⟩;exact ⟨rfl,hb⟩

theorem zge (x:EV) (w:World) :
  Calls Tryz.prog 45 #[.agg #[.int .i64 x.kd,.int .i64 x.i],.agg #[.int .i64 x.kd,.int .i64 x.i]] w fun r w'=>r=.returned (.bool true)∧Below w.heap.size w w':=by
 go_enter Tryz.func45,Tryz.ntmps45;go_wp2;go_ret;exact ⟨rfl,zL _ _ _⟩

theorem zec {w w':World} {b off n cap:Nat} {l:List EV} (h:GRow evF w (some ⟨b,off,none⟩) n cap l) (hb:Below w.heap.size w w') {i:Nat} {x:EV} (hx:l[i]?=some x) :
  w'.cell? ⟨b,off+i*2,none⟩=some (.int .i64 x.kd)∧w'.cell? ⟨b,off+i*2+1,none⟩=some (.int .i64 x.i):=by
 have hi:i < n:=by
  have:=(List.getElem?_eq_some_iff.1 hx).1
  have:=h.size
  omega
 obtain ⟨y,b',off',hy,e,c⟩:=zbY (h.below hb) i hi;cases e;rw [hx] at hy;cases hy;exact c

theorem zgi {w:World} {base g n cap:Nat} {pre post:List EV} {x y:EV} (h:w.ownsRow base 38 2 (.slice (some ⟨g,0,none⟩) n cap) n (evF.all (pre++x::post))) :
  ((w.setCell ⟨g,pre.length*2,none⟩ (.int .i64 y.kd)).setCell ⟨g,pre.length*2+1,none⟩ (.int .i64 y.i)).ownsRow base 38 2 (.slice (some ⟨g,0,none⟩) n cap) n (evF.all (pre++y::post)):=by
 have R0:=zt (F:=evF) (x':=⟨y.kd,x.i⟩) h 0 (.int .i64 y.kd) (by decide) rfl;exact zt (F:=evF) (x':=y) R0 1 (.int .i64 y.i) (by decide) rfl

theorem ze3 {w:World} {g j:Nat} {y:EV}:w.grownBy ((w.setCell ⟨g,j,none⟩ (.int .i64 y.kd)).setCell ⟨g,j+1,none⟩ (.int .i64 y.i)) (some g) :=
 zz (zg _ _) (zg _ _)

theorem zeb {w:World} {base g n cap:Nat} {T:TypeId} {l:List EV} (h:w.ownsRow base T 2 (.slice (some ⟨g,0,none⟩) n cap) n (evF.all l)) {i:Nat} {x:EV} (hx:l[i]?=some x) :
  (w.cell? ⟨g,i*2,none⟩=some (.int .i64 x.kd)∧w.cell? ⟨g,i*2+1,none⟩=some (.int .i64 x.i)) ∧
  (w.frozen? ⟨g,i*2,none⟩=false∧w.frozen? ⟨g,i*2+1,none⟩=false):=by
 have c0:=zH (F:=evF) h hx (j:=0) (v:=.int .i64 x.kd) rfl;have c1:=zH (F:=evF) h hx (j:=1) (v:=.int .i64 x.i) rfl;exact ⟨⟨c0.1,c1.1⟩,c0.2,c1.2⟩

def EV.zero:EV:=⟨0,0⟩

theorem zi0:(Tryz.prog.info? 38).map (fun i=>(i.zero,i.size,i.bytes))=some (some (.agg #[.int .i64 0,.int .i64 0]),2,16):=by kernel_rfl

theorem zbN (ao:Option Addr) (n c:Nat) (l:List EV) (w:World) (hl:GRow evF w ao n c l) (hs:n≤1048576) :
  Calls Tryz.prog 15 #[.slice ao n c] w fun r w'=>∃ao' cap,r=.returned (.slice ao' n cap)∧w'.ownsRow w.heap.size 38 2 (.slice ao' n cap) n (evF.all l)∧Below w.heap.size w w':=by
 obtain ⟨i0,hi,hz0,hz1,hz2⟩:=zaK zi0;have s1:=hl.size;go_enter Tryz.func15,Tryz.ntmps15;go_wp2_with (at_make; refine wpList_make_full _ rfl _ _ 46 rfl w.heap.size 38 i0 (.agg #[.int .i64 0,.int .i64 0]) 2 Tryz.underlying46 hi hz0 hz1 .i64 .i64 _ _ n rfl rfl rfl rfl ?c1 ?c2 ?c3 ?_)
 case c1=>rw [hz2]; omega
 case c2=>unfold maxLen; omega
 case c3=>exact Nat.le_refl _
 intro w1 hown hgrow;have hb1:Below w.heap.size w w1:=(Below.refl _ _).grown hgrow (Nat.le_refl _) (by intro k hk; cases hk);have hown1:w1.ownsRow w.heap.size 38 2 (.slice (some ⟨w.heap.size,0,none⟩) n n) n (evF.all (l.take 0++List.replicate (n - 0) EV.zero)):=by
  rw [List.take_zero,List.nil_append,Nat.sub_zero,← zbQ]; exact hown
 clear hown hgrow hi hz0 hz1 hz2;go_wp2
 go_loopw [4] (fun i wr=>∃k:Nat,k≤n∧i=.int .i64 k∧wr.ownsRow w.heap.size 38 2 (.slice (some ⟨w.heap.size,0,none⟩) n n) n (evF.all (l.take k++List.replicate (n - k) EV.zero))∧Below w.heap.size w wr) (fun i _=>n - (intOf i).toNat)
 case atStart=>exact ⟨0,Nat.zero_le _,rfl,hown1,hb1⟩
 case round =>
  obtain ⟨k,hk,rfl,ho,hb⟩:=hrel;clear hown1 hb1;by_cases hlt:k < n
  ·obtain ⟨x,b,off,hx,rfl,a0,a1⟩:=zbY (hl.below hb) k hlt;have hrep:List.replicate (n - k) EV.zero=EV.zero::List.replicate (n - (k+1)) EV.zero:=by rw [← List.replicate_succ]; congr 1; omega
   have hlk:(l.take k).length=k:=by rw [List.length_take]; omega
   rw [hrep] at ho;have htk:l.take (k+1)=l.take k++[x]:=by rw [List.take_add_one,hx]; rfl
   have HTK:=hide htk;have HB:=hide hb;have HO:=hide ho;have HX:=hide hx;clear hb ho htk hx;(go_wp2_with fail);refine (zgY x _).mono ?_;rintro r w2 ⟨rfl,hb2⟩;have ho2:=zi HO.out hb2;have hz:(l.take k++EV.zero::List.replicate (n - (k+1)) EV.zero)[k]?=some EV.zero:=by rw [List.getElem?_append_right (by omega),hlk,Nat.sub_self]; rfl
   obtain ⟨⟨t0,t1⟩,f0,f1⟩:=zeb ho2 hz;have o3:=zgi (y:=x) ho2;rw [hlk] at o3;have HO3:=hide o3;have hb3:=zc HB.out hb2;have HB3:=hide (hb3.grown (ze3 (w:=w2) (g:=w.heap.size) (j:=k*2) (y:=x)) hb3.size (by intro j e; cases e; exact Nat.le_refl _));clear ho2 hb2 hb3 o3 hz a0 a1;go_wp2
   go_roundw
   case rel=>exact ⟨k+1,by omega,by go_num,by rw [HTK.out,List.append_assoc]; exact HO3.out,HB3.out⟩
   case measure=>simp [intOf]; omega
  ·have hkn:k=n:=by omega
   subst hkn;rw [Nat.sub_self,List.take_of_length_le (by omega),List.replicate_zero,List.append_nil] at ho;have HO:=hide ho;have HB:=hide hb;clear ho hb;go_wp2;go_ret;exact ⟨_,_,rfl,HO.out,HB.out⟩

theorem zgW (ao:Option Addr) (n c:Nat) (left:Int) (w:World) (hl:n≤maxLen) (h0:0≤left) (h1:left≤1048576) :
  Calls Tryz.prog 13 #[.slice ao n c,.int .i64 left] w fun r w'=>r=.returned (.int .i64 (if (n:Int)≤left then left - n else -1))∧w'=w:=by
 unfold maxLen at hl;go_enter Tryz.func13,Tryz.ntmps13;go_wp2
 all_goals go_ret
 all_goals exact ⟨rfl,rfl⟩

theorem zfx (ao:Option Addr) (n c:Nat) (ao':Option Addr) (n' c':Nat) (l:List EV) (w:World) (hl:GRow evF w ao n c l) (hl':GRow evF w ao' n' c' l) :
  Calls Tryz.prog 17 #[.slice ao n c,.slice ao' n' c'] w fun r w'=>r=.returned (.bool true)∧Below w.heap.size w w':=by
 have hs:=hl.size;have hs':=hl'.size;have htop:=Nat.le_trans hl.le hl.top;unfold maxLen at htop;have hnn:n'=n:=by omega
 subst hnn;go_enter Tryz.func17,Tryz.ntmps17;go_wp2
 go_loopw [5] (fun i wr=>∃k:Nat,k≤n'∧i=.int .i64 k∧Below w.heap.size w wr) (fun i _=>n' - (intOf i).toNat)
 case atStart=>exact ⟨0,Nat.zero_le _,rfl,Below.refl _ _⟩
 case round =>
  obtain ⟨k,hk,rfl,hb⟩:=hrel;by_cases hlt:k < n'
  ·obtain ⟨x,b,off,hx,rfl,-⟩:=zbY (hl.below hb) k hlt;obtain ⟨y,b',off',hy,rfl,-⟩:=zbY (hl'.below hb) k hlt;rw [hx] at hy;cases hy;have HS:Hid (∀W,Below wr.heap.size wr W→(W.cell? ⟨b,off+k*2,none⟩=some (.int .i64 x.kd)∧W.cell? ⟨b,off+k*2+1,none⟩=some (.int .i64 x.i))∧(W.cell? ⟨b',off'+k*2,none⟩=some (.int .i64 x.kd)∧W.cell? ⟨b',off'+k*2+1,none⟩=some (.int .i64 x.i))):=hide (fun W h=>⟨zec (hl.below hb) h hx,zec (hl'.below hb) h hx⟩);have vv:Below wr.heap.size wr wr.drew:=zp (Below.refl _ _);have i1:(0:Int)≤(k:Int):=by omega
   have i2:(k:Int) < (n':Int):=by omega
   have HB:=hide hb;clear hb hx;(go_wp2_with fail);refine wp_region_held_drew (S:=(fun W=>(W.cell? ⟨b,off+k*2,none⟩=some (.int .i64 x.kd)∧W.cell? ⟨b,off+k*2+1,none⟩=some (.int .i64 x.i))∧(W.cell? ⟨b',off'+k*2,none⟩=some (.int .i64 x.kd)∧W.cell? ⟨b',off'+k*2+1,none⟩=some (.int .i64 x.i)))) (by kernel_rfl) (HS.out _ vv) (fun hHeld => ?_);refine kK 0 ⟨some 17,.move (.tmp 0),46,"exact.go:1468",#[],none⟩ ?_;refine kK 1 ⟨some 18,.move (.tmp 5),3,"exact.go:1468",#[],none⟩ ?_;refine kK 2 ⟨some 19,.indexAddr 46 (.tmp 17) (.tmp 18),0,"exact.go:1468",#[⟨0,.data⟩,⟨1,.data⟩],none⟩ ?_;refine kK 3 ⟨some 20,.load 38 (.tmp 19),38,"exact.go:1468",#[⟨2,.data⟩],none⟩ ?_;refine kK 4 ⟨some 21,.move (.tmp 1),46,"exact.go:1468",#[],none⟩ ?_;refine kK 5 ⟨some 22,.move (.tmp 5),3,"exact.go:1468",#[],none⟩ ?_;refine kK 6 ⟨some 23,.indexAddr 46 (.tmp 21) (.tmp 22),0,"exact.go:1468",#[⟨4,.data⟩,⟨5,.data⟩],none⟩ ?_;refine kK 7 ⟨some 24,.load 38 (.tmp 23),38,"exact.go:1468",#[⟨6,.data⟩],none⟩ ?_;refine kR 8 ⟨some 25,.call ⟨.value (.func 45),#[.tmp 20,.tmp 24],#[38,38]⟩,4,"exact.go:1468",#[⟨3,.data⟩,⟨7,.data⟩],none⟩ (fun K hK => ?_);go_simp;refine (zge x _).mono ?_;rintro r wz ⟨rfl,hbz⟩;have vv:=zc vv hbz;(go_wp2_with fail);refine hK.out _ _ (HS.out _ vv) (fun hHeld => ?_);clear hK K;(try simp only [Act.put,lA,lB,lC]);refine kK 9 ⟨some 26,.unOp .not 4 (.tmp 25),4,"exact.go:1468",#[⟨8,.data⟩],none⟩ ?_;refine wpAnyH_done (by kernel_rfl) ?_ _;have b1:=zc HB.out vv;clear HS hHeld vv;go_wp2
   go_roundw
   case rel=>exact ⟨k+1,by omega,by go_num,b1⟩
   case measure=>simp [intOf]; omega
  ·have hk':k=n':=by omega
   subst hk';go_wp2;go_ret;exact ⟨rfl,hb⟩

def zgy (k:Int):EV:=⟨k,k+1⟩
def zbw (k:Int) (n:Nat):List EV:=(List.range n).map fun (i:Nat)=>zgy (k+2*i)

theorem zeN (k:Int) (n:Nat):(zbw k n).length=n:=by simp [zbw]
theorem zgz (k:Int) (j:Nat):zbw k (j+1)=zbw k j++[zgy (k+2*j)]:=by simp [zbw,List.range_succ]
theorem zlX (k:Int) (n j:Nat) (h:j < n):(zbw k n)[j]?=some (zgy (k+2*j)):=by simp [zbw,List.getElem?_map,List.getElem?_range h]

theorem zfK (base g n cap:Nat) (l:List EV) (k:Int) (w:World) (hown:w.ownsRow base 38 2 (.slice (some ⟨g,0,none⟩) n cap) n (evF.all l)) (hn:n≤16777216) (hk0:0≤k) (hk1:k≤1099511627776) :
  Calls Tryz.prog 18 #[.slice (some ⟨g,0,none⟩) n cap,.int .i64 k] w fun r w'=>r=.returned (.int .i64 (k+2*n))∧w'.ownsRow base 38 2 (.slice (some ⟨g,0,none⟩) n cap) n (evF.all (zbw k n))∧w.grownBy w' (some g):=by
 have hl:l.length=n:=(zB (F:=evF) hown).size;go_enter Tryz.func18,Tryz.ntmps18;go_wp2
 go_loopw [1,5] (fun m i wr=>∃j:Nat,j≤n∧i=.int .i64 j∧m=.int .i64 (k+2*j)∧wr.ownsRow base 38 2 (.slice (some ⟨g,0,none⟩) n cap) n (evF.all (zbw k j++l.drop j))∧w.grownBy wr (some g)) (fun _ i _=>n - (intOf i).toNat)
 case atStart=>exact ⟨0,Nat.zero_le _,rfl,by simp,by simpa [zbw] using hown,World.grownBy.refl _ _⟩
 case round =>
  obtain ⟨j,hj,rfl,rfl,how,hg⟩:=hrel;by_cases hlt:j < n
  ·obtain ⟨x,hx⟩:∃x,l[j]?=some x:=⟨l[j]'(by omega),List.getElem?_eq_getElem (by omega)⟩;have hdr:l.drop j=x::l.drop (j+1):=by
    obtain ⟨h,rfl⟩:=List.getElem?_eq_some_iff.1 hx;exact List.drop_eq_getElem_cons h
   rw [hdr] at how;have hlj:=zeN k j;have hz:(zbw k j++x::l.drop (j+1))[j]?=some x:=by rw [List.getElem?_append_right (by omega),hlj,Nat.sub_self]; rfl
   obtain ⟨⟨t0,t1⟩,f0,f1⟩:=zeb how hz;have o3:=zgi (y:=zgy (k+2*j)) how;rw [hlj] at o3;have HO3:=hide o3;have HG:=hide (zz hg (ze3 (w:=wr) (g:=g) (j:=j*2) (y:=zgy (k+2*j))));have HM:=hide (zgz k j);have hm:0≤k+2*(j:Int)∧k+2*(j:Int)≤2199023255552:=by omega
   clear how hg hown o3 hz hdr;generalize hK:k+2*(j:Int)=K at *;go_wp2
   go_roundw
   case rel=>exact ⟨j+1,by omega,by go_num,by simp; omega,by rw [HM.out,List.append_assoc]; exact HO3.out,HG.out⟩
   case measure=>simp [intOf]; omega
  ·have hj':j=n:=by omega
   subst hj';rw [List.drop_eq_nil_of_le (by omega),List.append_nil] at how;have HO:=hide how;clear how hown;go_wp2;go_ret;exact ⟨rfl,HO.out,hg⟩

theorem zeM (k:Int) (c:Nat) (w:World) :
  Calls Tryz.prog 18 #[.slice none 0 c,.int .i64 k] w fun r w'=>r=.returned (.int .i64 k)∧w'=w:=by
 go_enter Tryz.func18,Tryz.ntmps18;go_wp2
 go_loop [1,5] (fun m i=>m=.int .i64 k∧i=.int .i64 0) (fun _ _=>0)
 case atStart=>exact ⟨rfl,rfl⟩
 case round =>
  obtain ⟨rfl,rfl⟩:=hrel;go_wp2;go_ret;exact ⟨rfl,rfl⟩

theorem zdS (base:Nat) (ao:Option Addr) (n cap:Nat) (l:List EV) (k:Int) (w:World) (hown:w.ownsRow base 38 2 (.slice ao n cap) n (evF.all l)) (hn:n≤16777216) (hk0:0≤k) (hk1:k≤1099511627776) :
  Calls Tryz.prog 18 #[.slice ao n cap,.int .i64 k] w fun r w'=>r=.returned (.int .i64 (k+2*n))∧w'.ownsRow base 38 2 (.slice ao n cap) n (evF.all (zbw k n))∧w.grownBy w' (Value.slice ao n cap).ownBlock:=by
 rcases hown.2 with ⟨e,h0⟩ | ⟨g,cap',cur,e,-⟩
 ·cases e;refine (zeM k 0 w).mono ?_;rintro r w' ⟨rfl,rfl⟩;exact ⟨by simp,by simpa [zbw,Flat.all] using World.ownsRow_nil w' base 38 2,World.grownBy.refl _ _⟩
 ·cases e;exact zfK base g n cap l k w hown hn hk0 hk1

def zb6 (l:List EV):Nat→List BR × List LK × List SY→List BR × List LK × List SY→Prop
 | 0,a,b=>b=a
 | k+1,a,b=>∃c,zb6 l k a c∧∃(e:EV) (q:Bool),l[k]?=some e∧StepR c e.kd e.i b q

theorem zdD {l:List EV}:∀(k:Nat) {a b c:List BR × List LK × List SY},zb6 l k a b→zb6 l k a c→b=c
 | 0,_,_,_,h,h'=>h.trans h'.symm
 | k+1,_,_,_,⟨x,hx,e,q,he,hs⟩,⟨y,hy,e',q',he',hs'⟩=>by
  obtain rfl:=zdD k hx hy;rw [he] at he';cases he';exact (zko hs hs').1

theorem zcc {l:List EV}:∀(k:Nat) {a b:List BR × List LK × List SY},zb6 l k a b→b=a∨FitT b
 | 0,_,_,h=>.inl h
 | k+1,_,_,⟨x,hx,e,q,_,hs⟩=>by
  rcases zkn hs with rfl | h
  ·exact zcc k hx
  ·exact .inr h

theorem ok_rg {B:BR} (h:zG B=true):B.Rg:=by
 unfold zG at h;simp only [Bool.and_eq_true] at h;obtain ⟨-,-,-,hp,hf,hv,-⟩:=h;refine ⟨fun x hx=>zlB ((((zb9 B.f).1 hf).1).1 x hx),fun r hr => ?_⟩;unfold zar at hv;simp only [Bool.and_eq_true,List.all_eq_true] at hv;have h1:=hv.1.1.2 r hr;unfold zbk at h1;simp only [Bool.and_eq_true] at h1;have ha:allOf ((B.ports.length:Int)).toNat≤63:=by
  unfold in3 at hp;simp only [Bool.and_eq_true,decide_eq_true_eq] at hp;rw [Int.toNat_natCast];rcases (show B.ports.length=1∨B.ports.length=2∨B.ports.length=3∨B.ports.length=4∨B.ports.length=5∨B.ports.length=6 by omega) with e | e | e | e | e | e <;> rw [e] <;> decide
 unfold in3 at h1;simp only [Bool.and_eq_true,decide_eq_true_eq] at h1;unfold VR.Rng I64;omega

theorem zgV {l:List EV} (k:Nat) {a b:List BR × List LK × List SY} (h:zb6 l k a b) (hr:∀B∈a.1,B.Rg):∀B∈b.1,B.Rg:=by
 rcases zcc k h with rfl | hf
 ·exact hr
 ·exact fun B hB=>ok_rg (hf.1 B hB)

end Go.Proofs.YtpaneiaflfegoaaGreat
