/-
  Whether a bridge is right, the program's own.
-/
import Derived.Test.YtcpdkcdfnpcemaaGreatPRFdbImplA
namespace Go.Proofs.YtcpdkcdfnpcemaaGreat
set_option maxRecDepth 100000
set_option maxHeartbeats 16000000
open Go.RowKit

theorem zdZ (x:PT) (w:World):Calls Tryz.prog 140 #[.agg #[.bool x.up,.int .i64 x.k,.bool x.has,.int .i64 x.v.r,.int .i64 x.v.c,.int .i64 x.v.h,.int .i64 x.v.b,.int .i64 x.v.p]] w fun e w'=>e=.returned (.bool (!ptOk x))∧Below w.heap.size w w':=by
 have q0:=zh w (.cells #[.bool x.up,.int .i64 x.k,.bool x.has,.int .i64 x.v.r,.int .i64 x.v.c,.int .i64 x.v.h,.int .i64 x.v.b,.int .i64 x.v.p] 113);generalize hQ:ptOk x=Q;have HQ:=hide hQ;clear hQ;go_enter Tryz.func140,Tryz.ntmps140;go_wp2_with fail
 refine (ze0 x _).mono ?_;rintro r w1 ⟨rfl,hb1⟩;rw [HQ.out];have HB:=hide (zd q0 hb1);clear hb1 q0;go_wp2;go_ret;exact ⟨rfl,HB.out⟩

theorem zfC (a:Option Addr) (n c:Nat) (l:List PT) (w:World) (h:GRow ptF w a n c l) :
  Calls Tryz.prog 205 #[.slice a n c,.func (.func 140) #[] #[]] w fun e w'=>∃k:Int,e=.returned (.int .i64 k)∧decide (k≥0)=(!l.all ptOk)∧Below w.heap.size w w':=by
 have hle:=h.le;have htop:=h.top;unfold maxLen at htop;have hsz:=h.size;go_enter Tryz.func205,Tryz.ntmps205;go_wp2
 go_loopw [8] (fun i wr=>∃k:Nat,k≤n∧i=.int .i64 k∧(∀(j:Nat) (y:PT),j < k→l[j]? = some y→ptOk y=true)∧Below w.heap.size w wr) (fun i _=>n - (intOf i).toNat)
 case atStart=>exact ⟨0,Nat.zero_le _,rfl,fun j y hj=>by omega,Below.refl _ _⟩
 case round =>
  obtain ⟨k,hk,rfl,hall,hb⟩:=hrel;by_cases hlt:k < n
  ·obtain ⟨x,b,off,hx,rfl,c0,c1,c2,c3,c4,c5,c6,c7⟩:=pt_at (h.below hb) k hlt;cases hok:ptOk x
   ·have HOK:=hide hok;have HN:=hide (zht hx hok);have HB:=hide hb;clear hok hall hx hb;(go_wp2_with fail);refine (zdZ x _).mono ?_;rintro r w1 ⟨rfl,hb1⟩;rw [HOK.out];have HB1:=hide (zd HB.out hb1);clear hb1 c0 c1 c2 c3 c4 c5 c6 c7;go_wp2;go_ret;exact ⟨(k:Int),rfl,(by rw [HN.out,decide_eq_true (by omega)]; rfl),HB1.out⟩
   ·have HOK:=hide hok;have HA:Hid (∀(j:Nat) (y:PT),j < k+1→l[j]? = some y→ptOk y=true):=hide (by
     intro j y hj hy;by_cases e:j=k
     ·subst e;rw [hx] at hy;cases hy;exact hok
     ·exact hall j y (by omega) hy)
    have HB:=hide hb;clear hok hall hx hb;(go_wp2_with fail);refine (zdZ x _).mono ?_;rintro r w1 ⟨rfl,hb1⟩;rw [HOK.out];have HB1:=hide (zd HB.out hb1);clear hb1 c0 c1 c2 c3 c4 c5 c6 c7;go_wp2
    go_roundw
    case rel=>exact ⟨k+1,by omega,by go_num,HA.out,HB1.out⟩
    case measure=>simp [intOf]; omega
  ·have hkn:k=n:=by omega
   have HN:=hide (zf8 (l:=l) (fun i y hy=>hall i y (by have:=(List.getElem?_eq_some_iff.1 hy).1; omega) hy));have HB:=hide hb;clear hall hb;subst hkn;go_wp2;go_ret;exact ⟨-1,rfl,(by rw [HN.out]; rfl),HB.out⟩

theorem zd1 (a:Option Addr) (n c:Nat) (l:List PT) (w:World) (h:GRow ptF w a n c l) :
  Calls Tryz.prog 139 #[.slice a n c,.func (.func 140) #[] #[]] w fun e w'=>e=.returned (.bool (!l.all ptOk))∧Below w.heap.size w w':=by
 go_enter Tryz.func139,Tryz.ntmps139;go_wp2_with fail
 refine (zfC a n c l _ h).mono ?_;rintro r w1 ⟨k,rfl,hk,hb1⟩;have HK:=hide hk;clear hk;go_wp2;go_ret;exact ⟨(by rw [← HK.out]; rfl),hb1⟩

theorem zbb (a:Option Addr) (n c:Nat) (l:List PT) (w:World) (h:GRow ptF w a n c l) :
  Calls Tryz.prog 65 #[.slice a n c] w fun e w'=>e=.returned (.bool (in3 (n:Int) 1 6 && l.all ptOk))∧Below w.heap.size w w':=by
 generalize hP:l.all ptOk=P;have HP:=hide hP;clear hP;unfold in3;cases t0:(decide (1≤(n:Int)) && decide ((n:Int)≤6))
 ·have T0:=hide t0;clear t0;go_enter Tryz.func65,Tryz.ntmps65;(go_wp2_with fail);refine (zz (n:Int) 1 6 _).mono ?_;rintro r w3 ⟨rfl,ew⟩;obtain rfl:=ew.symm;rw [T0.out];go_wp2;go_ret;exact ⟨rfl,Below.refl _ _⟩
 ·have T0:=hide t0;clear t0;go_enter Tryz.func65,Tryz.ntmps65;(go_wp2_with fail);refine (zz (n:Int) 1 6 _).mono ?_;rintro r w3 ⟨rfl,ew⟩;obtain rfl:=ew.symm;rw [T0.out];(go_wp2_with fail);refine (zd1 a n c l _ h).mono ?_;rintro r w4 ⟨rfl,hb4⟩;rw [HP.out];go_wp2;go_ret;exact ⟨(by cases P <;> rfl),hb4⟩

theorem zbp (v0 v1 v2 v3 v4 v5:Value) (a b c d e:Int) (w:World) :
  Calls Tryz.prog 63 #[.agg #[v0,v1,v2,v3,v4,v5,.int .i64 a,.int .i64 b,.int .i64 c,.int .i64 d,.int .i64 e]] w fun r w'=>r=.returned (.agg #[.int .i64 a,.int .i64 b,.int .i64 c,.int .i64 d,.int .i64 e])∧Below w.heap.size w w':=by
 generalize hw1:w.alloc (Obj.cells #[v0,v1,v2,v3,v4,v5,.int .i64 a,.int .i64 b,.int .i64 c,.int .i64 d,.int .i64 e] 31)=w1;generalize hw2:w1.alloc (Obj.cells #[.int .i64 0,.int .i64 0,.int .i64 0,.int .i64 0,.int .i64 0] 120)=w2;have b01:=zb hw1;have b12:=zb hw2;have b02:=zd b01 b12;have z1:w.heap.size < w1.heap.size:=by rw [← hw1]; simp
 have k1:=ze (zk hw1) b12;have k2:=zk hw2;obtain ⟨x0,x1,x2,x3,x4,x5,x6,x7,x8,x9,x10⟩:=zj k1;have y0:w2.cell? ⟨w1.heap.size,0,none⟩=some (.int .i64 0):=by simp [World.cell?,k2]
 have y1:w2.cell? ⟨w1.heap.size,1,none⟩=some (.int .i64 0):=by simp [World.cell?,k2]
 have y2:w2.cell? ⟨w1.heap.size,2,none⟩=some (.int .i64 0):=by simp [World.cell?,k2]
 have y3:w2.cell? ⟨w1.heap.size,3,none⟩=some (.int .i64 0):=by simp [World.cell?,k2]
 have y4:w2.cell? ⟨w1.heap.size,4,none⟩=some (.int .i64 0):=by simp [World.cell?,k2]
 have fr:=zm k2;have f0:=fr 0;have f1:=fr 1;have f2:=fr 2;have f3:=fr 3;have f4:=fr 4;have HB:=hide (zg (zg (zg (zg (zg b02 (g:=w1.heap.size) (Nat.le_of_lt z1) 0 (.int .i64 a)) (g:=w1.heap.size) (Nat.le_of_lt z1) 1 (.int .i64 b)) (g:=w1.heap.size) (Nat.le_of_lt z1) 2 (.int .i64 c)) (g:=w1.heap.size) (Nat.le_of_lt z1) 3 (.int .i64 d)) (g:=w1.heap.size) (Nat.le_of_lt z1) 4 (.int .i64 e));clear fr k1 k2 b01 b12 b02;go_enter Tryz.func63,Tryz.ntmps63;go_wp2;exact bodyPost_ret (v:=.agg #[.int .i64 a,.int .i64 b,.int .i64 c,.int .i64 d,.int .i64 e]) (by simp [results,Tryz.results63,go_sem, *]) rfl ⟨rfl,HB.out⟩

def nth5 (a b c d e:Int):Nat→Int
 | 0=>a
 | 1=>b
 | 2=>c
 | 3=>d
 | _=>e

theorem zb9 (v0 v1 v2 v3 v4 v5:Value) (a b c d e:Int) (w:World) :
  Calls Tryz.prog 68 #[.agg #[v0,v1,v2,v3,v4,v5,.int .i64 a,.int .i64 b,.int .i64 c,.int .i64 d,.int .i64 e]] w fun r w'=>r=.returned (.bool (zaj a b c d e))∧Below w.heap.size w w':=by
 have h0:∀W,(Instr.index 120 (.agg #[.int .i64 a,.int .i64 b,.int .i64 c,.int .i64 d,.int .i64 e]) (.int .i64 0)).run Tryz.prog W=.ok (.int .i64 a) W:=fun W=>by kernel_rfl
 have h1:∀W,(Instr.index 120 (.agg #[.int .i64 a,.int .i64 b,.int .i64 c,.int .i64 d,.int .i64 e]) (.int .i64 1)).run Tryz.prog W=.ok (.int .i64 b) W:=fun W=>by kernel_rfl
 have h2:∀W,(Instr.index 120 (.agg #[.int .i64 a,.int .i64 b,.int .i64 c,.int .i64 d,.int .i64 e]) (.int .i64 2)).run Tryz.prog W=.ok (.int .i64 c) W:=fun W=>by kernel_rfl
 have h3:∀W,(Instr.index 120 (.agg #[.int .i64 a,.int .i64 b,.int .i64 c,.int .i64 d,.int .i64 e]) (.int .i64 3)).run Tryz.prog W=.ok (.int .i64 d) W:=fun W=>by kernel_rfl
 have h4:∀W,(Instr.index 120 (.agg #[.int .i64 a,.int .i64 b,.int .i64 c,.int .i64 d,.int .i64 e]) (.int .i64 4)).run Tryz.prog W=.ok (.int .i64 e) W:=fun W=>by kernel_rfl
 generalize hw1:w.alloc (Obj.cells #[v0,v1,v2,v3,v4,v5,.int .i64 a,.int .i64 b,.int .i64 c,.int .i64 d,.int .i64 e] 31)=w1;have b01:=zb hw1;have k1:=zk hw1;obtain ⟨x0,x1,x2,x3,x4,x5,x6,x7,x8,x9,x10⟩:=zj k1;go_enter Tryz.func68,Tryz.ntmps68;go_wp2_with fail
 refine (zbp v0 v1 v2 v3 v4 v5 a b c d e _).mono ?_;rintro r w2 ⟨rfl,hb2⟩;have b02:=zd b01 hb2;clear x0 x1 x2 x3 x4 x5 x6 x7 x8 x9 x10 k1 hw1 b01 hb2;go_wp2
 go_loopw [7] (fun i wr=>∃k:Nat,k≤5∧i=.int .i64 k∧(∀j,j < k→in1m (nth5 a b c d e j)=true)∧Below w.heap.size w wr) (fun i _=>5 - (intOf i).toNat)
 case atStart=>exact ⟨0,by omega,rfl,fun j hj=>by omega,b02⟩
 case round =>
  obtain ⟨k,hk,hi,hall,hb⟩:=hrel;clear b02;rcases (show k=0∨k=1∨k=2∨k=3∨k=4∨k=5 by omega) with rfl | rfl | rfl | rfl | rfl | rfl
  ·have hi:_=Value.int .i64 0:=hi;subst hi;cases t:in1m a
   ·have HQ:Hid (zaj a b c d e=false):=hide (by unfold zaj; rw [t]; rfl);have HT:=hide t;clear t hall;(go_wp2_with fail);refine (zz a 0 1000000 _).mono ?_;rintro r wz ⟨rfl,ew⟩;obtain rfl:=ew.symm;rw [show (decide (0≤a) && decide (a≤1000000))=false from HT.out];go_wp2;go_ret;exact ⟨(by rw [HQ.out]; rfl),hb⟩
   ·have HT:=hide t;have HA:=hide hall;clear t hall;(go_wp2_with fail);refine (zz a 0 1000000 _).mono ?_;rintro r wz ⟨rfl,ew⟩;obtain rfl:=ew.symm;rw [show (decide (0≤a) && decide (a≤1000000))=true from HT.out];go_wp2
    go_roundw
    case rel=>exact ⟨1,by omega,by go_num,fun j hj=>(by rcases (show j < 0∨j=0 by omega) with h | rfl; exact HA.out j h; exact HT.out),hb⟩
    case measure=>simp [intOf]
  ·have hi:_=Value.int .i64 1:=hi;subst hi;cases t:in1m b
   ·have HQ:Hid (zaj a b c d e=false):=hide (by unfold zaj; rw [show in1m a=true from hall 0 (by omega),t]; rfl);have HT:=hide t;clear t hall;(go_wp2_with fail);refine (zz b 0 1000000 _).mono ?_;rintro r wz ⟨rfl,ew⟩;obtain rfl:=ew.symm;rw [show (decide (0≤b) && decide (b≤1000000))=false from HT.out];go_wp2;go_ret;exact ⟨(by rw [HQ.out]; rfl),hb⟩
   ·have HT:=hide t;have HA:=hide hall;clear t hall;(go_wp2_with fail);refine (zz b 0 1000000 _).mono ?_;rintro r wz ⟨rfl,ew⟩;obtain rfl:=ew.symm;rw [show (decide (0≤b) && decide (b≤1000000))=true from HT.out];go_wp2
    go_roundw
    case rel=>exact ⟨2,by omega,by go_num,fun j hj=>(by rcases (show j < 1∨j=1 by omega) with h | rfl; exact HA.out j h; exact HT.out),hb⟩
    case measure=>simp [intOf]
  ·have hi:_=Value.int .i64 2:=hi;subst hi;cases t:in1m c
   ·have HQ:Hid (zaj a b c d e=false):=hide (by unfold zaj; rw [show in1m a=true from hall 0 (by omega),show in1m b=true from hall 1 (by omega),t]; rfl);have HT:=hide t;clear t hall;(go_wp2_with fail);refine (zz c 0 1000000 _).mono ?_;rintro r wz ⟨rfl,ew⟩;obtain rfl:=ew.symm;rw [show (decide (0≤c) && decide (c≤1000000))=false from HT.out];go_wp2;go_ret;exact ⟨(by rw [HQ.out]; rfl),hb⟩
   ·have HT:=hide t;have HA:=hide hall;clear t hall;(go_wp2_with fail);refine (zz c 0 1000000 _).mono ?_;rintro r wz ⟨rfl,ew⟩;obtain rfl:=ew.symm;rw [show (decide (0≤c) && decide (c≤1000000))=true from HT.out];go_wp2
    go_roundw
    case rel=>exact ⟨3,by omega,by go_num,fun j hj=>(by rcases (show j < 2∨j=2 by omega) with h | rfl; exact HA.out j h; exact HT.out),hb⟩
    case measure=>simp [intOf]
  ·have hi:_=Value.int .i64 3:=hi;subst hi;cases t:in1m d
   ·have HQ:Hid (zaj a b c d e=false):=hide (by unfold zaj; rw [show in1m a=true from hall 0 (by omega),show in1m b=true from hall 1 (by omega),show in1m c=true from hall 2 (by omega),t]; rfl);have HT:=hide t;clear t hall;(go_wp2_with fail);refine (zz d 0 1000000 _).mono ?_;rintro r wz ⟨rfl,ew⟩;obtain rfl:=ew.symm;rw [show (decide (0≤d) && decide (d≤1000000))=false from HT.out];go_wp2;go_ret;exact ⟨(by rw [HQ.out]; rfl),hb⟩
   ·have HT:=hide t;have HA:=hide hall;clear t hall;(go_wp2_with fail);refine (zz d 0 1000000 _).mono ?_;rintro r wz ⟨rfl,ew⟩;obtain rfl:=ew.symm;rw [show (decide (0≤d) && decide (d≤1000000))=true from HT.out];go_wp2
    go_roundw
    case rel=>exact ⟨4,by omega,by go_num,fun j hj=>(by rcases (show j < 3∨j=3 by omega) with h | rfl; exact HA.out j h; exact HT.out),hb⟩
    case measure=>simp [intOf]
  ·have hi:_=Value.int .i64 4:=hi;subst hi;cases t:in1m e
   ·have HQ:Hid (zaj a b c d e=false):=hide (by unfold zaj; rw [show in1m a=true from hall 0 (by omega),show in1m b=true from hall 1 (by omega),show in1m c=true from hall 2 (by omega),show in1m d=true from hall 3 (by omega),t]; rfl);have HT:=hide t;clear t hall;(go_wp2_with fail);refine (zz e 0 1000000 _).mono ?_;rintro r wz ⟨rfl,ew⟩;obtain rfl:=ew.symm;rw [show (decide (0≤e) && decide (e≤1000000))=false from HT.out];go_wp2;go_ret;exact ⟨(by rw [HQ.out]; rfl),hb⟩
   ·have HT:=hide t;have HA:=hide hall;clear t hall;(go_wp2_with fail);refine (zz e 0 1000000 _).mono ?_;rintro r wz ⟨rfl,ew⟩;obtain rfl:=ew.symm;rw [show (decide (0≤e) && decide (e≤1000000))=true from HT.out];go_wp2
    go_roundw
    case rel=>exact ⟨5,by omega,by go_num,fun j hj=>(by rcases (show j < 4∨j=4 by omega) with h | rfl; exact HA.out j h; exact HT.out),hb⟩
    case measure=>simp [intOf]
  ·have hi:_=Value.int .i64 5:=hi;subst hi;have HQ:Hid (zaj a b c d e=true):=hide (by unfold zaj; rw [show in1m a=true from hall 0 (by omega),show in1m b=true from hall 1 (by omega),show in1m c=true from hall 2 (by omega),show in1m d=true from hall 3 (by omega),show in1m e=true from hall 4 (by omega)]; rfl);clear hall;go_wp2;go_ret;exact ⟨(by rw [HQ.out]; rfl),hb⟩

theorem zjr (B:BR) (n:Nat) (hn:B.ports.length=n):zG B=((decide (1≤B.id) && decide (B.id≤99)) && (decide ((B.name.size:Int)≤10) && ((in3 (n:Int) 1 6 && B.ports.all ptOk) && (fdbOk B.f && (zO B.v (n:Int) && zaj B.ticks B.parse B.word B.drops B.vers))))):=by
 unfold zG;rw [hn,show in3 B.id 1 99=(decide (1≤B.id) && decide (B.id≤99)) from rfl];cases B.ports.all ptOk <;> cases (decide (1≤B.id) && decide (B.id≤99)) <;> cases (decide ((B.name.size:Int)≤10)) <;> cases in3 (n:Int) 1 6 <;> rfl

theorem zb8 (a:Option Addr) (n c:Nat) (fa:Option Addr) (fn fc:Nat) (ra:Option Addr) (rn rc:Nat) (oa:Option Addr) (on oc:Nat) (B:BR) (w:World) (h:BrRow w a n c fa fn fc ra rn rc oa on oc B) (hfn:fn≤16777216) (hR:∀r∈B.v.rows,r.Rng) :
  Calls Tryz.prog 20 #[.agg #[.int .i64 B.id,.string B.name,.slice a n c,.slice fa fn fc,.slice ra rn rc,.slice oa on oc,.int .i64 B.ticks,.int .i64 B.parse,.int .i64 B.word,.int .i64 B.drops,.int .i64 B.vers]] w fun r w'=>r=.returned (.bool (zG B))∧Below w.heap.size w w':=by
 have hle:=h.ports.le;have htop:=h.ports.top;unfold maxLen at htop;have HBO:=hide (zjr B n h.ports.size);generalize hw1:w.alloc (Obj.cells #[.int .i64 B.id,.string B.name,.slice a n c,.slice fa fn fc,.slice ra rn rc,.slice oa on oc,.int .i64 B.ticks,.int .i64 B.parse,.int .i64 B.word,.int .i64 B.drops,.int .i64 B.vers] 31)=w1;have HB:Hid (Below w.heap.size w w1):=hide (by rw [← hw1]; exact zh _ _);have kB:=zk hw1;obtain ⟨x0,x1,x2,x3,x4,x5,x6,x7,x8,x9,x10⟩:=zj kB;cases t0:(decide (1≤B.id) && decide (B.id≤99))
 ·have HQ:Hid (zG B=false):=hide (by rw [HBO.out,t0]; rfl);have T0:=hide t0;clear t0;go_enter Tryz.func20,Tryz.ntmps20;(go_wp2_with fail);refine (zz B.id 1 99 _).mono ?_;rintro r w3 ⟨rfl,ew⟩;obtain rfl:=ew.symm;rw [T0.out];go_wp2;go_ret;exact ⟨(by rw [HQ.out]; rfl),HB.out⟩
 cases t1:(decide ((B.name.size:Int)≤10))
 ·have HQ:Hid (zG B=false):=hide (by rw [HBO.out,t0,t1]; rfl);have T0:=hide t0;have T1:=hide t1;have L1:¬((B.name.size:Int)≤10):=by simpa using t1
  clear t0 t1;go_enter Tryz.func20,Tryz.ntmps20;(go_wp2_with fail);refine (zz B.id 1 99 _).mono ?_;rintro r w3 ⟨rfl,ew⟩;obtain rfl:=ew.symm;rw [T0.out];go_wp2;go_ret;exact ⟨(by rw [HQ.out]; rfl),HB.out⟩
 cases t2:(in3 (n:Int) 1 6 && B.ports.all ptOk)
 ·have HQ:Hid (zG B=false):=hide (by rw [HBO.out,t0,t1,t2]; rfl);have T0:=hide t0;have T1:=hide t1;have T2:=hide t2;have L1:((B.name.size:Int)≤10):=by simpa using t1
  clear t0 t1 t2;go_enter Tryz.func20,Tryz.ntmps20;(go_wp2_with fail);refine (zz B.id 1 99 _).mono ?_;rintro r w3 ⟨rfl,ew⟩;obtain rfl:=ew.symm;rw [T0.out];(go_wp2_with fail);refine (zbb a n c B.ports _ (h.ports.below HB.out)).mono ?_;rintro r w4 ⟨rfl,hb4⟩;rw [T2.out];have HB:=hide (zd HB.out hb4);clear x0 x1 x2 x3 x4 x5 x6 x7 x8 x9 x10;obtain ⟨x0,x1,x2,x3,x4,x5,x6,x7,x8,x9,x10⟩:=zj (ze kB hb4);have kB:=ze kB hb4;clear hb4;go_wp2;go_ret;exact ⟨(by rw [HQ.out]; rfl),HB.out⟩
 cases t3:fdbOk B.f
 ·have HQ:Hid (zG B=false):=hide (by rw [HBO.out,t0,t1,t2,t3]; rfl);have T0:=hide t0;have T1:=hide t1;have T2:=hide t2;have T3:=hide t3;have L1:((B.name.size:Int)≤10):=by simpa using t1
  clear t0 t1 t2 t3;go_enter Tryz.func20,Tryz.ntmps20;(go_wp2_with fail);refine (zz B.id 1 99 _).mono ?_;rintro r w3 ⟨rfl,ew⟩;obtain rfl:=ew.symm;rw [T0.out];(go_wp2_with fail);refine (zbb a n c B.ports _ (h.ports.below HB.out)).mono ?_;rintro r w4 ⟨rfl,hb4⟩;rw [T2.out];have HB:=hide (zd HB.out hb4);clear x0 x1 x2 x3 x4 x5 x6 x7 x8 x9 x10;obtain ⟨x0,x1,x2,x3,x4,x5,x6,x7,x8,x9,x10⟩:=zj (ze kB hb4);have kB:=ze kB hb4;clear hb4;(go_wp2_with fail);refine (zbu fa fn fc B.f _ (h.f.below HB.out) hfn).mono ?_;rintro r w5 ⟨rfl,hb5⟩;rw [T3.out];have HB:=hide (zd HB.out hb5);clear x0 x1 x2 x3 x4 x5 x6 x7 x8 x9 x10;obtain ⟨x0,x1,x2,x3,x4,x5,x6,x7,x8,x9,x10⟩:=zj (ze kB hb5);have kB:=ze kB hb5;clear hb5;go_wp2;go_ret;exact ⟨(by rw [HQ.out]; rfl),HB.out⟩
 cases t4:zO B.v (n:Int)
 ·have HQ:Hid (zG B=false):=hide (by rw [HBO.out,t0,t1,t2,t3,t4]; rfl);have T0:=hide t0;have T1:=hide t1;have T2:=hide t2;have T3:=hide t3;have T4:=hide t4;have L1:((B.name.size:Int)≤10):=by simpa using t1
  clear t0 t1 t2 t3 t4;go_enter Tryz.func20,Tryz.ntmps20;(go_wp2_with fail);refine (zz B.id 1 99 _).mono ?_;rintro r w3 ⟨rfl,ew⟩;obtain rfl:=ew.symm;rw [T0.out];(go_wp2_with fail);refine (zbb a n c B.ports _ (h.ports.below HB.out)).mono ?_;rintro r w4 ⟨rfl,hb4⟩;rw [T2.out];have HB:=hide (zd HB.out hb4);clear x0 x1 x2 x3 x4 x5 x6 x7 x8 x9 x10;obtain ⟨x0,x1,x2,x3,x4,x5,x6,x7,x8,x9,x10⟩:=zj (ze kB hb4);have kB:=ze kB hb4;clear hb4;(go_wp2_with fail);refine (zbu fa fn fc B.f _ (h.f.below HB.out) hfn).mono ?_;rintro r w5 ⟨rfl,hb5⟩;rw [T3.out];have HB:=hide (zd HB.out hb5);clear x0 x1 x2 x3 x4 x5 x6 x7 x8 x9 x10;obtain ⟨x0,x1,x2,x3,x4,x5,x6,x7,x8,x9,x10⟩:=zj (ze kB hb5);have kB:=ze kB hb5;clear hb5;(go_wp2_with fail);refine (zbP _ _ _ _ _ _ B.v (n:Int) _ (h.v.below HB.out) hR).mono ?_;rintro r w6 ⟨rfl,hb6⟩;rw [T4.out];have HB:=hide (zd HB.out hb6);clear x0 x1 x2 x3 x4 x5 x6 x7 x8 x9 x10;obtain ⟨x0,x1,x2,x3,x4,x5,x6,x7,x8,x9,x10⟩:=zj (ze kB hb6);have kB:=ze kB hb6;clear hb6;go_wp2;go_ret;exact ⟨(by rw [HQ.out]; rfl),HB.out⟩
 cases t5:zaj B.ticks B.parse B.word B.drops B.vers
 ·have HQ:Hid (zG B=false):=hide (by rw [HBO.out,t0,t1,t2,t3,t4,t5]; rfl);have T0:=hide t0;have T1:=hide t1;have T2:=hide t2;have T3:=hide t3;have T4:=hide t4;have T5:=hide t5;have L1:((B.name.size:Int)≤10):=by simpa using t1
  clear t0 t1 t2 t3 t4 t5;go_enter Tryz.func20,Tryz.ntmps20;(go_wp2_with fail);refine (zz B.id 1 99 _).mono ?_;rintro r w3 ⟨rfl,ew⟩;obtain rfl:=ew.symm;rw [T0.out];(go_wp2_with fail);refine (zbb a n c B.ports _ (h.ports.below HB.out)).mono ?_;rintro r w4 ⟨rfl,hb4⟩;rw [T2.out];have HB:=hide (zd HB.out hb4);clear x0 x1 x2 x3 x4 x5 x6 x7 x8 x9 x10;obtain ⟨x0,x1,x2,x3,x4,x5,x6,x7,x8,x9,x10⟩:=zj (ze kB hb4);have kB:=ze kB hb4;clear hb4;(go_wp2_with fail);refine (zbu fa fn fc B.f _ (h.f.below HB.out) hfn).mono ?_;rintro r w5 ⟨rfl,hb5⟩;rw [T3.out];have HB:=hide (zd HB.out hb5);clear x0 x1 x2 x3 x4 x5 x6 x7 x8 x9 x10;obtain ⟨x0,x1,x2,x3,x4,x5,x6,x7,x8,x9,x10⟩:=zj (ze kB hb5);have kB:=ze kB hb5;clear hb5;(go_wp2_with fail);refine (zbP _ _ _ _ _ _ B.v (n:Int) _ (h.v.below HB.out) hR).mono ?_;rintro r w6 ⟨rfl,hb6⟩;rw [T4.out];have HB:=hide (zd HB.out hb6);clear x0 x1 x2 x3 x4 x5 x6 x7 x8 x9 x10;obtain ⟨x0,x1,x2,x3,x4,x5,x6,x7,x8,x9,x10⟩:=zj (ze kB hb6);have kB:=ze kB hb6;clear hb6;(go_wp2_with fail);refine (zb9 _ _ _ _ _ _ B.ticks B.parse B.word B.drops B.vers _).mono ?_;rintro r w7 ⟨rfl,hb7⟩;rw [T5.out];have HB:=hide (zd HB.out hb7);clear hb7;go_wp2;go_ret;exact ⟨(by rw [HQ.out]; rfl),HB.out⟩
 have HQ:Hid (zG B=true):=hide (by rw [HBO.out,t0,t1,t2,t3,t4,t5]; rfl);have T0:=hide t0;have T1:=hide t1;have T2:=hide t2;have T3:=hide t3;have T4:=hide t4;have T5:=hide t5;have L1:((B.name.size:Int)≤10):=by simpa using t1
 clear t0 t1 t2 t3 t4 t5;go_enter Tryz.func20,Tryz.ntmps20;go_wp2_with fail
 refine (zz B.id 1 99 _).mono ?_;rintro r w3 ⟨rfl,ew⟩;obtain rfl:=ew.symm;rw [T0.out];go_wp2_with fail
 refine (zbb a n c B.ports _ (h.ports.below HB.out)).mono ?_;rintro r w4 ⟨rfl,hb4⟩;rw [T2.out];have HB:=hide (zd HB.out hb4);clear x0 x1 x2 x3 x4 x5 x6 x7 x8 x9 x10;obtain ⟨x0,x1,x2,x3,x4,x5,x6,x7,x8,x9,x10⟩:=zj (ze kB hb4);have kB:=ze kB hb4;clear hb4;go_wp2_with fail
 refine (zbu fa fn fc B.f _ (h.f.below HB.out) hfn).mono ?_;rintro r w5 ⟨rfl,hb5⟩;rw [T3.out];have HB:=hide (zd HB.out hb5);clear x0 x1 x2 x3 x4 x5 x6 x7 x8 x9 x10;obtain ⟨x0,x1,x2,x3,x4,x5,x6,x7,x8,x9,x10⟩:=zj (ze kB hb5);have kB:=ze kB hb5;clear hb5;go_wp2_with fail
 refine (zbP _ _ _ _ _ _ B.v (n:Int) _ (h.v.below HB.out) hR).mono ?_;rintro r w6 ⟨rfl,hb6⟩;rw [T4.out];have HB:=hide (zd HB.out hb6);clear x0 x1 x2 x3 x4 x5 x6 x7 x8 x9 x10;obtain ⟨x0,x1,x2,x3,x4,x5,x6,x7,x8,x9,x10⟩:=zj (ze kB hb6);have kB:=ze kB hb6;clear hb6;go_wp2_with fail
 refine (zb9 _ _ _ _ _ _ B.ticks B.parse B.word B.drops B.vers _).mono ?_;rintro r w7 ⟨rfl,hb7⟩;rw [T5.out];have HB:=hide (zd HB.out hb7);clear hb7;go_wp2;go_ret;exact ⟨(by rw [HQ.out]; rfl),HB.out⟩

end Go.Proofs.YtcpdkcdfnpcemaaGreat
