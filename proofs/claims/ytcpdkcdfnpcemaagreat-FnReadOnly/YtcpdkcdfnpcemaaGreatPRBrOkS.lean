/-
  Whether a bridge is right, as the specification has it.
-/
import Derived.Test.YtcpdkcdfnpcemaaGreatPRFdbOkS
import Derived.Test.YtcpdkcdfnpcemaaGreatPRVtabOkS
namespace Go.Proofs.YtcpdkcdfnpcemaaGreat
set_option maxRecDepth 100000
set_option maxHeartbeats 16000000
open Go.RowKit

theorem zj {w:World} {g:Nat} {T:TypeId} {c0 c1 c2 c3 c4 c5 c6 c7 c8 c9 c10:Value} (h:w.heap[g]? = some (.cells #[c0,c1,c2,c3,c4,c5,c6,c7,c8,c9,c10] T)) :
  w.cell? ⟨g,0,none⟩=some c0∧w.cell? ⟨g,1,none⟩=some c1∧w.cell? ⟨g,2,none⟩=some c2∧w.cell? ⟨g,3,none⟩=some c3∧w.cell? ⟨g,4,none⟩=some c4∧w.cell? ⟨g,5,none⟩=some c5∧w.cell? ⟨g,6,none⟩=some c6∧w.cell? ⟨g,7,none⟩=some c7∧w.cell? ⟨g,8,none⟩=some c8∧w.cell? ⟨g,9,none⟩=some c9∧w.cell? ⟨g,10,none⟩=some c10:=by
 simp [World.cell?,h]

theorem zcx (v0 v1 v2 v3 v4 v5:Value) (a b c d e:Int) (w:World) :
  Calls Tryz.prog 129 #[.agg #[v0,v1,v2,v3,v4,v5,.int .i64 a,.int .i64 b,.int .i64 c,.int .i64 d,.int .i64 e]] w fun r w'=>r=.returned (.bool (zaj a b c d e))∧Below w.heap.size w w':=by
 generalize hQ:zaj a b c d e=Q;unfold zaj in1m at hQ;cases t0:(decide (0≤a) && decide (a≤1000000))
 ·have eQ:Q=false:=by rw [← hQ,t0]; rfl
  subst eQ;have T0:=hide t0;clear hQ t0;go_enter Tryz.func129,Tryz.ntmps129;(go_wp2_with fail);refine (zi a 0 1000000 _).mono ?_;rintro r w1 ⟨rfl,rfl⟩;rw [T0.out];go_wp2;go_ret;exact ⟨rfl,zh _ _⟩
 cases t1:(decide (0≤b) && decide (b≤1000000))
 ·have eQ:Q=false:=by rw [← hQ,t0,t1]; rfl
  subst eQ;have T0:=hide t0;have T1:=hide t1;clear hQ t0 t1;go_enter Tryz.func129,Tryz.ntmps129;(go_wp2_with fail);refine (zi a 0 1000000 _).mono ?_;rintro r w1 ⟨rfl,rfl⟩;rw [T0.out];(go_wp2_with fail);refine (zi b 0 1000000 _).mono ?_;rintro r w2 ⟨rfl,rfl⟩;rw [T1.out];go_wp2;go_ret;exact ⟨rfl,zh _ _⟩
 cases t2:(decide (0≤c) && decide (c≤1000000))
 ·have eQ:Q=false:=by rw [← hQ,t0,t1,t2]; rfl
  subst eQ;have T0:=hide t0;have T1:=hide t1;have T2:=hide t2;clear hQ t0 t1 t2;go_enter Tryz.func129,Tryz.ntmps129;(go_wp2_with fail);refine (zi a 0 1000000 _).mono ?_;rintro r w1 ⟨rfl,rfl⟩;rw [T0.out];(go_wp2_with fail);refine (zi b 0 1000000 _).mono ?_;rintro r w2 ⟨rfl,rfl⟩;rw [T1.out];(go_wp2_with fail);refine (zi c 0 1000000 _).mono ?_;rintro r w3 ⟨rfl,rfl⟩;rw [T2.out];go_wp2;go_ret;exact ⟨rfl,zh _ _⟩
 cases t3:(decide (0≤d) && decide (d≤1000000))
 ·have eQ:Q=false:=by rw [← hQ,t0,t1,t2,t3]; rfl
  subst eQ;have T0:=hide t0;have T1:=hide t1;have T2:=hide t2;have T3:=hide t3;clear hQ t0 t1 t2 t3;go_enter Tryz.func129,Tryz.ntmps129;(go_wp2_with fail);refine (zi a 0 1000000 _).mono ?_;rintro r w1 ⟨rfl,rfl⟩;rw [T0.out];(go_wp2_with fail);refine (zi b 0 1000000 _).mono ?_;rintro r w2 ⟨rfl,rfl⟩;rw [T1.out];(go_wp2_with fail);refine (zi c 0 1000000 _).mono ?_;rintro r w3 ⟨rfl,rfl⟩;rw [T2.out];(go_wp2_with fail);refine (zi d 0 1000000 _).mono ?_;rintro r w4 ⟨rfl,rfl⟩;rw [T3.out];go_wp2;go_ret;exact ⟨rfl,zh _ _⟩
 cases t4:(decide (0≤e) && decide (e≤1000000))
 ·have eQ:Q=false:=by rw [← hQ,t0,t1,t2,t3,t4]; rfl
  subst eQ;have T0:=hide t0;have T1:=hide t1;have T2:=hide t2;have T3:=hide t3;have T4:=hide t4;clear hQ t0 t1 t2 t3 t4;go_enter Tryz.func129,Tryz.ntmps129;(go_wp2_with fail);refine (zi a 0 1000000 _).mono ?_;rintro r w1 ⟨rfl,rfl⟩;rw [T0.out];(go_wp2_with fail);refine (zi b 0 1000000 _).mono ?_;rintro r w2 ⟨rfl,rfl⟩;rw [T1.out];(go_wp2_with fail);refine (zi c 0 1000000 _).mono ?_;rintro r w3 ⟨rfl,rfl⟩;rw [T2.out];(go_wp2_with fail);refine (zi d 0 1000000 _).mono ?_;rintro r w4 ⟨rfl,rfl⟩;rw [T3.out];(go_wp2_with fail);refine (zi e 0 1000000 _).mono ?_;rintro r w5 ⟨rfl,rfl⟩;rw [T4.out];go_wp2;go_ret;exact ⟨rfl,zh _ _⟩
 have eQ:Q=true:=by rw [← hQ,t0,t1,t2,t3,t4]; rfl
 subst eQ;have T0:=hide t0;have T1:=hide t1;have T2:=hide t2;have T3:=hide t3;have T4:=hide t4;clear hQ t0 t1 t2 t3 t4;go_enter Tryz.func129,Tryz.ntmps129;go_wp2_with fail
 refine (zi a 0 1000000 _).mono ?_;rintro r w1 ⟨rfl,rfl⟩;rw [T0.out];go_wp2_with fail
 refine (zi b 0 1000000 _).mono ?_;rintro r w2 ⟨rfl,rfl⟩;rw [T1.out];go_wp2_with fail
 refine (zi c 0 1000000 _).mono ?_;rintro r w3 ⟨rfl,rfl⟩;rw [T2.out];go_wp2_with fail
 refine (zi d 0 1000000 _).mono ?_;rintro r w4 ⟨rfl,rfl⟩;rw [T3.out];go_wp2_with fail
 refine (zi e 0 1000000 _).mono ?_;rintro r w5 ⟨rfl,rfl⟩;rw [T4.out];go_wp2;go_ret;exact ⟨rfl,zh _ _⟩

theorem zht {l:List PT} {k:Nat} {x:PT} (hx:l[k]? = some x) (h:ptOk x=false):l.all ptOk=false:=by
 rw [List.all_eq_false];exact ⟨x,List.mem_of_getElem? hx,by rw [h]; decide⟩

theorem zf8 {l:List PT} (h:∀(i:Nat) (y:PT),l[i]? = some y→ptOk y=true):l.all ptOk=true:=by
 rw [List.all_eq_true];intro x hx;obtain ⟨i,hi⟩:=List.getElem?_of_mem hx;exact h i x hi

theorem zdb (a:Option Addr) (n c:Nat) (fa:Option Addr) (fn fc:Nat) (ra:Option Addr) (rn rc:Nat) (oa:Option Addr) (on oc:Nat) (B:BR) (w:World) (h:BrRow w a n c fa fn fc ra rn rc oa on oc B) :
  Calls Tryz.prog 55 #[.agg #[.int .i64 B.id,.string B.name,.slice a n c,.slice fa fn fc,.slice ra rn rc,.slice oa on oc,.int .i64 B.ticks,.int .i64 B.parse,.int .i64 B.word,.int .i64 B.drops,.int .i64 B.vers]] w fun r w'=>r=.returned (.bool (zG B))∧Below w.heap.size w w':=by
 have hle:=h.ports.le;have htop:=h.ports.top;unfold maxLen at htop;have hsz:=hide h.ports.size;generalize hw1:w.alloc (Obj.cells #[.int .i64 B.id,.string B.name,.slice a n c,.slice fa fn fc,.slice ra rn rc,.slice oa on oc,.int .i64 B.ticks,.int .i64 B.parse,.int .i64 B.word,.int .i64 B.drops,.int .i64 B.vers] 31)=w1;have q0:=zb hw1;have kB:=zk hw1;obtain ⟨x0,x1,x2,x3,x4,x5,x6,x7,x8,x9,x10⟩:=zj kB;go_enter Tryz.func55,Tryz.ntmps55;go_wp2_with fail
 clear hw1 x0 x1 x2 x3 x4 x5 x6 x7 x8 x9 x10
 go_loopw [3] (fun i wr=>∃k:Nat,k≤n∧i=.int .i64 k∧(∀(j:Nat) (y:PT),j < k→B.ports[j]? = some y→ptOk y=true)∧Below w.heap.size w wr∧wr.heap[w.heap.size]? = some (Obj.cells #[.int .i64 B.id,.string B.name,.slice a n c,.slice fa fn fc,.slice ra rn rc,.slice oa on oc,.int .i64 B.ticks,.int .i64 B.parse,.int .i64 B.word,.int .i64 B.drops,.int .i64 B.vers] 31)) (fun i _=>n - (intOf i).toNat)
 case atStart=>exact ⟨0,Nat.zero_le _,rfl,fun j y hj=>by omega,q0,kB⟩
 case round =>
  obtain ⟨k,hk,rfl,hall,hb,kB⟩:=hrel;clear q0;obtain ⟨x0,x1,x2,x3,x4,x5,x6,x7,x8,x9,x10⟩:=zj kB;by_cases hlt:k < n
  ·obtain ⟨x,b,off,hx,rfl,c0,c1,c2,c3,c4,c5,c6,c7⟩:=pt_at (h.ports.below hb) k hlt;have i1:(0:Int)≤(k:Int):=by omega
   have i2:(k:Int) < (n:Int):=by omega
   cases hok:ptOk x
   ·have HOK:=hide hok;have HQ:Hid (zG B=false):=hide (by unfold zG; rw [zht hx hok]; rfl);have HB:=hide hb;clear hok hall hx hb;(go_wp2_with fail);refine (zc8 x _).mono ?_;rintro r w2 ⟨rfl,hb2⟩;rw [HOK.out];have HB:=hide (zd HB.out hb2);clear hb2 x0 x1 x2 x3 x4 x5 x6 x7 x8 x9 x10 c0 c1 c2 c3 c4 c5 c6 c7;go_wp2;go_ret;exact ⟨(by rw [HQ.out]; rfl),HB.out⟩
   ·have HOK:=hide hok;have HA:Hid (∀(j:Nat) (y:PT),j < k+1→B.ports[j]? = some y→ptOk y=true):=hide (by
     intro j y hj hy;by_cases e:j=k
     ·subst e;rw [hx] at hy;cases hy;exact hok
     ·exact hall j y (by omega) hy)
    have HB:=hide hb;clear hok hall hx hb;(go_wp2_with fail);refine (zc8 x _).mono ?_;rintro r w2 ⟨rfl,hb2⟩;rw [HOK.out];have HB:=hide (zd HB.out hb2);have KB:=hide (ze kB hb2);clear hb2 x0 x1 x2 x3 x4 x5 x6 x7 x8 x9 x10 c0 c1 c2 c3 c4 c5 c6 c7;go_wp2
    go_roundw
    case rel=>exact ⟨k+1,by omega,by go_num,HA.out,HB.out,KB.out⟩
    case measure=>simp [intOf]; omega
  ·have hkn:k=n:=by omega
   subst hkn;have HBO:Hid (zG B=((decide (1≤B.id) && decide (B.id≤99)) && (decide ((B.name.size:Int)≤10) && ((decide (1≤(k:Int)) && decide ((k:Int)≤6)) && (fdbOk B.f && (zO B.v (k:Int) && zaj B.ticks B.parse B.word B.drops B.vers)))))):=hide (by
    unfold zG in3;rw [hsz.out,zf8 (fun i y hy=>hall i y (by have:=(List.getElem?_eq_some_iff.1 hy).1; have:=hsz.out; omega) hy)]
    rfl)
   have HB:=hide hb;clear hall hb;cases t0:(decide (1≤B.id) && decide (B.id≤99))
   ·have HQ:Hid (zG B=false):=hide (by rw [HBO.out,t0]; rfl);have T0:=hide t0;clear t0;(go_wp2_with fail);refine (zi B.id 1 99 _).mono ?_;rintro r w3 ⟨rfl,ew⟩;obtain rfl:=ew.symm;rw [T0.out];go_wp2;go_ret;exact ⟨(by rw [HQ.out]; rfl),HB.out⟩
   cases t1:(decide ((B.name.size:Int)≤10))
   ·have HQ:Hid (zG B=false):=hide (by rw [HBO.out,t0,t1]; rfl);have T0:=hide t0;have T1:=hide t1;have L1:¬((B.name.size:Int)≤10):=by simpa using t1
    clear t0 t1;(go_wp2_with fail);refine (zi B.id 1 99 _).mono ?_;rintro r w3 ⟨rfl,ew⟩;obtain rfl:=ew.symm;rw [T0.out];go_wp2;go_ret;exact ⟨(by rw [HQ.out]; rfl),HB.out⟩
   cases t2:(decide (1≤(k:Int)) && decide ((k:Int)≤6))
   ·have HQ:Hid (zG B=false):=hide (by rw [HBO.out,t0,t1,t2]; rfl);have T0:=hide t0;have T1:=hide t1;have T2:=hide t2;have L1:((B.name.size:Int)≤10):=by simpa using t1
    clear t0 t1 t2;(go_wp2_with fail);refine (zi B.id 1 99 _).mono ?_;rintro r w3 ⟨rfl,ew⟩;obtain rfl:=ew.symm;rw [T0.out];(go_wp2_with fail);refine (zi (k:Int) 1 6 _).mono ?_;rintro r w4 ⟨rfl,ew⟩;obtain rfl:=ew.symm;rw [T2.out];go_wp2;go_ret;exact ⟨(by rw [HQ.out]; rfl),HB.out⟩
   cases t3:fdbOk B.f
   ·have HQ:Hid (zG B=false):=hide (by rw [HBO.out,t0,t1,t2,t3]; rfl);have T0:=hide t0;have T1:=hide t1;have T2:=hide t2;have T3:=hide t3;have L1:((B.name.size:Int)≤10):=by simpa using t1
    clear t0 t1 t2 t3;(go_wp2_with fail);refine (zi B.id 1 99 _).mono ?_;rintro r w3 ⟨rfl,ew⟩;obtain rfl:=ew.symm;rw [T0.out];(go_wp2_with fail);refine (zi (k:Int) 1 6 _).mono ?_;rintro r w4 ⟨rfl,ew⟩;obtain rfl:=ew.symm;rw [T2.out];(go_wp2_with fail);refine (zQ fa fn fc B.f _ (h.f.below HB.out)).mono ?_;rintro r w5 ⟨rfl,hb5⟩;rw [T3.out];have HB:=hide (zd HB.out hb5);obtain ⟨x0,x1,x2,x3,x4,x5,x6,x7,x8,x9,x10⟩:=zj (ze kB hb5);have kB:=ze kB hb5;clear hb5;go_wp2;go_ret;exact ⟨(by rw [HQ.out]; rfl),HB.out⟩
   cases t4:zO B.v (k:Int)
   ·have HQ:Hid (zG B=false):=hide (by rw [HBO.out,t0,t1,t2,t3,t4]; rfl);have T0:=hide t0;have T1:=hide t1;have T2:=hide t2;have T3:=hide t3;have T4:=hide t4;have L1:((B.name.size:Int)≤10):=by simpa using t1
    clear t0 t1 t2 t3 t4;(go_wp2_with fail);refine (zi B.id 1 99 _).mono ?_;rintro r w3 ⟨rfl,ew⟩;obtain rfl:=ew.symm;rw [T0.out];(go_wp2_with fail);refine (zi (k:Int) 1 6 _).mono ?_;rintro r w4 ⟨rfl,ew⟩;obtain rfl:=ew.symm;rw [T2.out];(go_wp2_with fail);refine (zQ fa fn fc B.f _ (h.f.below HB.out)).mono ?_;rintro r w5 ⟨rfl,hb5⟩;rw [T3.out];have HB:=hide (zd HB.out hb5);obtain ⟨x0,x1,x2,x3,x4,x5,x6,x7,x8,x9,x10⟩:=zj (ze kB hb5);have kB:=ze kB hb5;clear hb5;(go_wp2_with fail);refine (zS _ _ _ _ _ _ B.v (k:Int) _ (h.v.below HB.out)).mono ?_;rintro r w6 ⟨rfl,hb6⟩;rw [T4.out];have HB:=hide (zd HB.out hb6);obtain ⟨x0,x1,x2,x3,x4,x5,x6,x7,x8,x9,x10⟩:=zj (ze kB hb6);have kB:=ze kB hb6;clear hb6;go_wp2;go_ret;exact ⟨(by rw [HQ.out]; rfl),HB.out⟩
   cases t5:zaj B.ticks B.parse B.word B.drops B.vers
   ·have HQ:Hid (zG B=false):=hide (by rw [HBO.out,t0,t1,t2,t3,t4,t5]; rfl);have T0:=hide t0;have T1:=hide t1;have T2:=hide t2;have T3:=hide t3;have T4:=hide t4;have T5:=hide t5;have L1:((B.name.size:Int)≤10):=by simpa using t1
    clear t0 t1 t2 t3 t4 t5;(go_wp2_with fail);refine (zi B.id 1 99 _).mono ?_;rintro r w3 ⟨rfl,ew⟩;obtain rfl:=ew.symm;rw [T0.out];(go_wp2_with fail);refine (zi (k:Int) 1 6 _).mono ?_;rintro r w4 ⟨rfl,ew⟩;obtain rfl:=ew.symm;rw [T2.out];(go_wp2_with fail);refine (zQ fa fn fc B.f _ (h.f.below HB.out)).mono ?_;rintro r w5 ⟨rfl,hb5⟩;rw [T3.out];have HB:=hide (zd HB.out hb5);obtain ⟨x0,x1,x2,x3,x4,x5,x6,x7,x8,x9,x10⟩:=zj (ze kB hb5);have kB:=ze kB hb5;clear hb5;(go_wp2_with fail);refine (zS _ _ _ _ _ _ B.v (k:Int) _ (h.v.below HB.out)).mono ?_;rintro r w6 ⟨rfl,hb6⟩;rw [T4.out];have HB:=hide (zd HB.out hb6);obtain ⟨x0,x1,x2,x3,x4,x5,x6,x7,x8,x9,x10⟩:=zj (ze kB hb6);have kB:=ze kB hb6;clear hb6;(go_wp2_with fail);refine (zcx _ _ _ _ _ _ B.ticks B.parse B.word B.drops B.vers _).mono ?_;rintro r w7 ⟨rfl,hb7⟩;rw [T5.out];have HB:=hide (zd HB.out hb7);clear hb7;go_wp2;go_ret;exact ⟨(by rw [HQ.out]; rfl),HB.out⟩
   have HQ:Hid (zG B=true):=hide (by rw [HBO.out,t0,t1,t2,t3,t4,t5]; rfl);have T0:=hide t0;have T1:=hide t1;have T2:=hide t2;have T3:=hide t3;have T4:=hide t4;have T5:=hide t5;have L1:((B.name.size:Int)≤10):=by simpa using t1
   clear t0 t1 t2 t3 t4 t5;(go_wp2_with fail);refine (zi B.id 1 99 _).mono ?_;rintro r w3 ⟨rfl,ew⟩;obtain rfl:=ew.symm;rw [T0.out];(go_wp2_with fail);refine (zi (k:Int) 1 6 _).mono ?_;rintro r w4 ⟨rfl,ew⟩;obtain rfl:=ew.symm;rw [T2.out];(go_wp2_with fail);refine (zQ fa fn fc B.f _ (h.f.below HB.out)).mono ?_;rintro r w5 ⟨rfl,hb5⟩;rw [T3.out];have HB:=hide (zd HB.out hb5);obtain ⟨x0,x1,x2,x3,x4,x5,x6,x7,x8,x9,x10⟩:=zj (ze kB hb5);have kB:=ze kB hb5;clear hb5;(go_wp2_with fail);refine (zS _ _ _ _ _ _ B.v (k:Int) _ (h.v.below HB.out)).mono ?_;rintro r w6 ⟨rfl,hb6⟩;rw [T4.out];have HB:=hide (zd HB.out hb6);obtain ⟨x0,x1,x2,x3,x4,x5,x6,x7,x8,x9,x10⟩:=zj (ze kB hb6);have kB:=ze kB hb6;clear hb6;(go_wp2_with fail);refine (zcx _ _ _ _ _ _ B.ticks B.parse B.word B.drops B.vers _).mono ?_;rintro r w7 ⟨rfl,hb7⟩;rw [T5.out];have HB:=hide (zd HB.out hb7);clear hb7;go_wp2;go_ret;exact ⟨(by rw [HQ.out]; rfl),HB.out⟩

end Go.Proofs.YtcpdkcdfnpcemaaGreat
