/-
  Who is where, the program's own: whether an entry is right, whether it is behind, whether entries are right, who is found, who is next, a copy.
-/
import Derived.Test.YtcpdkcdfnpcemaaGreatPRK15
namespace Go.Proofs.YtcpdkcdfnpcemaaGreat
set_option maxRecDepth 100000
set_option maxHeartbeats 16000000
open Go.RowKit

theorem zz (n lo hi:Int) (w:World):Calls Tryz.prog 64 #[.int .i64 n,.int .i64 lo,.int .i64 hi] w fun e w'=>e=.returned (.bool (decide (lo≤n) && decide (n≤hi)))∧w'=w:=by
 by_cases h1:lo≤n
 ·by_cases h2:n≤hi
  ·rw [decide_eq_true h1,decide_eq_true h2];go_enter Tryz.func64,Tryz.ntmps64;go_wp2;go_ret;exact ⟨rfl,rfl⟩
  ·rw [decide_eq_true h1,decide_eq_false h2];go_enter Tryz.func64,Tryz.ntmps64;go_wp2;go_ret;exact ⟨rfl,rfl⟩
 ·rw [decide_eq_false h1,Bool.false_and];go_enter Tryz.func64,Tryz.ntmps64;go_wp2;go_ret;exact ⟨rfl,rfl⟩

theorem zb0 (e:FE) (w:World) :
  Calls Tryz.prog 141 #[.agg #[.int .i64 e.t,.int .i64 e.m,.int .i64 e.p,.int .i64 e.a,.bool e.s]] w fun r w'=>r=.returned (.bool (entOk e))∧Below w.heap.size w w':=by
 generalize hP:entOk e=Q;unfold entOk at hP;cases t1:(decide (1≤e.t) && decide (e.t≤99))
 ·have h:Q=false:=by rw [← hP,t1]; rfl
  subst h;have T1:=hide t1;clear hP t1;go_enter Tryz.func141,Tryz.ntmps141;(go_wp2_with fail);refine (zz e.t 1 99 _).mono ?_;rintro r w1 ⟨rfl,rfl⟩;rw [T1.out];go_wp2;go_ret;exact ⟨rfl,zh _ _⟩
 cases t2:(decide (1≤e.m) && decide (e.m≤9999))
 ·have h:Q=false:=by rw [← hP,t1,t2]; rfl
  subst h;have T1:=hide t1;have T2:=hide t2;clear hP t1 t2;go_enter Tryz.func141,Tryz.ntmps141;(go_wp2_with fail);refine (zz e.t 1 99 _).mono ?_;rintro r w1 ⟨rfl,rfl⟩;rw [T1.out];(go_wp2_with fail);refine (zz e.m 1 9999 _).mono ?_;rintro r w2 ⟨rfl,rfl⟩;rw [T2.out];go_wp2;go_ret;exact ⟨rfl,zh _ _⟩
 cases t3:(decide (0≤e.p) && decide (e.p≤7))
 ·have h:Q=false:=by rw [← hP,t1,t2,t3]; rfl
  subst h;have T1:=hide t1;have T2:=hide t2;have T3:=hide t3;clear hP t1 t2 t3;go_enter Tryz.func141,Tryz.ntmps141;(go_wp2_with fail);refine (zz e.t 1 99 _).mono ?_;rintro r w1 ⟨rfl,rfl⟩;rw [T1.out];(go_wp2_with fail);refine (zz e.m 1 9999 _).mono ?_;rintro r w2 ⟨rfl,rfl⟩;rw [T2.out];(go_wp2_with fail);refine (zz e.p 0 7 _).mono ?_;rintro r w3 ⟨rfl,rfl⟩;rw [T3.out];go_wp2;go_ret;exact ⟨rfl,zh _ _⟩
 cases t4:(decide (0≤e.a) && decide (e.a≤4))
 ·have h:Q=false:=by rw [← hP,t1,t2,t3,t4]; rfl
  subst h;have T1:=hide t1;have T2:=hide t2;have T3:=hide t3;have T4:=hide t4;clear hP t1 t2 t3 t4;go_enter Tryz.func141,Tryz.ntmps141;(go_wp2_with fail);refine (zz e.t 1 99 _).mono ?_;rintro r w1 ⟨rfl,rfl⟩;rw [T1.out];(go_wp2_with fail);refine (zz e.m 1 9999 _).mono ?_;rintro r w2 ⟨rfl,rfl⟩;rw [T2.out];(go_wp2_with fail);refine (zz e.p 0 7 _).mono ?_;rintro r w3 ⟨rfl,rfl⟩;rw [T3.out];(go_wp2_with fail);refine (zz e.a 0 4 _).mono ?_;rintro r w4 ⟨rfl,rfl⟩;rw [T4.out];go_wp2;go_ret;exact ⟨rfl,zh _ _⟩
 rw [t1,t2,t3,t4,Bool.true_and,Bool.true_and,Bool.true_and,Bool.true_and] at hP;have T1:=hide t1;have T2:=hide t2;have T3:=hide t3;have T4:=hide t4;clear t1 t2 t3 t4;cases hs:(e.a == 0)
 ·rw [hs,Bool.or_false] at hP;have HP:=hide hP;clear hP;go_enter Tryz.func141,Tryz.ntmps141;(go_wp2_with fail);refine (zz e.t 1 99 _).mono ?_;rintro r w1 ⟨rfl,rfl⟩;rw [T1.out];(go_wp2_with fail);refine (zz e.m 1 9999 _).mono ?_;rintro r w2 ⟨rfl,rfl⟩;rw [T2.out];(go_wp2_with fail);refine (zz e.p 0 7 _).mono ?_;rintro r w3 ⟨rfl,rfl⟩;rw [T3.out];(go_wp2_with fail);refine (zz e.a 0 4 _).mono ?_;rintro r w4 ⟨rfl,rfl⟩;rw [T4.out];go_wp2;go_ret;exact ⟨zH HP.out,zh _ _⟩
 ·rw [hs,Bool.or_true] at hP;subst hP;go_enter Tryz.func141,Tryz.ntmps141;(go_wp2_with fail);refine (zz e.t 1 99 _).mono ?_;rintro r w1 ⟨rfl,rfl⟩;rw [T1.out];(go_wp2_with fail);refine (zz e.m 1 9999 _).mono ?_;rintro r w2 ⟨rfl,rfl⟩;rw [T2.out];(go_wp2_with fail);refine (zz e.p 0 7 _).mono ?_;rintro r w3 ⟨rfl,rfl⟩;rw [T3.out];(go_wp2_with fail);refine (zz e.a 0 4 _).mono ?_;rintro r w4 ⟨rfl,rfl⟩;rw [T4.out];go_wp2;go_ret;exact ⟨rfl,zh _ _⟩

theorem zeO (e:FE) (t m:Int):(!ahead e t m && !both e t m)=(decide (t < e.t) || ((e.t == t) && decide (m < e.m))):=by
 rw [Bool.eq_iff_iff];simp only [Bool.and_eq_true,Bool.or_eq_true,Bool.not_eq_true',decide_eq_true_eq,beq_iff_eq];rw [zbR,zaZ];omega

theorem zct (e:FE) (t m:Int) (w:World) :
  Calls Tryz.prog 142 #[.agg #[.int .i64 e.t,.int .i64 e.m,.int .i64 e.p,.int .i64 e.a,.bool e.s],.int .i64 t,.int .i64 m] w fun r w'=>r=.returned (.bool (!ahead e t m && !both e t m))∧Below w.heap.size w w':=by
 rw [zeO];by_cases t1:t < e.t
 ·rw [decide_eq_true t1,Bool.true_or];go_enter Tryz.func142,Tryz.ntmps142;go_wp2;go_ret;exact ⟨rfl,zh _ _⟩
 ·rw [decide_eq_false t1,Bool.false_or];cases t2:(e.t == t)
  ·rw [Bool.false_and];go_enter Tryz.func142,Tryz.ntmps142;go_wp2;go_ret;exact ⟨rfl,zh _ _⟩
  ·rw [Bool.true_and];go_enter Tryz.func142,Tryz.ntmps142;go_wp2;go_ret;exact ⟨rfl,zh _ _⟩

theorem zc3 (x y:FE):(!ahead x y.t y.m && !both x y.t y.m)=ahead y x.t x.m:=by
 rw [zeO];unfold ahead;by_cases h:x.t=y.t
 ·simp [h]
 ·have h':¬y.t=x.t:=fun e=>h e.symm
  simp [h,h']

theorem zbu (ao:Option Addr) (n cap:Nat) (l:List FE) (w:World) (h:GRow fentF w ao n cap l) (_hn:n≤16777216) :
  Calls Tryz.prog 66 #[.slice ao n cap] w fun r w'=>r=.returned (.bool (fdbOk l))∧Below w.heap.size w w':=by
 have hle:=h.le;have htop:=h.top;unfold maxLen at htop;have hsz:=h.size;by_cases h12:(12:Int) < (n:Int)
 ·have hF:fdbOk l=false:=by
   unfold fdbOk;rw [decide_eq_false (show ¬(l.length:Int)≤12 by omega),Bool.and_false]
  have HF:=hide hF;clear hF;go_enter Tryz.func66,Tryz.ntmps66;go_wp2;go_ret;exact ⟨zH HF.out.symm,Below.refl _ _⟩
 go_enter Tryz.func66,Tryz.ntmps66;go_wp2_with fail
 go_loopw [10] (fun i wr=>∃k:Nat,k≤n∧i=.int .i64 k∧okTo l k∧Below w.heap.size w wr) (fun i _=>n - (intOf i).toNat)
 case atStart=>exact ⟨0,Nat.zero_le _,rfl,fun i x hi=>by omega,Below.refl _ _⟩
 case round =>
  obtain ⟨k,hk,rfl,hok,hb⟩:=hrel;by_cases hlt:k < n
  ·obtain ⟨x,b,off,hx,rfl,a0,a1,a2,a3,a4⟩:=zbi (h.below hb) k hlt;have hr:=(h.below hb).below (zh wr (.cells #[.int .i64 x.t,.int .i64 x.m,.int .i64 x.p,.int .i64 x.a,.bool x.s] 116));have kx:=zv wr (.cells #[.int .i64 x.t,.int .i64 x.m,.int .i64 x.p,.int .i64 x.a,.bool x.s] 116);have vv:Below (wr.alloc (.cells #[.int .i64 x.t,.int .i64 x.m,.int .i64 x.p,.int .i64 x.a,.bool x.s] 116)).heap.size (wr.alloc (.cells #[.int .i64 x.t,.int .i64 x.m,.int .i64 x.p,.int .i64 x.a,.bool x.s] 116)) (wr.alloc (.cells #[.int .i64 x.t,.int .i64 x.m,.int .i64 x.p,.int .i64 x.a,.bool x.s] 116)).drew:=zr (Below.refl _ _);have i1:(0:Int)≤(k:Int):=by omega
   have i2:(k:Int) < (n:Int):=by omega
   have HB:=hide (zd hb (zh wr (.cells #[.int .i64 x.t,.int .i64 x.m,.int .i64 x.p,.int .i64 x.a,.bool x.s] 116)));clear hb;cases he:entOk x
   ·have HE:=hide he;have HN:=hide (zcJ (l:=l) (fun hall=>by have:=(hall k x (by omega) hx).1; rw [he] at this; cases this));clear he;(go_wp2_with fail);refine wp_region_held_drew (S:=(fun W=>zcc W wr.heap.size 0 (.int .i64 x.t)∧zcc W wr.heap.size 1 (.int .i64 x.m)∧zcc W wr.heap.size 2 (.int .i64 x.p)∧zcc W wr.heap.size 3 (.int .i64 x.a)∧zcc W wr.heap.size 4 (.bool x.s))) (by kernel_rfl) ((zt (ze kx vv)).1) (fun hHeld => ?_);refine kK 0 ?_;refine kR 1 fun K hK => ?_
    go_simp;refine (zb0 x _).mono ?_;rintro r wx ⟨rfl,hbx⟩;rw [HE.out];have vv:=zd vv hbx;(go_wp2_with fail);refine kO hK ((zt (ze kx vv)).1) fun hHeld => ?_
    clear hK K;refine kK 2 ?_;refine kK 3 ?_;refine kN 4 ?_;refine kN 5 ?_;refine kN 6 ?_;refine kN 7 ?_;refine kN 8 ?_;refine kN 9 ?_;refine kN 10 ?_;refine kN 11 ?_;refine kN 12 ?_;refine kN 13 ?_;refine kN 14 ?_;refine kN 15 ?_;refine kN 16 ?_;refine kN 17 ?_;refine kN 18 ?_;refine kN 19 ?_;refine kN 20 ?_;refine kN 21 ?_;refine kN 22 ?_;refine kK 23 ?_;refine wpAnyH_done (by kernel_rfl) ?_ _;go_wp2;go_ret;exact ⟨zH HN.out.symm,zd HB.out vv⟩
   ·have HE:=hide he;by_cases hk0:k=0
    ·have HO:=hide (zcP hok hx he (fun y hy=>by omega));have hgt:¬0 < k:=by omega
     clear he hok hk0;(go_wp2_with fail);refine wp_region_held_drew (S:=(fun W=>zcc W wr.heap.size 0 (.int .i64 x.t)∧zcc W wr.heap.size 1 (.int .i64 x.m)∧zcc W wr.heap.size 2 (.int .i64 x.p)∧zcc W wr.heap.size 3 (.int .i64 x.a)∧zcc W wr.heap.size 4 (.bool x.s))) (by kernel_rfl) ((zt (ze kx vv)).1) (fun hHeld => ?_);refine kK 0 ?_;refine kR 1 fun K hK => ?_
     go_simp;refine (zb0 x _).mono ?_;rintro r wx ⟨rfl,hbx⟩;rw [HE.out];have vv:=zd vv hbx;(go_wp2_with fail);refine kO hK ((zt (ze kx vv)).1) fun hHeld => ?_
     clear hK K;refine kK 2 ?_;refine kK 3 ?_;refine kK 4 ?_;refine kV 5 (.bool false) ?_;refine kK 6 ?_;refine kN 7 ?_;refine kN 8 ?_;refine kN 9 ?_;refine kN 10 ?_;refine kN 11 ?_;refine kN 12 ?_;refine kN 13 ?_;refine kN 14 ?_;refine kN 15 ?_;refine kN 16 ?_;refine kN 17 ?_;refine kN 18 ?_;refine kN 19 ?_;refine kN 20 ?_;refine kN 21 ?_;refine kK 22 ?_;refine kK 23 ?_;refine wpAnyH_done (by kernel_rfl) ?_ _;go_wp2
     go_roundw
     case rel=>exact ⟨k+1,by omega,by go_num,HO.out,zd HB.out vv⟩
     case measure=>simp [intOf]; omega
    ·obtain ⟨j,hj⟩:∃j:Nat,k=j+1:=⟨k - 1,by omega⟩;obtain ⟨y,hy⟩:∃y,l[j]? = some y:=⟨l[j]'(by omega),List.getElem?_eq_getElem (by omega)⟩;have hgt:0 < k:=by omega
     have hw:IntKind.i64.wrap ((k:Int) - 1)=(j:Int):=by rw [zh0 _ (by omega)]; omega
     have i3:(0:Int)≤(j:Int):=by omega
     have i4:(j:Int) < (n:Int):=by omega
     cases ha:ahead y x.t x.m
     ·have HA:=hide ((zc3 x y).trans ha);have HN:=hide (zcJ (l:=l) (fun hall=>by have:=(hall k x (by omega) hx).2 y (by omega) (by rw [show k - 1=j by omega]; exact hy); rw [ha] at this; cases this));have HJ:=hide hj;clear he ha hok hk0 hj;(go_wp2_with fail);refine wp_region_held_drew (S:=(fun W=>(zcc W wr.heap.size 0 (.int .i64 x.t)∧zcc W wr.heap.size 1 (.int .i64 x.m)∧zcc W wr.heap.size 2 (.int .i64 x.p)∧zcc W wr.heap.size 3 (.int .i64 x.a)∧zcc W wr.heap.size 4 (.bool x.s))∧(zcc W b (off+j*5) (.int .i64 y.t)∧zcc W b (off+j*5+1) (.int .i64 y.m)∧zcc W b (off+j*5+2) (.int .i64 y.p)∧zcc W b (off+j*5+3) (.int .i64 y.a)∧zcc W b (off+j*5+4) (.bool y.s)))) (by kernel_rfl) (⟨(zt (ze kx vv)).1,(at5 hr vv).2 j y hy⟩) (fun hHeld => ?_);refine kK 0 ?_;refine kR 1 fun K hK => ?_
      go_simp;refine (zb0 x _).mono ?_;rintro r wx ⟨rfl,hbx⟩;rw [HE.out];have vv:=zd vv hbx;(go_wp2_with fail);refine kO hK (⟨(zt (ze kx vv)).1,(at5 hr vv).2 j y hy⟩) fun hHeld => ?_
      clear hK K;refine kK 2 ?_;refine kK 3 ?_;refine kK 4 ?_;refine kV 5 (.bool true) ?_;refine kK 6 ?_;refine kK 7 ?_;refine kK 8 ?_;refine kK 9 ?_;refine kK 10 ?_;refine kK 11 ?_;refine kK 12 ?_;refine kK 13 ?_;refine kK 14 ?_;refine kK 15 ?_;refine kK 16 ?_;refine kK 17 ?_;refine kK 18 ?_;refine kK 19 ?_;refine kR 20 fun K hK => ?_
      go_simp;refine (zct x y.t y.m _).mono ?_;rintro r wx ⟨rfl,hbx⟩;rw [HA.out];have vv:=zd vv hbx;(go_wp2_with fail);refine kO hK (⟨(zt (ze kx vv)).1,(at5 hr vv).2 j y hy⟩) fun hHeld => ?_
      clear hK K;refine kK 21 ?_;refine kK 22 ?_;refine kK 23 ?_;refine wpAnyH_done (by kernel_rfl) ?_ _;go_wp2;go_ret;exact ⟨zH HN.out.symm,zd HB.out vv⟩
     ·have HA:=hide ((zc3 x y).trans ha);have HO:=hide (zcP hok hx he (fun z _ hz=>by rw [show k - 1=j by omega,hy] at hz; cases hz; exact ha));have HJ:=hide hj;clear he ha hok hk0 hj;(go_wp2_with fail);refine wp_region_held_drew (S:=(fun W=>(zcc W wr.heap.size 0 (.int .i64 x.t)∧zcc W wr.heap.size 1 (.int .i64 x.m)∧zcc W wr.heap.size 2 (.int .i64 x.p)∧zcc W wr.heap.size 3 (.int .i64 x.a)∧zcc W wr.heap.size 4 (.bool x.s))∧(zcc W b (off+j*5) (.int .i64 y.t)∧zcc W b (off+j*5+1) (.int .i64 y.m)∧zcc W b (off+j*5+2) (.int .i64 y.p)∧zcc W b (off+j*5+3) (.int .i64 y.a)∧zcc W b (off+j*5+4) (.bool y.s)))) (by kernel_rfl) (⟨(zt (ze kx vv)).1,(at5 hr vv).2 j y hy⟩) (fun hHeld => ?_);refine kK 0 ?_;refine kR 1 fun K hK => ?_
      go_simp;refine (zb0 x _).mono ?_;rintro r wx ⟨rfl,hbx⟩;rw [HE.out];have vv:=zd vv hbx;(go_wp2_with fail);refine kO hK (⟨(zt (ze kx vv)).1,(at5 hr vv).2 j y hy⟩) fun hHeld => ?_
      clear hK K;refine kK 2 ?_;refine kK 3 ?_;refine kK 4 ?_;refine kV 5 (.bool true) ?_;refine kK 6 ?_;refine kK 7 ?_;refine kK 8 ?_;refine kK 9 ?_;refine kK 10 ?_;refine kK 11 ?_;refine kK 12 ?_;refine kK 13 ?_;refine kK 14 ?_;refine kK 15 ?_;refine kK 16 ?_;refine kK 17 ?_;refine kK 18 ?_;refine kK 19 ?_;refine kR 20 fun K hK => ?_
      go_simp;refine (zct x y.t y.m _).mono ?_;rintro r wx ⟨rfl,hbx⟩;rw [HA.out];have vv:=zd vv hbx;(go_wp2_with fail);refine kO hK (⟨(zt (ze kx vv)).1,(at5 hr vv).2 j y hy⟩) fun hHeld => ?_
      clear hK K;refine kK 21 ?_;refine kK 22 ?_;refine kK 23 ?_;refine wpAnyH_done (by kernel_rfl) ?_ _;go_wp2
      go_roundw
      case rel=>exact ⟨k+1,by omega,by go_num,HO.out,zd HB.out vv⟩
      case measure=>simp [intOf]; omega
  ·have hkn:k=n:=by omega
   have hall:okTo l l.length:=by rw [hsz,← hkn]; exact hok
   have hF:fdbOk l=true:=by
    rw [zeV hall];exact decide_eq_true (by omega)
   have HF:=hide hF;have HB:=hide hb;clear hb hok hall hF;subst hkn;go_wp2;go_ret;exact ⟨zH HF.out.symm,HB.out⟩

end Go.Proofs.YtcpdkcdfnpcemaaGreat
