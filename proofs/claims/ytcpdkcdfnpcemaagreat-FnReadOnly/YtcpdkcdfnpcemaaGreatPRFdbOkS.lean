/-
  Whether entries are right, as the specification has it.
-/
import Derived.Test.YtcpdkcdfnpcemaaGreatPRKW
import Derived.Test.YtcpdkcdfnpcemaaGreatPRK02
namespace Go.Proofs.YtcpdkcdfnpcemaaGreat
set_option maxRecDepth 100000
set_option maxHeartbeats 16000000
open Go.RowKit

theorem zh0 (x:Int) (h : -9223372036854775808≤x∧x≤9223372036854775807):IntKind.i64.wrap x=x:=by
 rw [IntKind.wrap_i64]; omega

theorem at5 {w w':World} {b off n cap:Nat} {l:List FE} (h:GRow fentF w (some ⟨b,off,none⟩) n cap l) (hb:Below w.heap.size w w'):GRow fentF w' (some ⟨b,off,none⟩) n cap l∧∀(i:Nat) (x:FE),l[i]? = some x →
  w'.cell? ⟨b,off+i*5,none⟩=some (.int .i64 x.t)∧w'.cell? ⟨b,off+i*5+1,none⟩=some (.int .i64 x.m)∧w'.cell? ⟨b,off+i*5+2,none⟩=some (.int .i64 x.p)∧w'.cell? ⟨b,off+i*5+3,none⟩=some (.int .i64 x.a)∧w'.cell? ⟨b,off+i*5+4,none⟩=some (.bool x.s):=by
 refine ⟨h.below hb,fun i x hx => ?_⟩;have hi:i < n:=by
  have:=(List.getElem?_eq_some_iff.1 hx).1
  have:=h.size
  omega
 obtain ⟨y,b',off',hy,e,c⟩:=zbi (h.below hb) i hi;cases e;rw [hx] at hy;cases hy;exact c

theorem zQ (ao:Option Addr) (n cap:Nat) (l:List FE) (w:World) (h:GRow fentF w ao n cap l) :
  Calls Tryz.prog 128 #[.slice ao n cap] w fun r w'=>r=.returned (.bool (fdbOk l))∧Below w.heap.size w w':=by
 have hle:=h.le;have htop:=h.top;unfold maxLen at htop;have hsz:=h.size;go_enter Tryz.func128,Tryz.ntmps128;go_wp2_with fail
 go_loopw [3] (fun i wr=>∃k:Nat,k≤n∧i=.int .i64 k∧okTo l k∧Below w.heap.size w wr) (fun i _=>n - (intOf i).toNat)
 case atStart=>exact ⟨0,Nat.zero_le _,rfl,fun i x hi=>by omega,Below.refl _ _⟩
 case round =>
  obtain ⟨k,hk,rfl,hok,hb⟩:=hrel;by_cases hlt:k < n
  ·obtain ⟨x,b,off,hx,rfl,-⟩:=zbi h k hlt;have hr:=h.below hb;have vv:Below wr.heap.size wr wr.drew:=zr (Below.refl _ _);have i1:(0:Int)≤(k:Int):=by omega
   have i2:(k:Int) < (n:Int):=by omega
   have HB:=hide hb;clear hb;cases he:entOk x
   ·have HE:=hide he;have HN:=hide (zcJ (l:=l) (fun hall=>by have:=(hall k x (by omega) hx).1; rw [he] at this; cases this));clear he;(go_wp2_with fail);refine wp_region_held_drew (S:=(fun W=>zcc W b (off+k*5) (.int .i64 x.t)∧zcc W b (off+k*5+1) (.int .i64 x.m)∧zcc W b (off+k*5+2) (.int .i64 x.p)∧zcc W b (off+k*5+3) (.int .i64 x.a)∧zcc W b (off+k*5+4) (.bool x.s))) (by kernel_rfl) ((at5 hr vv).2 k x hx) (fun hHeld => ?_);refine kK 0 ?_;refine kK 1 ?_;refine kK 2 ?_;refine kK 3 ?_;refine kR 4 fun K hK => ?_
    go_simp;refine (zar x _).mono ?_;rintro r wx ⟨rfl,hbx⟩;rw [HE.out];have vv:=zd vv hbx;(go_wp2_with fail);refine kO hK ((at5 hr vv).2 k x hx) fun hHeld => ?_
    clear hK K;refine kK 5 ?_;refine kK 6 ?_;refine kN 7 ?_;refine kN 8 ?_;refine kN 9 ?_;refine kN 10 ?_;refine kN 11 ?_;refine kN 12 ?_;refine kN 13 ?_;refine kN 14 ?_;refine kN 15 ?_;refine kN 16 ?_;refine kN 17 ?_;refine kN 18 ?_;refine kN 19 ?_;refine kN 20 ?_;refine kN 21 ?_;refine kN 22 ?_;refine kN 23 ?_;refine kN 24 ?_;refine kN 25 ?_;refine kN 26 ?_;refine kN 27 ?_;refine kK 28 ?_;refine wpAnyH_done (by kernel_rfl) ?_ _;go_wp2;go_ret;exact ⟨zH HN.out.symm,zd HB.out vv⟩
   ·have HE:=hide he;by_cases hk0:k=0
    ·have HO:=hide (zcP hok hx he (fun y hy=>by omega));have hgt:¬0 < k:=by omega
     clear he hok hk0;(go_wp2_with fail);refine wp_region_held_drew (S:=(fun W=>zcc W b (off+k*5) (.int .i64 x.t)∧zcc W b (off+k*5+1) (.int .i64 x.m)∧zcc W b (off+k*5+2) (.int .i64 x.p)∧zcc W b (off+k*5+3) (.int .i64 x.a)∧zcc W b (off+k*5+4) (.bool x.s))) (by kernel_rfl) ((at5 hr vv).2 k x hx) (fun hHeld => ?_);refine kK 0 ?_;refine kK 1 ?_;refine kK 2 ?_;refine kK 3 ?_;refine kR 4 fun K hK => ?_
     go_simp;refine (zar x _).mono ?_;rintro r wx ⟨rfl,hbx⟩;rw [HE.out];have vv:=zd vv hbx;(go_wp2_with fail);refine kO hK ((at5 hr vv).2 k x hx) fun hHeld => ?_
     clear hK K;refine kK 5 ?_;refine kK 6 ?_;refine kK 7 ?_;refine kV 8 (.bool false) ?_;refine kK 9 ?_;refine kN 10 ?_;refine kN 11 ?_;refine kN 12 ?_;refine kN 13 ?_;refine kN 14 ?_;refine kN 15 ?_;refine kN 16 ?_;refine kN 17 ?_;refine kN 18 ?_;refine kN 19 ?_;refine kN 20 ?_;refine kN 21 ?_;refine kN 22 ?_;refine kN 23 ?_;refine kN 24 ?_;refine kN 25 ?_;refine kN 26 ?_;refine kK 27 ?_;refine kK 28 ?_;refine wpAnyH_done (by kernel_rfl) ?_ _;go_wp2
     go_roundw
     case rel=>exact ⟨k+1,by omega,by go_num,HO.out,zd HB.out vv⟩
     case measure=>simp [intOf]; omega
    ·obtain ⟨j,hj⟩:∃j:Nat,k=j+1:=⟨k - 1,by omega⟩;obtain ⟨y,hy⟩:∃y,l[j]? = some y:=⟨l[j]'(by omega),List.getElem?_eq_getElem (by omega)⟩;have hgt:0 < k:=by omega
     have hw:IntKind.i64.wrap ((k:Int) - 1)=(j:Int):=by rw [zh0 _ (by omega)]; omega
     have i3:(0:Int)≤(j:Int):=by omega
     have i4:(j:Int) < (n:Int):=by omega
     cases ha:ahead y x.t x.m
     ·have HA:=hide ha;have HN:=hide (zcJ (l:=l) (fun hall=>by have:=(hall k x (by omega) hx).2 y (by omega) (by rw [show k - 1=j by omega]; exact hy); rw [ha] at this; cases this));have HJ:=hide hj;clear he ha hok hk0 hj;(go_wp2_with fail);refine wp_region_held_drew (S:=(fun W=>(zcc W b (off+k*5) (.int .i64 x.t)∧zcc W b (off+k*5+1) (.int .i64 x.m)∧zcc W b (off+k*5+2) (.int .i64 x.p)∧zcc W b (off+k*5+3) (.int .i64 x.a)∧zcc W b (off+k*5+4) (.bool x.s))∧(zcc W b (off+j*5) (.int .i64 y.t)∧zcc W b (off+j*5+1) (.int .i64 y.m)∧zcc W b (off+j*5+2) (.int .i64 y.p)∧zcc W b (off+j*5+3) (.int .i64 y.a)∧zcc W b (off+j*5+4) (.bool y.s)))) (by kernel_rfl) (⟨(at5 hr vv).2 k x hx,(at5 hr vv).2 j y hy⟩) (fun hHeld => ?_);refine kK 0 ?_;refine kK 1 ?_;refine kK 2 ?_;refine kK 3 ?_;refine kR 4 fun K hK => ?_
      go_simp;refine (zar x _).mono ?_;rintro r wx ⟨rfl,hbx⟩;rw [HE.out];have vv:=zd vv hbx;(go_wp2_with fail);refine kO hK (⟨(at5 hr vv).2 k x hx,(at5 hr vv).2 j y hy⟩) fun hHeld => ?_
      clear hK K;refine kK 5 ?_;refine kK 6 ?_;refine kK 7 ?_;refine kV 8 (.bool true) ?_;refine kK 9 ?_;refine kK 10 ?_;refine kK 11 ?_;refine kK 12 ?_;refine kK 13 ?_;refine kK 14 ?_;refine kK 15 ?_;refine kK 16 ?_;refine kK 17 ?_;refine kK 18 ?_;refine kK 19 ?_;refine kK 20 ?_;refine kK 21 ?_;refine kK 22 ?_;refine kK 23 ?_;refine kK 24 ?_;refine kR 25 fun K hK => ?_
      go_simp;refine (zbw y x.t x.m _).mono ?_;rintro r wx ⟨rfl,hbx⟩;rw [HA.out];have vv:=zd vv hbx;(go_wp2_with fail);refine kO hK (⟨(at5 hr vv).2 k x hx,(at5 hr vv).2 j y hy⟩) fun hHeld => ?_
      clear hK K;refine kK 26 ?_;refine kK 27 ?_;refine kK 28 ?_;refine wpAnyH_done (by kernel_rfl) ?_ _;go_wp2;go_ret;exact ⟨zH HN.out.symm,zd HB.out vv⟩
     ·have HA:=hide ha;have HO:=hide (zcP hok hx he (fun z _ hz=>by rw [show k - 1=j by omega,hy] at hz; cases hz; exact ha));have HJ:=hide hj;clear he ha hok hk0 hj;(go_wp2_with fail);refine wp_region_held_drew (S:=(fun W=>(zcc W b (off+k*5) (.int .i64 x.t)∧zcc W b (off+k*5+1) (.int .i64 x.m)∧zcc W b (off+k*5+2) (.int .i64 x.p)∧zcc W b (off+k*5+3) (.int .i64 x.a)∧zcc W b (off+k*5+4) (.bool x.s))∧(zcc W b (off+j*5) (.int .i64 y.t)∧zcc W b (off+j*5+1) (.int .i64 y.m)∧zcc W b (off+j*5+2) (.int .i64 y.p)∧zcc W b (off+j*5+3) (.int .i64 y.a)∧zcc W b (off+j*5+4) (.bool y.s)))) (by kernel_rfl) (⟨(at5 hr vv).2 k x hx,(at5 hr vv).2 j y hy⟩) (fun hHeld => ?_);refine kK 0 ?_;refine kK 1 ?_;refine kK 2 ?_;refine kK 3 ?_;refine kR 4 fun K hK => ?_
      go_simp;refine (zar x _).mono ?_;rintro r wx ⟨rfl,hbx⟩;rw [HE.out];have vv:=zd vv hbx;(go_wp2_with fail);refine kO hK (⟨(at5 hr vv).2 k x hx,(at5 hr vv).2 j y hy⟩) fun hHeld => ?_
      clear hK K;refine kK 5 ?_;refine kK 6 ?_;refine kK 7 ?_;refine kV 8 (.bool true) ?_;refine kK 9 ?_;refine kK 10 ?_;refine kK 11 ?_;refine kK 12 ?_;refine kK 13 ?_;refine kK 14 ?_;refine kK 15 ?_;refine kK 16 ?_;refine kK 17 ?_;refine kK 18 ?_;refine kK 19 ?_;refine kK 20 ?_;refine kK 21 ?_;refine kK 22 ?_;refine kK 23 ?_;refine kK 24 ?_;refine kR 25 fun K hK => ?_
      go_simp;refine (zbw y x.t x.m _).mono ?_;rintro r wx ⟨rfl,hbx⟩;rw [HA.out];have vv:=zd vv hbx;(go_wp2_with fail);refine kO hK (⟨(at5 hr vv).2 k x hx,(at5 hr vv).2 j y hy⟩) fun hHeld => ?_
      clear hK K;refine kK 26 ?_;refine kK 27 ?_;refine kK 28 ?_;refine wpAnyH_done (by kernel_rfl) ?_ _;go_wp2
      go_roundw
      case rel=>exact ⟨k+1,by omega,by go_num,HO.out,zd HB.out vv⟩
      case measure=>simp [intOf]; omega
  ·have hkn:k=n:=by omega
   have hall:okTo l l.length:=by rw [hsz,← hkn]; exact hok
   have HF:=hide (zeV hall);have HB:=hide hb;clear hb hok hall;subst hkn;rw [hsz] at HF;go_wp2;go_ret;exact ⟨zH HF.out.symm,HB.out⟩

end Go.Proofs.YtcpdkcdfnpcemaaGreat
