/-
  FnExactStep answers true at all arguments: Step answers as the specification; it writes into no argument; its answer owns its memory, behind another call too.
-/
import Derived.Test.YtpaneiaflfegoaaGreatPSKW
import Derived.Test.YtpaneiaflfegoaaGreatPSK01
import Derived.Test.YtpaneiaflfegoaaGreatPSK03
import Derived.Test.YtpaneiaflfegoaaGreatPSK07
import Derived.Test.YtpaneiaflfegoaaGreatPSK40
import Derived.Test.YtpaneiaflfegoaaGreatPSStepStepI
import Derived.Test.YtpaneiaflfegoaaGreatPSStepStepS
import Derived.Deep.CutRange
import Derived.WalkKit
import Derived.ProofKit
import Derived.OpenShut
import Derived.ShutString
import Derived.ChangeOld
import Derived.Below
import Derived.Lib.SmallJoins
namespace Go.Proofs.YtpaneiaflfegoaaGreat
set_option maxRecDepth 100000
set_option maxHeartbeats 16000000
open Go.RowKit

abbrev q460:Oper:=⟨some 23,.call ⟨.value (.func 7),#[.tmp 22],#[26]⟩,34,"exact.go:4361",#[⟨0,.data⟩],none⟩
abbrev q461:Oper:=⟨some 25,.call ⟨.value (.func 8),#[.tmp 24],#[28]⟩,38,"exact.go:4361",#[⟨2,.data⟩,⟨1,.chain⟩],none⟩
abbrev q462:Oper:=⟨some 26,.call ⟨.value (.func 6),#[.tmp 23,.tmp 25],#[34,38]⟩,35,"exact.go:4361",#[⟨1,.data⟩,⟨3,.data⟩,⟨3,.chain⟩],none⟩
abbrev q463:Oper:=⟨some 21,.move (.tmp 26),35,"exact.go:4361",#[⟨4,.data⟩],none⟩
abbrev q464:Oper:=⟨some 27,.extract (.tmp 21) 0,34,"exact.go:4361",#[⟨5,.data⟩],none⟩
abbrev q465:Oper:=⟨some 28,.extract (.tmp 21) 1,4,"exact.go:4361",#[⟨5,.data⟩,{ on:=9,ground:=Ground.gcOnly Departure.lateStores }],none⟩
abbrev q466:Oper:=⟨some 6,.alloc 34,0,"exact.go:4361",#[],none⟩
abbrev q467:Oper:=⟨none,.store 34 (.tmp 6) (.tmp 27),0,"exact.go:4361",#[⟨8,.data⟩,⟨6,.data⟩,⟨4,.chain⟩,⟨0,.phase⟩,⟨1,.phase⟩,⟨2,.phase⟩,⟨3,.phase⟩,⟨4,.phase⟩,⟨5,.phase⟩,⟨6,.phase⟩,{ on:=7,ground:=Ground.textOnly Departure.lateStores },⟨8,.phase⟩],none⟩
abbrev q468:Oper:=⟨some 7,.assign (.tmp 28),4,"exact.go:4361",#[⟨7,.data⟩,⟨9,.chain⟩,⟨0,.phase⟩,⟨1,.phase⟩,⟨2,.phase⟩,⟨3,.phase⟩,⟨4,.phase⟩,⟨5,.phase⟩,⟨6,.phase⟩,⟨7,.phase⟩,⟨8,.phase⟩,⟨9,.phase⟩],none⟩
abbrev q469:Oper:=⟨some 34,.call ⟨.value (.func 8),#[.tmp 33],#[28]⟩,38,"exact.go:4363",#[⟨1,.data⟩],none⟩
abbrev q470:Oper:=⟨some 35,.call ⟨.value (.func 9),#[.tmp 32,.tmp 34],#[34,38]⟩,35,"exact.go:4363",#[⟨0,.data⟩,⟨2,.data⟩,⟨2,.chain⟩],none⟩
abbrev q471:Oper:=⟨some 31,.move (.tmp 35),35,"exact.go:4363",#[⟨3,.data⟩],none⟩
abbrev q472:Oper:=⟨some 36,.extract (.tmp 31) 0,34,"exact.go:4363",#[⟨4,.data⟩],none⟩
abbrev q473:Oper:=⟨some 37,.extract (.tmp 31) 1,4,"exact.go:4363",#[⟨4,.data⟩,{ on:=8,ground:=Ground.gcOnly Departure.lateStores }],none⟩
abbrev q474:Oper:=⟨some 9,.alloc 34,0,"exact.go:4363",#[],none⟩
abbrev q475:Oper:=⟨none,.store 34 (.tmp 9) (.tmp 36),0,"exact.go:4363",#[⟨7,.data⟩,⟨5,.data⟩,⟨3,.chain⟩,⟨0,.phase⟩,⟨1,.phase⟩,⟨2,.phase⟩,⟨3,.phase⟩,⟨4,.phase⟩,⟨5,.phase⟩,{ on:=6,ground:=Ground.textOnly Departure.lateStores },⟨7,.phase⟩],none⟩
abbrev q476:Oper:=⟨some 10,.assign (.tmp 37),4,"exact.go:4363",#[⟨6,.data⟩,⟨8,.chain⟩,⟨0,.phase⟩,⟨1,.phase⟩,⟨2,.phase⟩,⟨3,.phase⟩,⟨4,.phase⟩,⟨5,.phase⟩,⟨6,.phase⟩,⟨7,.phase⟩,⟨8,.phase⟩],none⟩
abbrev q477:Oper:=⟨some 81,.call ⟨.value (.func 7),#[.tmp 80],#[26]⟩,34,"exact.go:4385",#[⟨0,.data⟩],none⟩
abbrev q478:Oper:=⟨some 83,.call ⟨.value (.func 8),#[.tmp 82],#[28]⟩,38,"exact.go:4385",#[⟨2,.data⟩,⟨1,.chain⟩],none⟩
abbrev q479:Oper:=⟨some 84,.call ⟨.value (.func 9),#[.tmp 81,.tmp 83],#[34,38]⟩,35,"exact.go:4385",#[⟨1,.data⟩,⟨3,.data⟩,⟨3,.chain⟩],none⟩
abbrev q480:Oper:=⟨some 79,.move (.tmp 84),35,"exact.go:4385",#[⟨4,.data⟩],none⟩
abbrev q481:Oper:=⟨some 85,.extract (.tmp 79) 0,34,"exact.go:4385",#[⟨5,.data⟩],none⟩
abbrev q482:Oper:=⟨some 86,.extract (.tmp 79) 1,4,"exact.go:4385",#[⟨5,.data⟩,{ on:=9,ground:=Ground.gcOnly Departure.lateStores }],none⟩
abbrev q483:Oper:=⟨some 14,.alloc 34,0,"exact.go:4385",#[],none⟩
abbrev q484:Oper:=⟨none,.store 34 (.tmp 14) (.tmp 85),0,"exact.go:4385",#[⟨8,.data⟩,⟨6,.data⟩,⟨4,.chain⟩,⟨0,.phase⟩,⟨1,.phase⟩,⟨2,.phase⟩,⟨3,.phase⟩,⟨4,.phase⟩,⟨5,.phase⟩,⟨6,.phase⟩,{ on:=7,ground:=Ground.textOnly Departure.lateStores },⟨8,.phase⟩],none⟩
abbrev q485:Oper:=⟨some 15,.assign (.tmp 86),4,"exact.go:4385",#[⟨7,.data⟩,⟨9,.chain⟩,⟨0,.phase⟩,⟨1,.phase⟩,⟨2,.phase⟩,⟨3,.phase⟩,⟨4,.phase⟩,⟨5,.phase⟩,⟨6,.phase⟩,⟨7,.phase⟩,⟨8,.phase⟩,⟨9,.phase⟩],none⟩

theorem zew (N0:NV) (kd i:Int) (w:World) (h0:zak w N0) (g0:N0.Rng) :
  Calls Tryz.prog 3 #[.agg #[.slice N0.ba N0.bn N0.bc,.slice N0.la N0.ln N0.lc,.slice N0.sa N0.sn N0.sc],.agg #[.int .i64 kd,.int .i64 i]] w fun e w'=>e=.returned (.bool true)∧Below w.heap.size w w':=by
 generalize hwB:w.alloc (Obj.cells #[.slice N0.ba N0.bn N0.bc,.slice N0.la N0.ln N0.lc,.slice N0.sa N0.sn N0.sc] 26)=wB;generalize hwA:wB.alloc (Obj.cells #[.int .i64 kd,.int .i64 i] 28)=wA;have uB:=zb hwB;have bA:=zb hwA;have uA:=zc uB bA;have kA:=za (zk hwB) bA;have kV:=zk hwA;have HEB:Hid (wB.heap.size=w.heap.size+1):=hide (by rw [← hwB]; simp);have HZA:Hid (wA.heap.size=w.heap.size+2):=hide (by rw [← hwA,← hwB]; simp);obtain ⟨x0,x1,x2⟩:=zy kA;by_cases gb:¬sizeN N0≤1048576
 ·go_enter Tryz.func3,Tryz.ntmps3;(go_wp2_with fail);refine (zgA N0 1048576 _ (h0.below uA) g0 (by omega) (by omega)).mono ?_;rintro e w1 ⟨rfl,hb1⟩;rw [if_neg (show ¬sizeN N0≤1048576 by omega)];have HB:=hide (zc uA hb1);clear x0 x1 x2;go_wp2;go_ret;exact ⟨rfl,HB.out⟩
 have gb:sizeN N0≤1048576:=by omega
 have gs:¬((1048576:Int) - sizeN N0 < 0):=by omega
 have HRG:Hid (∀B∈N0.brs,B.Rg):=hide (ziI g0.b);go_enter Tryz.func3,Tryz.ntmps3;go_wp2_with fail
 refine (zgA N0 1048576 _ (h0.below uA) g0 (by omega) (by omega)).mono ?_;rintro e w1 ⟨rfl,hb1⟩;rw [if_pos gb];have kA:=za kA hb1;have kV:=za kV hb1;have u1:=zc uA hb1;have HZ1:Hid (w.heap.size+1 < w1.heap.size):=hide (by have:=hb1.size; have:=HZA.out; omega);generalize hEB:wB.heap.size=EB at *;clear hb1 x0 x1 x2 hwA hwB bA uB uA hEB;have HZ:=hide gb;generalize hSZ:sizeN N0=SZ at gs;clear gb hSZ;go_upto_region 5 with fail
 go_cut [6,7] from 21 to 28 (fun v6 v7 wx=>∃(Y4:Nat) (M4:NV) (q4:Bool),v6=.pointer (some ⟨Y4,0,none⟩)∧v7=.bool q4∧wx.heap[Y4]?=some (.cells #[.slice M4.ba M4.bn M4.bc,.slice M4.la M4.ln M4.lc,.slice M4.sa M4.sn M4.sc] 34)∧NOwn wx w1.heap.size M4∧zal N0 kd i M4 q4∧Below w1.heap.size w1 wx)
 case first =>
  have vv:Below w1.heap.size w1 w1.drew:=zq (Below.refl _ _);refine wp_region_held_drew (S:=(fun W=>(W.cell? ⟨w.heap.size,0,none⟩=some (.slice N0.ba N0.bn N0.bc)∧W.cell? ⟨w.heap.size,1,none⟩=some (.slice N0.la N0.ln N0.lc)∧W.cell? ⟨w.heap.size,2,none⟩=some (.slice N0.sa N0.sn N0.sc))∧(W.cell? ⟨EB,0,none⟩=some (.int .i64 kd)∧W.cell? ⟨EB,1,none⟩=some (.int .i64 i)))) (by kernel_rfl) (⟨zy (za kA vv),zg (za kV vv)⟩) (fun hHeld => ?_);refine kK 0 ⟨some 22,.load 26 (.tmp 2),26,"exact.go:4361",#[],none⟩ ?_;refine kK 2 ⟨some 24,.load 28 (.tmp 3),28,"exact.go:4361",#[],none⟩ ?_;refine tR [1,8] ?_;refine AllReadyH.cons (o:=q460) rfl (fun K hK => ?_) ?_
  ·go_simp;refine (zca N0 _ (h0.below (zc u1 vv)) HZ.out).mono ?_;rintro r wz1 ⟨M2,rfl,o2,s2,z2,hbz⟩;(try have kY:=za kY hbz);have vv:=zc vv hbz;(go_wp2_with fail);refine hK.out _ _ (⟨zy (za kA vv),zg (za kV vv)⟩) (fun hHeld => ?_);clear hK K;(try simp only [Act.put,lA,lB,lC]);refine tR [3,8] ?_;refine AllReadyH.cons (o:=q461) rfl (fun K hK => ?_) ?_
   ·go_simp;refine (za2 kd i _).mono ?_;rintro r wz2 ⟨rfl,hbz⟩;have o2:=o2.below hbz;(try have kY:=za kY hbz);have vv:=zc vv hbz;(go_wp2_with fail);refine hK.out _ _ (⟨zy (za kA vv),zg (za kV vv)⟩) (fun hHeld => ?_);clear hK K;(try simp only [Act.put,lA,lB,lC]);refine tR [4,8] ?_;refine AllReadyH.cons (o:=q462) rfl (fun K hK => ?_) ?_
    ·go_simp;have hz:=(zaQ o2.row (by rw [z2]; exact HZ.out));refine (zbN M2 kd i _ o2.row hz.n hz.l hz.s hz.m (by rw [show M2.brs=N0.brs from s2.b]; exact fun B hB=>(HRG.out B hB).1)).mono ?_;rintro r wz3 ⟨M4,q4,rfl,n4,r4,hbz⟩;have n4:=n4.lt (base':=w1.heap.size) vv.size;(try have kY:=za kY hbz);have vv:=zc vv hbz;(go_wp2_with fail);refine hK.out _ _ (⟨zy (za kA vv),zg (za kV vv)⟩) (fun hHeld => ?_);clear hK K;(try simp only [Act.put,lA,lB,lC]);refine kK 5 q463 ?_;refine kK 6 q464 ?_;refine kK 7 q465 ?_;refine kR 8 q466 (fun K hK => ?_);go_simp
     first
     | refine zt (K:=K _) (fun wx kY hbz => ?_)
     | refine zo (K:=K _) (fun wx kY hbz => ?_)
     have gY:w1.heap.size≤_:=vv.size;(try have o2:=o2.below hbz);(try have n4:=n4.below hbz);have vv:=zc vv hbz;refine hK.out _ _ (⟨zy (za kA vv),zg (za kV vv)⟩) (fun hHeld => ?_);clear hK K;(try simp only [Act.put,lA,lB,lC]);refine kR 9 q467 (fun K hK => ?_);obtain ⟨xx0,xx1,xx2⟩:=zd kY;have ff0:=ze kY 0;have ff1:=ze kY 1;have ff2:=ze kY 2;go_simp;refine zZ (K:=K _) kY _ _ _ (fun wq kQ hgq => ?_);have n4:=n4.boxed kY hgq;have vv:=vv.grown hgq vv.size (by intro j e; cases e; exact gY);refine hK.out _ _ (⟨zy (za kA vv),zg (za kV vv)⟩) (fun hHeld => ?_);clear hK K;(try simp only [Act.put,lA,lB,lC]);refine kK 10 q468 ?_;refine wpAnyH_done (by kernel_rfl) ?_ _;clear hHeld;(go_wp2_with fail)
     go_meet
     exact ⟨_,M4,q4,rfl,rfl,kQ,n4,za1 s2 r4,vv⟩
    refine AllReadyH.cons (o:=q466) rfl (fun K hK => ?_) ?_
    ·go_simp
     first
     | refine zt (K:=K _) (fun wx kY hbz => ?_)
     | refine zo (K:=K _) (fun wx kY hbz => ?_)
     have gY:w1.heap.size≤_:=vv.size;(try have o2:=o2.below hbz);(try have n4:=n4.below hbz);have vv:=zc vv hbz;refine hK.out _ _ (⟨zy (za kA vv),zg (za kV vv)⟩) (fun hHeld => ?_);clear hK K;(try simp only [Act.put,lA,lB,lC]);refine kR 4 q462 (fun K hK => ?_);go_simp;have hz:=(zaQ o2.row (by rw [z2]; exact HZ.out));refine (zbN M2 kd i _ o2.row hz.n hz.l hz.s hz.m (by rw [show M2.brs=N0.brs from s2.b]; exact fun B hB=>(HRG.out B hB).1)).mono ?_;rintro r wz3 ⟨M4,q4,rfl,n4,r4,hbz⟩;have n4:=n4.lt (base':=w1.heap.size) vv.size;(try have kY:=za kY hbz);have vv:=zc vv hbz;(go_wp2_with fail);refine hK.out _ _ (⟨zy (za kA vv),zg (za kV vv)⟩) (fun hHeld => ?_);clear hK K;(try simp only [Act.put,lA,lB,lC]);refine kK 5 q463 ?_;refine kK 6 q464 ?_;refine kK 7 q465 ?_;refine kR 9 q467 (fun K hK => ?_);obtain ⟨xx0,xx1,xx2⟩:=zd kY;have ff0:=ze kY 0;have ff1:=ze kY 1;have ff2:=ze kY 2;go_simp;refine zZ (K:=K _) kY _ _ _ (fun wq kQ hgq => ?_);have n4:=n4.boxed kY hgq;have vv:=vv.grown hgq vv.size (by intro j e; cases e; exact gY);refine hK.out _ _ (⟨zy (za kA vv),zg (za kV vv)⟩) (fun hHeld => ?_);clear hK K;(try simp only [Act.put,lA,lB,lC]);refine kK 10 q468 ?_;refine wpAnyH_done (by kernel_rfl) ?_ _;clear hHeld;(go_wp2_with fail)
     go_meet
     exact ⟨_,M4,q4,rfl,rfl,kQ,n4,za1 s2 r4,vv⟩
    exact AllReadyH.nil
   refine AllReadyH.cons (o:=q466) rfl (fun K hK => ?_) ?_
   ·go_simp
    first
    | refine zt (K:=K _) (fun wx kY hbz => ?_)
    | refine zo (K:=K _) (fun wx kY hbz => ?_)
    have gY:w1.heap.size≤_:=vv.size;(try have o2:=o2.below hbz);(try have n4:=n4.below hbz);have vv:=zc vv hbz;refine hK.out _ _ (⟨zy (za kA vv),zg (za kV vv)⟩) (fun hHeld => ?_);clear hK K;(try simp only [Act.put,lA,lB,lC]);refine kR 3 q461 (fun K hK => ?_);go_simp;refine (za2 kd i _).mono ?_;rintro r wz2 ⟨rfl,hbz⟩;have o2:=o2.below hbz;(try have kY:=za kY hbz);have vv:=zc vv hbz;(go_wp2_with fail);refine hK.out _ _ (⟨zy (za kA vv),zg (za kV vv)⟩) (fun hHeld => ?_);clear hK K;(try simp only [Act.put,lA,lB,lC]);refine kR 4 q462 (fun K hK => ?_);go_simp;have hz:=(zaQ o2.row (by rw [z2]; exact HZ.out));refine (zbN M2 kd i _ o2.row hz.n hz.l hz.s hz.m (by rw [show M2.brs=N0.brs from s2.b]; exact fun B hB=>(HRG.out B hB).1)).mono ?_;rintro r wz3 ⟨M4,q4,rfl,n4,r4,hbz⟩;have n4:=n4.lt (base':=w1.heap.size) vv.size;(try have kY:=za kY hbz);have vv:=zc vv hbz;(go_wp2_with fail);refine hK.out _ _ (⟨zy (za kA vv),zg (za kV vv)⟩) (fun hHeld => ?_);clear hK K;(try simp only [Act.put,lA,lB,lC]);refine kK 5 q463 ?_;refine kK 6 q464 ?_;refine kK 7 q465 ?_;refine kR 9 q467 (fun K hK => ?_);obtain ⟨xx0,xx1,xx2⟩:=zd kY;have ff0:=ze kY 0;have ff1:=ze kY 1;have ff2:=ze kY 2;go_simp;refine zZ (K:=K _) kY _ _ _ (fun wq kQ hgq => ?_);have n4:=n4.boxed kY hgq;have vv:=vv.grown hgq vv.size (by intro j e; cases e; exact gY);refine hK.out _ _ (⟨zy (za kA vv),zg (za kV vv)⟩) (fun hHeld => ?_);clear hK K;(try simp only [Act.put,lA,lB,lC]);refine kK 10 q468 ?_;refine wpAnyH_done (by kernel_rfl) ?_ _;clear hHeld;(go_wp2_with fail)
    go_meet
    exact ⟨_,M4,q4,rfl,rfl,kQ,n4,za1 s2 r4,vv⟩
   exact AllReadyH.nil
  refine AllReadyH.cons (o:=q466) rfl (fun K hK => ?_) ?_
  ·go_simp
   first
   | refine zt (K:=K _) (fun wx kY hbz => ?_)
   | refine zo (K:=K _) (fun wx kY hbz => ?_)
   have gY:w1.heap.size≤_:=vv.size;(try have o2:=o2.below hbz);(try have n4:=n4.below hbz);have vv:=zc vv hbz;refine hK.out _ _ (⟨zy (za kA vv),zg (za kV vv)⟩) (fun hHeld => ?_);clear hK K;(try simp only [Act.put,lA,lB,lC]);refine kR 1 q460 (fun K hK => ?_);go_simp;refine (zca N0 _ (h0.below (zc u1 vv)) HZ.out).mono ?_;rintro r wz1 ⟨M2,rfl,o2,s2,z2,hbz⟩;(try have kY:=za kY hbz);have vv:=zc vv hbz;(go_wp2_with fail);refine hK.out _ _ (⟨zy (za kA vv),zg (za kV vv)⟩) (fun hHeld => ?_);clear hK K;(try simp only [Act.put,lA,lB,lC]);refine kR 3 q461 (fun K hK => ?_);go_simp;refine (za2 kd i _).mono ?_;rintro r wz2 ⟨rfl,hbz⟩;have o2:=o2.below hbz;(try have kY:=za kY hbz);have vv:=zc vv hbz;(go_wp2_with fail);refine hK.out _ _ (⟨zy (za kA vv),zg (za kV vv)⟩) (fun hHeld => ?_);clear hK K;(try simp only [Act.put,lA,lB,lC]);refine kR 4 q462 (fun K hK => ?_);go_simp;have hz:=(zaQ o2.row (by rw [z2]; exact HZ.out));refine (zbN M2 kd i _ o2.row hz.n hz.l hz.s hz.m (by rw [show M2.brs=N0.brs from s2.b]; exact fun B hB=>(HRG.out B hB).1)).mono ?_;rintro r wz3 ⟨M4,q4,rfl,n4,r4,hbz⟩;have n4:=n4.lt (base':=w1.heap.size) vv.size;(try have kY:=za kY hbz);have vv:=zc vv hbz;(go_wp2_with fail);refine hK.out _ _ (⟨zy (za kA vv),zg (za kV vv)⟩) (fun hHeld => ?_);clear hK K;(try simp only [Act.put,lA,lB,lC]);refine kK 5 q463 ?_;refine kK 6 q464 ?_;refine kK 7 q465 ?_;refine kR 9 q467 (fun K hK => ?_);obtain ⟨xx0,xx1,xx2⟩:=zd kY;have ff0:=ze kY 0;have ff1:=ze kY 1;have ff2:=ze kY 2;go_simp;refine zZ (K:=K _) kY _ _ _ (fun wq kQ hgq => ?_);have n4:=n4.boxed kY hgq;have vv:=vv.grown hgq vv.size (by intro j e; cases e; exact gY);refine hK.out _ _ (⟨zy (za kA vv),zg (za kV vv)⟩) (fun hHeld => ?_);clear hK K;(try simp only [Act.put,lA,lB,lC]);refine kK 10 q468 ?_;refine wpAnyH_done (by kernel_rfl) ?_ _;clear hHeld;(go_wp2_with fail)
   go_meet
   exact ⟨_,M4,q4,rfl,rfl,kQ,n4,za1 s2 r4,vv⟩
  exact AllReadyH.nil
 case rest =>
  obtain ⟨YS,M4,q4,rfl,rfl,kS,n4,r4,d⟩:=hcut;obtain ⟨wS,hwS⟩:∃u,u=wc:=⟨_,rfl⟩;subst hwS;have rS:=n4.row;have kA:=za kA d;have kV:=za kV d;have uS:=zc u1 d;have R4:=hide r4;have HZS:Hid (w.heap.size+1 < wS.heap.size):=hide (by have:=d.size; have:=HZ1.out; omega);clear d r4 n4 u1;obtain ⟨x0,x1,x2⟩:=zy kA;(go_wp2_with fail);refine (zca N0 _ (h0.below uS) HZ.out).mono ?_;rintro e w6 ⟨M6,rfl,o6,s6,z6,hb6⟩;generalize hwX:w6.alloc (Obj.cells #[.slice M6.ba M6.bn M6.bc,.slice M6.la M6.ln M6.lc,.slice M6.sa M6.sn M6.sc] 34)=wX;have bX:=zb hwX;have kX:=zk hwX;have o6:=o6.below bX;have pS:=zc hb6 bX;have kA:=za kA pS;have kV:=za kV pS;have uX:=zc uS pS;have hz6:=zaQ o6.row (by rw [z6]; exact HZ.out);have HF6:=hide (zh3 o6.row (by rw [z6]; exact HZ.out));have HU6:Hid (w.heap.size≤wS.heap.size):=hide uS.size;have HU7:Hid (w.heap.size+1 < wS.heap.size∧EB=w.heap.size+1):=hide ⟨HZS.out,HEB.out⟩;have HX6:Hid (∀b∈M6.blksA,b < wX.heap.size):=hide (fun b hb=>(o6.blk b hb).2);clear hb6 bX x0 x1 x2 z6;generalize hXX:w6.heap.size=X at *;(go_upto_region 7 with fail)
  go_cut [9,10] from 31 to 37 (fun v9 v10 wx=>∃(Y8:Nat) (M8:NV) (q8:Bool),v9=.pointer (some ⟨Y8,0,none⟩)∧v10=.bool q8∧wx.heap[Y8]?=some (.cells #[.slice M8.ba M8.bn M8.bc,.slice M8.la M8.ln M8.lc,.slice M8.sa M8.sn M8.sc] 34)∧NOwn wx wX.heap.size M8∧zal N0 kd i M8 q8∧Below wX.heap.size wX wx)
  case first =>
   have vv:Below wX.heap.size wX wX.drew:=zq (Below.refl _ _);refine wp_region_held_drew (S:=(fun W=>(W.cell? ⟨X,0,none⟩=some (.slice M6.ba M6.bn M6.bc)∧W.cell? ⟨X,1,none⟩=some (.slice M6.la M6.ln M6.lc)∧W.cell? ⟨X,2,none⟩=some (.slice M6.sa M6.sn M6.sc))∧(W.cell? ⟨EB,0,none⟩=some (.int .i64 kd)∧W.cell? ⟨EB,1,none⟩=some (.int .i64 i)))) (by kernel_rfl) (⟨zy (za kX vv),zg (za kV vv)⟩) (fun hHeld => ?_);refine kK 0 ⟨some 32,.load 34 (.tmp 8),34,"exact.go:4363",#[],none⟩ ?_;refine kK 1 ⟨some 33,.load 28 (.tmp 3),28,"exact.go:4363",#[],none⟩ ?_;refine tR [2,7] ?_;refine AllReadyH.cons (o:=q469) rfl (fun K hK => ?_) ?_
   ·go_simp;refine (za2 kd i _).mono ?_;rintro r wz2 ⟨rfl,hbz⟩;(try have kY:=za kY hbz);have vv:=zc vv hbz;(go_wp2_with fail);refine hK.out _ _ (⟨zy (za kX vv),zg (za kV vv)⟩) (fun hHeld => ?_);clear hK K;(try simp only [Act.put,lA,lB,lC]);refine tR [3,7] ?_;refine AllReadyH.cons (o:=q470) rfl (fun K hK => ?_) ?_
    ·go_simp;have hz:=hz6;refine (zaO M6 kd i _ (o6.below vv).row hz.n hz.l hz.s hz.m (by rw [show M6.brs=N0.brs from s6.b]; exact HRG.out)).mono ?_;rintro r wz3 ⟨M8,q8,rfl,n4,r4,hbz⟩;have n4:=n4.lt (base':=wX.heap.size) vv.size;(try have kY:=za kY hbz);have vv:=zc vv hbz;(go_wp2_with fail);refine hK.out _ _ (⟨zy (za kX vv),zg (za kV vv)⟩) (fun hHeld => ?_);clear hK K;(try simp only [Act.put,lA,lB,lC]);refine kK 4 q471 ?_;refine kK 5 q472 ?_;refine kK 6 q473 ?_;refine kR 7 q474 (fun K hK => ?_);go_simp
     first
     | refine zt (K:=K _) (fun wx kY hbz => ?_)
     | refine zo (K:=K _) (fun wx kY hbz => ?_)
     have gY:wX.heap.size≤_:=vv.size;(try have o2:=o2.below hbz);(try have n4:=n4.below hbz);have vv:=zc vv hbz;refine hK.out _ _ (⟨zy (za kX vv),zg (za kV vv)⟩) (fun hHeld => ?_);clear hK K;(try simp only [Act.put,lA,lB,lC]);refine kR 8 q475 (fun K hK => ?_);obtain ⟨xx0,xx1,xx2⟩:=zd kY;have ff0:=ze kY 0;have ff1:=ze kY 1;have ff2:=ze kY 2;go_simp;refine zZ (K:=K _) kY _ _ _ (fun wq kQ hgq => ?_);have n4:=n4.boxed kY hgq;have vv:=vv.grown hgq vv.size (by intro j e; cases e; exact gY);refine hK.out _ _ (⟨zy (za kX vv),zg (za kV vv)⟩) (fun hHeld => ?_);clear hK K;(try simp only [Act.put,lA,lB,lC]);refine kK 9 q476 ?_;refine wpAnyH_done (by kernel_rfl) ?_ _;clear hHeld;(go_wp2_with fail)
     go_meet
     exact ⟨_,M8,q8,rfl,rfl,kQ,n4,za1 s6 r4,vv⟩
    refine AllReadyH.cons (o:=q474) rfl (fun K hK => ?_) ?_
    ·go_simp
     first
     | refine zt (K:=K _) (fun wx kY hbz => ?_)
     | refine zo (K:=K _) (fun wx kY hbz => ?_)
     have gY:wX.heap.size≤_:=vv.size;(try have o2:=o2.below hbz);(try have n4:=n4.below hbz);have vv:=zc vv hbz;refine hK.out _ _ (⟨zy (za kX vv),zg (za kV vv)⟩) (fun hHeld => ?_);clear hK K;(try simp only [Act.put,lA,lB,lC]);refine kR 3 q470 (fun K hK => ?_);go_simp;have hz:=hz6;refine (zaO M6 kd i _ (o6.below vv).row hz.n hz.l hz.s hz.m (by rw [show M6.brs=N0.brs from s6.b]; exact HRG.out)).mono ?_;rintro r wz3 ⟨M8,q8,rfl,n4,r4,hbz⟩;have n4:=n4.lt (base':=wX.heap.size) vv.size;(try have kY:=za kY hbz);have vv:=zc vv hbz;(go_wp2_with fail);refine hK.out _ _ (⟨zy (za kX vv),zg (za kV vv)⟩) (fun hHeld => ?_);clear hK K;(try simp only [Act.put,lA,lB,lC]);refine kK 4 q471 ?_;refine kK 5 q472 ?_;refine kK 6 q473 ?_;refine kR 8 q475 (fun K hK => ?_);obtain ⟨xx0,xx1,xx2⟩:=zd kY;have ff0:=ze kY 0;have ff1:=ze kY 1;have ff2:=ze kY 2;go_simp;refine zZ (K:=K _) kY _ _ _ (fun wq kQ hgq => ?_);have n4:=n4.boxed kY hgq;have vv:=vv.grown hgq vv.size (by intro j e; cases e; exact gY);refine hK.out _ _ (⟨zy (za kX vv),zg (za kV vv)⟩) (fun hHeld => ?_);clear hK K;(try simp only [Act.put,lA,lB,lC]);refine kK 9 q476 ?_;refine wpAnyH_done (by kernel_rfl) ?_ _;clear hHeld;(go_wp2_with fail)
     go_meet
     exact ⟨_,M8,q8,rfl,rfl,kQ,n4,za1 s6 r4,vv⟩
    exact AllReadyH.nil
   refine AllReadyH.cons (o:=q474) rfl (fun K hK => ?_) ?_
   ·go_simp
    first
    | refine zt (K:=K _) (fun wx kY hbz => ?_)
    | refine zo (K:=K _) (fun wx kY hbz => ?_)
    have gY:wX.heap.size≤_:=vv.size;(try have o2:=o2.below hbz);(try have n4:=n4.below hbz);have vv:=zc vv hbz;refine hK.out _ _ (⟨zy (za kX vv),zg (za kV vv)⟩) (fun hHeld => ?_);clear hK K;(try simp only [Act.put,lA,lB,lC]);refine kR 2 q469 (fun K hK => ?_);go_simp;refine (za2 kd i _).mono ?_;rintro r wz2 ⟨rfl,hbz⟩;(try have kY:=za kY hbz);have vv:=zc vv hbz;(go_wp2_with fail);refine hK.out _ _ (⟨zy (za kX vv),zg (za kV vv)⟩) (fun hHeld => ?_);clear hK K;(try simp only [Act.put,lA,lB,lC]);refine kR 3 q470 (fun K hK => ?_);go_simp;have hz:=hz6;refine (zaO M6 kd i _ (o6.below vv).row hz.n hz.l hz.s hz.m (by rw [show M6.brs=N0.brs from s6.b]; exact HRG.out)).mono ?_;rintro r wz3 ⟨M8,q8,rfl,n4,r4,hbz⟩;have n4:=n4.lt (base':=wX.heap.size) vv.size;(try have kY:=za kY hbz);have vv:=zc vv hbz;(go_wp2_with fail);refine hK.out _ _ (⟨zy (za kX vv),zg (za kV vv)⟩) (fun hHeld => ?_);clear hK K;(try simp only [Act.put,lA,lB,lC]);refine kK 4 q471 ?_;refine kK 5 q472 ?_;refine kK 6 q473 ?_;refine kR 8 q475 (fun K hK => ?_);obtain ⟨xx0,xx1,xx2⟩:=zd kY;have ff0:=ze kY 0;have ff1:=ze kY 1;have ff2:=ze kY 2;go_simp;refine zZ (K:=K _) kY _ _ _ (fun wq kQ hgq => ?_);have n4:=n4.boxed kY hgq;have vv:=vv.grown hgq vv.size (by intro j e; cases e; exact gY);refine hK.out _ _ (⟨zy (za kX vv),zg (za kV vv)⟩) (fun hHeld => ?_);clear hK K;(try simp only [Act.put,lA,lB,lC]);refine kK 9 q476 ?_;refine wpAnyH_done (by kernel_rfl) ?_ _;clear hHeld;(go_wp2_with fail)
    go_meet
    exact ⟨_,M8,q8,rfl,rfl,kQ,n4,za1 s6 r4,vv⟩
   exact AllReadyH.nil
  case rest =>
   obtain ⟨YG,M8,q8,rfl,rfl,kG,tG,r8,d⟩:=hcut;obtain ⟨wG,hwG⟩:∃u,u=wc:=⟨_,rfl⟩;subst hwG;have HZ8:Hid (wS.heap.size≤wX.heap.size):=hide pS.size;have HZ9:Hid (w.heap.size≤wX.heap.size):=hide uX.size;obtain ⟨e8,eQ⟩:=zgz r8 R4.out;have HSM8:Hid (M8.Same M4):=hide (zjW e8);have HT:Hid M8.Fits:=hide (zk8 (N:=N0) tG.row h0 (zjT r8) HZ.out);subst eQ;have pS:=zc pS d;have uG:=zc uX d;have kA:=za kA d;have kV:=za kV d;have kX:=za kX d;have o6:=o6.below d;clear d r8 e8 uX hz6;obtain ⟨z0,z1,z2⟩:=zy kG;obtain ⟨c0,c1,c2⟩:=zy (za kS pS);have qq:(q8 != q8)=false:=by cases q8 <;> rfl
   (go_wp2_with fail);refine (zcA M8 M4 _ tG.row (rS.below pS) HSM8.out).mono ?_;rintro e w9 ⟨rfl,hb⟩;have pS:=zc pS hb;have tG:=tG.below hb;have kG:=za kG hb;have kX:=za kX hb;have kA:=za kA hb;have kV:=za kV hb;have o6:=o6.below hb;have uG:=zc uG hb;clear hb z0 z1 z2 c0 c1 c2;have vv:Below w9.heap.size w9 w9.drew:=zq (Below.refl _ _);(go_upto_region 10 with fail);clear qq;refine wp_region_held_drew (S:=(fun W=>(W.cell? ⟨w.heap.size,0,none⟩=some (.slice N0.ba N0.bn N0.bc)∧W.cell? ⟨w.heap.size,1,none⟩=some (.slice N0.la N0.ln N0.lc)∧W.cell? ⟨w.heap.size,2,none⟩=some (.slice N0.sa N0.sn N0.sc))∧(W.cell? ⟨X,0,none⟩=some (.slice M6.ba M6.bn M6.bc)∧W.cell? ⟨X,1,none⟩=some (.slice M6.la M6.ln M6.lc)∧W.cell? ⟨X,2,none⟩=some (.slice M6.sa M6.sn M6.sc)))) (by kernel_rfl) (⟨zy (za kA vv),zy (za kX vv)⟩) (fun hHeld => ?_);refine kK 0 ⟨some 47,.load 34 (.tmp 8),34,"exact.go:4367",#[],none⟩ ?_;refine kK 1 ⟨some 48,.load 26 (.tmp 2),26,"exact.go:4367",#[],none⟩ ?_;refine kR 2 ⟨some 49,.call ⟨.value (.func 7),#[.tmp 48],#[26]⟩,34,"exact.go:4367",#[⟨1,.data⟩],none⟩ (fun K hK => ?_);go_simp;refine (zca N0 _ (h0.below (zc uG vv)) HZ.out).mono ?_;rintro r wz ⟨M7,rfl,o7,s7,z7,hbz⟩;have vv:=zc vv hbz;(go_wp2_with fail);refine hK.out _ _ (⟨zy (za kA vv),zy (za kX vv)⟩) (fun hHeld => ?_);clear hK K;(try simp only [Act.put,lA,lB,lC]);refine kR 3 ⟨some 50,.call ⟨.value (.func 10),#[.tmp 47,.tmp 49],#[34,34]⟩,4,"exact.go:4367",#[⟨0,.data⟩,⟨2,.data⟩,⟨2,.chain⟩],none⟩ (fun K hK => ?_);go_simp;refine (zcA M6 M7 _ (o6.row.below vv) o7.row ⟨s6.b.trans s7.b.symm,s6.l.trans s7.l.symm,s6.s.trans s7.s.symm⟩).mono ?_;rintro r wy ⟨rfl,hby⟩;have vv:=zc vv hby;(go_wp2_with fail);refine hK.out _ _ (⟨zy (za kA vv),zy (za kX vv)⟩) (fun hHeld => ?_);clear hK K;(try simp only [Act.put,lA,lB,lC]);refine kK 4 ⟨some 51,.unOp .not 4 (.tmp 50),4,"exact.go:4367",#[⟨3,.data⟩],none⟩ ?_;refine wpAnyH_done (by kernel_rfl) ?_ _;have pS:=zc pS vv;have tG:=tG.below vv;have kG:=za kG vv;have kX:=za kX vv;have kA:=za kA vv;have kV:=za kV vv;have o6:=o6.below vv;have uG:=zc uG vv;obtain ⟨w11,hw11⟩:∃u,u=wy:=⟨_,rfl⟩;subst hw11;clear hHeld vv hbz hby o7 s7 z7;obtain ⟨x0,x1,x2⟩:=zy kX;(go_wp2_with fail);refine (zef _ M6 _ o6 HF6.out).mono ?_;rintro e w12 ⟨rfl,oM6,O⟩;have tG:=tG.only O (fun b hb hc=>by have h1:=(tG.blk b hb).1; have h2:=HX6.out b hc; omega);have kG:=O.kept kG (o6.box_apart kG);have pS:=pS.trans (O.below pS.size (fun b hb=>(o6.blk b hb).1));have uG:=uG.trans (O.below uG.size (fun b hb=>Nat.le_trans HU6.out (o6.blk b hb).1));have kA:=O.kept kA (fun hc=>by have h1:=(o6.blk _ hc).1; have h2:=HU7.out; omega);have kV:=O.kept kV (fun hc=>by have h1:=(o6.blk _ hc).1; have h2:=HU7.out; omega);have HE6:Hid (0≤endM M6):=hide (by unfold endM; have:=zcy M6.bs 1; omega);clear x0 x1 x2 o6 oM6 O kX;generalize hE6:endM M6=E6 at *;have j0:¬(E6 < 0):=by have:=HE6.out; omega
   have qq:(q8 != q8)=false:=by cases q8 <;> rfl
   obtain ⟨z0,z1,z2⟩:=zy kG;obtain ⟨s0,s1,s2⟩:=zy (za kS pS);(go_wp2_with fail);refine (zcA M8 M4 _ tG.row (rS.below pS) HSM8.out).mono ?_;rintro e w16 ⟨rfl,hb⟩;have pS:=zc pS hb;have tG:=tG.below hb;have kG:=za kG hb;have uG:=zc uG hb;have kA:=za kA hb;have kV:=za kV hb;clear hb j0 z0 z1 z2 s0 s1 s2;obtain ⟨z0,z1,z2⟩:=zy kG;(go_wp2_with fail);refine (zef _ M8 _ tG HT.out).mono ?_;rintro e w17 ⟨rfl,tM,O⟩;have pS:=pS.trans (O.below pS.size (fun b hb=>Nat.le_trans HZ8.out (tG.blk b hb).1));have uG:=uG.trans (O.below uG.size (fun b hb=>Nat.le_trans HZ9.out (tG.blk b hb).1));have kA:=O.kept kA (fun hc=>by have h1:=(tG.blk _ hc).1; have h2:=HZ8.out; have h3:=HU7.out; omega);have kV:=O.kept kV (fun hc=>by have h1:=(tG.blk _ hc).1; have h2:=HZ8.out; have h3:=HU7.out; omega);have kG:=O.kept kG (tG.box_apart kG);clear tG O z0 z1 z2;obtain ⟨z0,z1,z2⟩:=zy kG;(go_wp2_with fail);refine (zd3 _ M8 _ tM HT.out).mono ?_;rintro e w18 ⟨rfl,hb⟩;have pS:=zc pS hb;have tM:=tM.below hb;have kG:=za kG hb;have uG:=zc uG hb;have kA:=za kA hb;have kV:=za kV hb;clear hb z0 z1 z2 qq;have HE:Hid (0≤endM M8):=hide (by unfold endM; have:=zcy M8.bs 1; omega);generalize hEN:endM M8=EN at *;have j1:¬(EN < 0):=by have:=HE.out; omega
   (go_upto_region 24 with fail)
   go_cut [14,15] from 79 to 86 (fun v9 v10 wx=>∃(Y8:Nat) (MH:NV) (qH:Bool),v9=.pointer (some ⟨Y8,0,none⟩)∧v10=.bool qH∧wx.heap[Y8]?=some (.cells #[.slice MH.ba MH.bn MH.bc,.slice MH.la MH.ln MH.lc,.slice MH.sa MH.sn MH.sc] 34)∧NOwn wx w18.heap.size MH∧zal N0 kd i MH qH∧Below w18.heap.size w18 wx)
   case first =>
    have vv:Below w18.heap.size w18 w18.drew:=zq (Below.refl _ _);refine wp_region_held_drew (S:=(fun W=>(W.cell? ⟨w.heap.size,0,none⟩=some (.slice N0.ba N0.bn N0.bc)∧W.cell? ⟨w.heap.size,1,none⟩=some (.slice N0.la N0.ln N0.lc)∧W.cell? ⟨w.heap.size,2,none⟩=some (.slice N0.sa N0.sn N0.sc))∧(W.cell? ⟨EB,0,none⟩=some (.int .i64 kd)∧W.cell? ⟨EB,1,none⟩=some (.int .i64 i)))) (by kernel_rfl) (⟨zy (za kA vv),zg (za kV vv)⟩) (fun hHeld => ?_);refine kK 0 ⟨some 80,.load 26 (.tmp 2),26,"exact.go:4385",#[],none⟩ ?_;refine kK 2 ⟨some 82,.load 28 (.tmp 3),28,"exact.go:4385",#[],none⟩ ?_;refine tR [1,8] ?_;refine AllReadyH.cons (o:=q477) rfl (fun K hK => ?_) ?_
    ·go_simp;refine (zca N0 _ (h0.below (zc uG vv)) HZ.out).mono ?_;rintro r wz1 ⟨M2,rfl,o2,s2,z2,hbz⟩;(try have kY:=za kY hbz);have vv:=zc vv hbz;(go_wp2_with fail);refine hK.out _ _ (⟨zy (za kA vv),zg (za kV vv)⟩) (fun hHeld => ?_);clear hK K;(try simp only [Act.put,lA,lB,lC]);refine tR [3,8] ?_;refine AllReadyH.cons (o:=q478) rfl (fun K hK => ?_) ?_
     ·go_simp;refine (za2 kd i _).mono ?_;rintro r wz2 ⟨rfl,hbz⟩;have o2:=o2.below hbz;(try have kY:=za kY hbz);have vv:=zc vv hbz;(go_wp2_with fail);refine hK.out _ _ (⟨zy (za kA vv),zg (za kV vv)⟩) (fun hHeld => ?_);clear hK K;(try simp only [Act.put,lA,lB,lC]);refine tR [4,8] ?_;refine AllReadyH.cons (o:=q479) rfl (fun K hK => ?_) ?_
      ·go_simp;have hz:=(zaQ o2.row (by rw [z2]; exact HZ.out));refine (zaO M2 kd i _ o2.row hz.n hz.l hz.s hz.m (by rw [show M2.brs=N0.brs from s2.b]; exact HRG.out)).mono ?_;rintro r wz3 ⟨MH,qH,rfl,n4,r4,hbz⟩;have n4:=n4.lt (base':=w18.heap.size) vv.size;(try have kY:=za kY hbz);have vv:=zc vv hbz;(go_wp2_with fail);refine hK.out _ _ (⟨zy (za kA vv),zg (za kV vv)⟩) (fun hHeld => ?_);clear hK K;(try simp only [Act.put,lA,lB,lC]);refine kK 5 q480 ?_;refine kK 6 q481 ?_;refine kK 7 q482 ?_;refine kR 8 q483 (fun K hK => ?_);go_simp
       first
       | refine zt (K:=K _) (fun wx kY hbz => ?_)
       | refine zo (K:=K _) (fun wx kY hbz => ?_)
       have gY:w18.heap.size≤_:=vv.size;(try have o2:=o2.below hbz);(try have n4:=n4.below hbz);have vv:=zc vv hbz;refine hK.out _ _ (⟨zy (za kA vv),zg (za kV vv)⟩) (fun hHeld => ?_);clear hK K;(try simp only [Act.put,lA,lB,lC]);refine kR 9 q484 (fun K hK => ?_);obtain ⟨xx0,xx1,xx2⟩:=zd kY;have ff0:=ze kY 0;have ff1:=ze kY 1;have ff2:=ze kY 2;go_simp;refine zZ (K:=K _) kY _ _ _ (fun wq kQ hgq => ?_);have n4:=n4.boxed kY hgq;have vv:=vv.grown hgq vv.size (by intro j e; cases e; exact gY);refine hK.out _ _ (⟨zy (za kA vv),zg (za kV vv)⟩) (fun hHeld => ?_);clear hK K;(try simp only [Act.put,lA,lB,lC]);refine kK 10 q485 ?_;refine wpAnyH_done (by kernel_rfl) ?_ _;clear hHeld;(go_wp2_with fail)
       go_meet
       exact ⟨_,MH,qH,rfl,rfl,kQ,n4,za1 s2 r4,vv⟩
      refine AllReadyH.cons (o:=q483) rfl (fun K hK => ?_) ?_
      ·go_simp
       first
       | refine zt (K:=K _) (fun wx kY hbz => ?_)
       | refine zo (K:=K _) (fun wx kY hbz => ?_)
       have gY:w18.heap.size≤_:=vv.size;(try have o2:=o2.below hbz);(try have n4:=n4.below hbz);have vv:=zc vv hbz;refine hK.out _ _ (⟨zy (za kA vv),zg (za kV vv)⟩) (fun hHeld => ?_);clear hK K;(try simp only [Act.put,lA,lB,lC]);refine kR 4 q479 (fun K hK => ?_);go_simp;have hz:=(zaQ o2.row (by rw [z2]; exact HZ.out));refine (zaO M2 kd i _ o2.row hz.n hz.l hz.s hz.m (by rw [show M2.brs=N0.brs from s2.b]; exact HRG.out)).mono ?_;rintro r wz3 ⟨MH,qH,rfl,n4,r4,hbz⟩;have n4:=n4.lt (base':=w18.heap.size) vv.size;(try have kY:=za kY hbz);have vv:=zc vv hbz;(go_wp2_with fail);refine hK.out _ _ (⟨zy (za kA vv),zg (za kV vv)⟩) (fun hHeld => ?_);clear hK K;(try simp only [Act.put,lA,lB,lC]);refine kK 5 q480 ?_;refine kK 6 q481 ?_;refine kK 7 q482 ?_;refine kR 9 q484 (fun K hK => ?_);obtain ⟨xx0,xx1,xx2⟩:=zd kY;have ff0:=ze kY 0;have ff1:=ze kY 1;have ff2:=ze kY 2;go_simp;refine zZ (K:=K _) kY _ _ _ (fun wq kQ hgq => ?_);have n4:=n4.boxed kY hgq;have vv:=vv.grown hgq vv.size (by intro j e; cases e; exact gY);refine hK.out _ _ (⟨zy (za kA vv),zg (za kV vv)⟩) (fun hHeld => ?_);clear hK K;(try simp only [Act.put,lA,lB,lC]);refine kK 10 q485 ?_;refine wpAnyH_done (by kernel_rfl) ?_ _;clear hHeld;(go_wp2_with fail)
       go_meet
       exact ⟨_,MH,qH,rfl,rfl,kQ,n4,za1 s2 r4,vv⟩
      exact AllReadyH.nil
     refine AllReadyH.cons (o:=q483) rfl (fun K hK => ?_) ?_
     ·go_simp
      first
      | refine zt (K:=K _) (fun wx kY hbz => ?_)
      | refine zo (K:=K _) (fun wx kY hbz => ?_)
      have gY:w18.heap.size≤_:=vv.size;(try have o2:=o2.below hbz);(try have n4:=n4.below hbz);have vv:=zc vv hbz;refine hK.out _ _ (⟨zy (za kA vv),zg (za kV vv)⟩) (fun hHeld => ?_);clear hK K;(try simp only [Act.put,lA,lB,lC]);refine kR 3 q478 (fun K hK => ?_);go_simp;refine (za2 kd i _).mono ?_;rintro r wz2 ⟨rfl,hbz⟩;have o2:=o2.below hbz;(try have kY:=za kY hbz);have vv:=zc vv hbz;(go_wp2_with fail);refine hK.out _ _ (⟨zy (za kA vv),zg (za kV vv)⟩) (fun hHeld => ?_);clear hK K;(try simp only [Act.put,lA,lB,lC]);refine kR 4 q479 (fun K hK => ?_);go_simp;have hz:=(zaQ o2.row (by rw [z2]; exact HZ.out));refine (zaO M2 kd i _ o2.row hz.n hz.l hz.s hz.m (by rw [show M2.brs=N0.brs from s2.b]; exact HRG.out)).mono ?_;rintro r wz3 ⟨MH,qH,rfl,n4,r4,hbz⟩;have n4:=n4.lt (base':=w18.heap.size) vv.size;(try have kY:=za kY hbz);have vv:=zc vv hbz;(go_wp2_with fail);refine hK.out _ _ (⟨zy (za kA vv),zg (za kV vv)⟩) (fun hHeld => ?_);clear hK K;(try simp only [Act.put,lA,lB,lC]);refine kK 5 q480 ?_;refine kK 6 q481 ?_;refine kK 7 q482 ?_;refine kR 9 q484 (fun K hK => ?_);obtain ⟨xx0,xx1,xx2⟩:=zd kY;have ff0:=ze kY 0;have ff1:=ze kY 1;have ff2:=ze kY 2;go_simp;refine zZ (K:=K _) kY _ _ _ (fun wq kQ hgq => ?_);have n4:=n4.boxed kY hgq;have vv:=vv.grown hgq vv.size (by intro j e; cases e; exact gY);refine hK.out _ _ (⟨zy (za kA vv),zg (za kV vv)⟩) (fun hHeld => ?_);clear hK K;(try simp only [Act.put,lA,lB,lC]);refine kK 10 q485 ?_;refine wpAnyH_done (by kernel_rfl) ?_ _;clear hHeld;(go_wp2_with fail)
      go_meet
      exact ⟨_,MH,qH,rfl,rfl,kQ,n4,za1 s2 r4,vv⟩
     exact AllReadyH.nil
    refine AllReadyH.cons (o:=q483) rfl (fun K hK => ?_) ?_
    ·go_simp
     first
     | refine zt (K:=K _) (fun wx kY hbz => ?_)
     | refine zo (K:=K _) (fun wx kY hbz => ?_)
     have gY:w18.heap.size≤_:=vv.size;(try have o2:=o2.below hbz);(try have n4:=n4.below hbz);have vv:=zc vv hbz;refine hK.out _ _ (⟨zy (za kA vv),zg (za kV vv)⟩) (fun hHeld => ?_);clear hK K;(try simp only [Act.put,lA,lB,lC]);refine kR 1 q477 (fun K hK => ?_);go_simp;refine (zca N0 _ (h0.below (zc uG vv)) HZ.out).mono ?_;rintro r wz1 ⟨M2,rfl,o2,s2,z2,hbz⟩;(try have kY:=za kY hbz);have vv:=zc vv hbz;(go_wp2_with fail);refine hK.out _ _ (⟨zy (za kA vv),zg (za kV vv)⟩) (fun hHeld => ?_);clear hK K;(try simp only [Act.put,lA,lB,lC]);refine kR 3 q478 (fun K hK => ?_);go_simp;refine (za2 kd i _).mono ?_;rintro r wz2 ⟨rfl,hbz⟩;have o2:=o2.below hbz;(try have kY:=za kY hbz);have vv:=zc vv hbz;(go_wp2_with fail);refine hK.out _ _ (⟨zy (za kA vv),zg (za kV vv)⟩) (fun hHeld => ?_);clear hK K;(try simp only [Act.put,lA,lB,lC]);refine kR 4 q479 (fun K hK => ?_);go_simp;have hz:=(zaQ o2.row (by rw [z2]; exact HZ.out));refine (zaO M2 kd i _ o2.row hz.n hz.l hz.s hz.m (by rw [show M2.brs=N0.brs from s2.b]; exact HRG.out)).mono ?_;rintro r wz3 ⟨MH,qH,rfl,n4,r4,hbz⟩;have n4:=n4.lt (base':=w18.heap.size) vv.size;(try have kY:=za kY hbz);have vv:=zc vv hbz;(go_wp2_with fail);refine hK.out _ _ (⟨zy (za kA vv),zg (za kV vv)⟩) (fun hHeld => ?_);clear hK K;(try simp only [Act.put,lA,lB,lC]);refine kK 5 q480 ?_;refine kK 6 q481 ?_;refine kK 7 q482 ?_;refine kR 9 q484 (fun K hK => ?_);obtain ⟨xx0,xx1,xx2⟩:=zd kY;have ff0:=ze kY 0;have ff1:=ze kY 1;have ff2:=ze kY 2;go_simp;refine zZ (K:=K _) kY _ _ _ (fun wq kQ hgq => ?_);have n4:=n4.boxed kY hgq;have vv:=vv.grown hgq vv.size (by intro j e; cases e; exact gY);refine hK.out _ _ (⟨zy (za kA vv),zg (za kV vv)⟩) (fun hHeld => ?_);clear hK K;(try simp only [Act.put,lA,lB,lC]);refine kK 10 q485 ?_;refine wpAnyH_done (by kernel_rfl) ?_ _;clear hHeld;(go_wp2_with fail)
     go_meet
     exact ⟨_,MH,qH,rfl,rfl,kQ,n4,za1 s2 r4,vv⟩
    exact AllReadyH.nil
   case rest =>
    obtain ⟨YH,MH,qH,rfl,rfl,kH,nH,rH0,vH⟩:=hcut;obtain ⟨wH,hwH⟩:∃u,u=wc:=⟨_,rfl⟩;subst hwH;obtain ⟨eH,eQ⟩:=zgz rH0 R4.out;have HSMH:Hid (MH.Same M4):=hide (zjW eH);subst eQ;have rH:=nH.row;have pS:=zc pS vH;have tM:=tM.below vH;have kG:=za kG vH;have uG:=zc uG vH;clear vH nH rH0 eH;obtain ⟨v0,v1,v2⟩:=zy kH;obtain ⟨s0,s1,s2⟩:=zy (za kS pS);have qq:(qH != qH)=false:=by cases qH <;> rfl
    (go_wp2_with fail);refine (zcA MH M4 _ rH (rS.below pS) HSMH.out).mono ?_;rintro e w22 ⟨rfl,hb⟩;have pS:=zc pS hb;have tM:=tM.below hb;have kG:=za kG hb;have uG:=zc uG hb;clear hb v0 v1 v2 kH s0 s1 s2;obtain ⟨z0,z1,z2⟩:=zy kG;(go_wp2_with fail);refine (zd3 _ M8 _ tM HT.out).mono ?_;rintro e w23 ⟨rfl,hb⟩;rw [hEN];have HB:=hide (zc uG hb);clear hb pS tM kG kS rS uG z0 z1 z2;go_wp2;go_ret;exact ⟨rfl,HB.out⟩

theorem fnExactStep_own:ownKnob Tryz.prog.godebug=none:=by kernel_rfl
theorem fnExactStep_laid:laidOutB Tryz.prog=true:=by kernel_rfl

open Go.ChangeShapes Go.WideShapes Go.ChangeAt in
open Go.ChangeMaps (open_string shut_string) in
theorem fnExactStep_lifted (os:Os) (started:os.Started) (H:Type) (enc:TypeId × Value→H) :
  ReturnsInHanded {} Tryz.checked os 3 .any (Rows.fnExactStepSpec.pre6 enc Tryz.prog Tryz.f3 Rows.fnExactStepRow.domain false) (Rows.fnExactStepSpec.post enc Tryz.prog Tryz.f3 false true false false):=by
 refine returnsInHanded_of_change (C:=Tryz.checked) fnExactStep_own started (by kernel_rfl) Tryz.func3
  (ChangeSpec.witness6 (enc:=enc) (C:=Tryz.checked) false ⟨#[],#[.agg #[.slice none 0 0,.slice none 0 0,.slice none 0 0],.agg #[.int .i64 0,.int .i64 0]],[]⟩ 8 (by kernel_rfl) (by kernel_rfl) (by kernel_rfl) (by kernel_rfl)) ?_
 intro W base args ds gs before hval0 hW hcnd _;have hval:∀(j:Nat) t v,Tryz.f3.params[j]?=some t→args[j]?=some v→Value.okWide Tryz.prog W .any base t v:=hval0;have hW':=hW;obtain ⟨p,q,hA0,hV,rfl,hfz,hnd⟩:=hW;have hA:DataW.TrodAll enc Tryz.prog W 0 (fun _=>true) true Tryz.f3.params.toList args.toList ds p:=hA0;rw [Tryz.params3] at hA hval;obtain ⟨v0,vs0,d0,ds0,p0,q0,hargs,rfl,rfl,h0,r0⟩:=trodAll_cons hA;obtain ⟨v1,vs1,d1,ds1,p1,q1,rfl,rfl,rfl,h1,r1⟩:=trodAll_cons r0;obtain ⟨rfl,rfl,rfl⟩:=trodAll_nil r1;obtain rfl:args=#[v0,v1]:=by cases args; simp_all
 obtain ⟨rfl,rfl⟩:=trodVars_none hV;have k0:=h0;have lt0:∀x∈p0,x.block < W.heap.size:=by obtain ⟨m,hm⟩:=k0; exact DataW.trod_lt m _ _ _ hm
 have bt:zgE Tryz.prog 96 9 90 195 118 91 197 94 92 215 60 3 4 _ _ _ _ _ _ _ _ _ _ _ _ _ _ _ _ _ _ _ _ _ _ _ _ _ _ _ _ _:=⟨Tryz.underlying96,Tryz.underlying9,Tryz.underlying90,Tryz.underlying195,Tryz.underlying118,Tryz.underlying91,Tryz.underlying197,Tryz.underlying94,Tryz.underlying92,Tryz.underlying215,Tryz.underlying60,Tryz.underlying3,Tryz.underlying4,⟨rfl,rfl⟩,⟨rfl,rfl⟩,⟨rfl,rfl⟩,⟨rfl,rfl⟩,⟨rfl,rfl⟩,⟨rfl,rfl⟩,⟨rfl,rfl⟩,⟨rfl,rfl⟩,⟨rfl,rfl⟩,⟨rfl,rfl⟩,⟨rfl,rfl⟩,⟨rfl,rfl⟩,⟨rfl,rfl⟩,⟨rfl,rfl⟩,⟨rfl,rfl⟩,⟨rfl,rfl⟩,⟨rfl,rfl⟩,⟨rfl,rfl⟩,⟨rfl,rfl⟩,⟨rfl,rfl⟩,⟨rfl,rfl⟩,⟨rfl,rfl⟩,⟨rfl,rfl⟩,⟨rfl,rfl⟩,⟨rfl,rfl⟩,⟨rfl,rfl⟩,⟨rfl,rfl⟩,⟨rfl,rfl⟩,⟨rfl,rfl⟩,(by kernel_rfl),(by kernel_rfl),(by kernel_rfl),(by kernel_rfl),(by kernel_rfl),(by kernel_rfl),(by kernel_rfl),(by kernel_rfl),(by kernel_rfl),(by kernel_rfl),(by kernel_rfl),(by kernel_rfl),(by kernel_rfl)⟩;have bl:zfd Tryz.prog 23 116 3 _ _ _ _:=⟨Tryz.underlying23,Tryz.underlying116,Tryz.underlying3,⟨rfl,rfl⟩,⟨rfl,rfl⟩,⟨rfl,rfl⟩,⟨rfl,rfl⟩,(by kernel_rfl),(by kernel_rfl)⟩;have bn:zgF Tryz.prog 26 22 96 23 24 120 118 3 4 _ _ _ _ _ _ _ _ _ _ _:=⟨Tryz.underlying26,Tryz.underlying22,Tryz.underlying24,Tryz.underlying120,Tryz.underlying118,Tryz.underlying3,Tryz.underlying4,⟨rfl,rfl⟩,⟨rfl,rfl⟩,⟨rfl,rfl⟩,⟨rfl,rfl⟩,⟨rfl,rfl⟩,⟨rfl,rfl⟩,⟨rfl,rfl⟩,⟨rfl,rfl⟩,⟨rfl,rfl⟩,⟨rfl,rfl⟩,⟨rfl,rfl⟩,(by kernel_rfl),(by kernel_rfl),(by kernel_rfl),(by kernel_rfl),(by kernel_rfl),(by kernel_rfl),(by kernel_rfl),(by kernel_rfl)⟩;obtain ⟨N0,rfl,w0,g0⟩:=zkH bt bl bn (hval 0 26 v0 rfl rfl) h0;have k1:=h1;have lt1:∀x∈p1,x.block < W.heap.size:=by obtain ⟨m,hm⟩:=k1; exact DataW.trod_lt m _ _ _ hm
 obtain ⟨K1,I1,rfl⟩:=ziE Tryz.underlying28 Tryz.underlying3 ⟨rfl,rfl⟩ ⟨rfl,rfl⟩ (by kernel_rfl) (by kernel_rfl) (hval 1 28 v1 rfl rfl) h1;clear hA0 hval0;refine (zew N0 K1 I1 W w0 g0).mono fun e W' ⟨he,bel⟩ => ?_
 subst he;exact ⟨_,rfl,_,_,_,[],_,[],hW',trodAll_mk1 (shut_bool Tryz.underlying4 _),(trodAll_cons_mk (Below.trod fnExactStep_laid (by kernel_rfl) (of_decide_eq_true (by kernel_rfl)) k0 bel lt0) (trodAll_cons_mk (Below.trod fnExactStep_laid (by kernel_rfl) (of_decide_eq_true (by kernel_rfl)) k1 bel lt1) trodAll_mk0)),rfl,bel.frame _,fun h=>by cases h⟩

theorem fnExactStep_holds:Rows.FnExactStepSaid :=
 OpenClaim.holds_of_wide 3 Tryz.f3 rfl rfl rfl rfl rfl rfl rfl ⟨rfl,rfl,rfl,rfl,rfl⟩ rfl rfl rfl rfl rfl (by kernel_rfl) Tryz.func3 (by kernel_rfl)
  (of_decide_eq_true (by kernel_rfl)) (by unfold Func.isWrapper; first | (rw [if_pos (by decide +kernel)]; kernel_rfl) | (rw [if_neg (by decide +kernel)]; exact ⟨rfl,rfl⟩))
  (fun os started H enc _=>fnExactStep_lifted os started H enc)

#print axioms fnExactStep_holds

end Go.Proofs.YtpaneiaflfegoaaGreat
