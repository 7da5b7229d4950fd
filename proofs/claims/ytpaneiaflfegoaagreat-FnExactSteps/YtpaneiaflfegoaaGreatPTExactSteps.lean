/-
  FnExactSteps answers true at all arguments: Steps answers as the specification; it writes into no argument; its answer owns its memory, behind another call too.
-/
import Derived.Test.YtpaneiaflfegoaaGreatPTKW
import Derived.Test.YtpaneiaflfegoaaGreatPTK01
import Derived.Test.YtpaneiaflfegoaaGreatPTK03
import Derived.Test.YtpaneiaflfegoaaGreatPTK27
import Derived.Test.YtpaneiaflfegoaaGreatPTK37
import Derived.Test.YtpaneiaflfegoaaGreatPTK40
import Derived.WalkKit
import Derived.ProofKit
import Derived.OpenShut
import Derived.ShutString
import Derived.ChangeOld
import Derived.Below
import Derived.Lib.SmallJoins
namespace Go.Proofs.YtpaneiaflfegoaaGreat
set_option maxRecDepth 100000
set_option maxHeartbeats 16000000
open Go.RowKit

theorem zed (N0:NV) (ea:Option Addr) (en ec:Nat) (l:List EV) (w:World) (h0:zae w N0) (g0:N0.Rng) (hE:GRow evF w ea en ec l) :
  Calls Tryz.prog 4 #[.agg #[.slice N0.ba N0.bn N0.bc,.slice N0.la N0.ln N0.lc,.slice N0.sa N0.sn N0.sc],.slice ea en ec] w fun e w'=>e=.returned (.bool true)∧Below w.heap.size w w':=by
 generalize hwA:w.alloc (Obj.cells #[.slice N0.ba N0.bn N0.bc,.slice N0.la N0.ln N0.lc,.slice N0.sa N0.sn N0.sc] 26)=wA;have uA:=zb hwA;have kA:=zk hwA;have HZA:Hid (wA.heap.size=w.heap.size+1):=hide (by rw [← hwA]; simp);obtain ⟨x0,x1,x2⟩:=zV kA;by_cases gb:¬sizeN N0≤1048576
 ·go_enter Tryz.func4,Tryz.ntmps4;(go_wp2_with fail);refine (zgX N0 1048576 _ (h0.below uA) g0 (by omega) (by omega)).mono ?_;rintro e w1 ⟨rfl,hb1⟩;rw [if_neg (show ¬sizeN N0≤1048576 by omega)];have HB:=hide (zc uA hb1);clear x0 x1 x2;go_wp2;go_ret;exact ⟨rfl,HB.out⟩
 have gb:sizeN N0≤1048576:=by omega
 have hel:=Nat.le_trans hE.le hE.top;have HEL:=hide hel;clear hel;have gs:¬((1048576:Int) - sizeN N0 < 0):=by omega
 have HRG:Hid (∀B∈N0.brs,B.Rg):=hide (zjc g0.b);go_enter Tryz.func4,Tryz.ntmps4;go_wp2_with fail
 refine (zgX N0 1048576 _ (h0.below uA) g0 (by omega) (by omega)).mono ?_;rintro e w1 ⟨rfl,hb1⟩;rw [if_pos gb];have kA:=za kA hb1;have u1:=zc uA hb1;have HZ1:Hid (w.heap.size < w1.heap.size):=hide (by have:=hb1.size; have:=HZA.out; omega);clear hb1 x0 x1 x2;obtain ⟨x0,x1,x2⟩:=zV kA;have HZ:=hide gb;have HSP:Hid (0≤sizeN N0):=hide (zkl N0);have HHE:=hide hE;generalize hSZ:sizeN N0=SZ at gs gb HSP ⊢;clear hSZ hE;go_wp2_with fail
 refine (zgW ea en ec (1048576 - SZ) _ HEL.out (by omega) (by have:=HSP.out; omega)).mono ?_;rintro e w1b ⟨rfl,ew⟩;obtain rfl:=ew.symm;by_cases ge:¬(en:Int)≤1048576 - SZ
 ·rw [if_neg ge];have HB:=hide u1;clear x0 x1 x2 u1 kA gs gb ge;go_wp2;go_ret;exact ⟨rfl,HB.out⟩
 have ge:(en:Int)≤1048576 - SZ:=by omega
 rw [if_pos ge];have gs2:¬((1048576:Int) - SZ - (en:Int) < 0):=by omega
 have HEN:Hid (en≤1048576):=hide (by have:=HSP.out; omega);clear gb ge HSP;go_wp2_with fail
 refine (zdt N0 _ (h0.below u1) HZ.out).mono ?_;rintro e w2 ⟨M2,rfl,o2,s2,z2,hb2⟩;have hz2:=zcY o2.row (by rw [z2]; exact HZ.out);go_wp2_with fail
 refine (zbN ea en ec l _ (HHE.out.below (zc u1 hb2)) HEN.out).mono ?_;rintro e w2e ⟨aE,cE,rfl,eO,hbe⟩;have hb2:=zc hb2 hbe;have o2:=o2.below hbe;clear hbe;go_wp2_with fail
 refine (zeS M2 aE en cE l _ o2.row hz2 (zB (F:=evF) eO) (by rw [show M2.brs=N0.brs from s2.b]; exact HRG.out)).mono ?_;rintro e w4 ⟨M4,rfl,n4,r4,hb4⟩;generalize hwS:w4.alloc (Obj.cells #[.slice M4.ba M4.bn M4.bc,.slice M4.la M4.ln M4.lc,.slice M4.sa M4.sn M4.sc] 34)=wS;have bS:=zb hwS;have kS:=zk hwS;have rS:=(n4.below bS).row;have d:=zc (zc hb2 hb4) bS;have kA:=za kA d;have uS:=zc u1 d;have R4:=hide r4;have HZS:Hid (w.heap.size < wS.heap.size):=hide (by have:=d.size; have:=HZ1.out; omega);clear hb2 hb4 bS n4 o2 hz2 x0 x1 x2 u1 d r4 z2 eO;obtain ⟨x0,x1,x2⟩:=zV kA;go_wp2_with fail
 refine (zdt N0 _ (h0.below uS) HZ.out).mono ?_;rintro e w6 ⟨M6,rfl,o6,s6,z6,hb6⟩;generalize hwX:w6.alloc (Obj.cells #[.slice M6.ba M6.bn M6.bc,.slice M6.la M6.ln M6.lc,.slice M6.sa M6.sn M6.sc] 34)=wX;have bX:=zb hwX;have kX:=zk hwX;have o6:=o6.below bX;have pS:=zc hb6 bX;have kA:=za kA pS;have uX:=zc uS pS;have hz6:=zcY o6.row (by rw [z6]; exact HZ.out);have HF6:=hide (ziv o6.row (by rw [z6]; exact HZ.out));have HS6:Hid (wS.heap.size≤wS.heap.size):=hide (Nat.le_refl _);have HU6:Hid (w.heap.size≤wS.heap.size):=hide uS.size;have HU7:Hid (w.heap.size < wS.heap.size):=HZS;have HX6:Hid (∀b∈M6.blksA,b < wX.heap.size):=hide (fun b hb=>(o6.blk b hb).2);clear hb6 bX x0 x1 x2 z6;go_wp2_with fail
 refine (zbN ea en ec l _ (HHE.out.below uX) HEN.out).mono ?_;rintro e wV ⟨aF,cF,rfl,fO,hbV⟩;have HFB:Hid (∀b,(Value.slice aF en cF).ownBlock=some b→wX.heap.size≤b∧b < wV.heap.size):=hide (fun b hb=>fO.lt b hb);have HVX:Hid (wX.heap.size≤wV.heap.size):=hide hbV.size;have HVS:Hid (wS.heap.size≤wX.heap.size):=hide pS.size;have kX:=za kX hbV;have o6:=o6.below hbV;have pS:=zc pS hbV;have kA:=za kA hbV;have uX:=zc uX hbV;clear hbV;generalize hXX:w6.heap.size=X at *;obtain ⟨y0,y1,y2⟩:=zV kX;go_wp2_with fail
 refine (zcL M6 aF en cF l _ o6.row hz6 (zB (F:=evF) fO) (by rw [show M6.brs=N0.brs from s6.b]; exact HRG.out)).mono ?_;rintro e w8 ⟨M8,rfl,n8,r8,hb8⟩;generalize hwG:w8.alloc (Obj.cells #[.slice M8.ba M8.bn M8.bc,.slice M8.la M8.ln M8.lc,.slice M8.sa M8.sn M8.sc] 34)=wG;have bG:=zb hwG;have kG:=zk hwG;have tG:=n8.below bG;have d:=zc hb8 bG;have HZ8:Hid (wS.heap.size≤wV.heap.size):=hide pS.size;have HZ9:Hid (w.heap.size≤wV.heap.size):=hide uX.size;have HSM8:Hid (M8.Same M4):=hide (ziH (zdD _ (by have:=r8; rwa [zex s6] at this) (by have:=R4.out; rwa [zex s2] at this)));have HT:Hid M8.Fits:=hide (zlD (N:=N0) tG.row h0 (by have:=zcc _ r8; rwa [zex s6] at this) HZ.out);have pS:=zc pS d;have uG:=zc uX d;have kA:=za kA d;have kX:=za kX d;have o6:=o6.below d;have fO:=zbO fO d;clear hb8 bG d n8 r8 y0 y1 y2 uX hz6;obtain ⟨z0,z1,z2⟩:=zV kG;obtain ⟨c0,c1,c2⟩:=zV (za kS pS);go_wp2_with fail
 refine (zcB M8 M4 _ tG.row (rS.below pS) HSM8.out).mono ?_;rintro e w9 ⟨rfl,hb⟩;have pS:=zc pS hb;have tG:=tG.below hb;have kG:=za kG hb;have kX:=za kX hb;have kA:=za kA hb;have o6:=o6.below hb;have fO:=zbO fO hb;have uG:=zc uG hb;clear hb z0 z1 z2 c0 c1 c2;have vv:Below w9.heap.size w9 w9.drew:=zp (Below.refl _ _);go_upto_region 14 with fail
 refine wp_region_held_drew (S:=(fun W=>(W.cell? ⟨w.heap.size,0,none⟩=some (.slice N0.ba N0.bn N0.bc)∧W.cell? ⟨w.heap.size,1,none⟩=some (.slice N0.la N0.ln N0.lc)∧W.cell? ⟨w.heap.size,2,none⟩=some (.slice N0.sa N0.sn N0.sc))∧(W.cell? ⟨X,0,none⟩=some (.slice M6.ba M6.bn M6.bc)∧W.cell? ⟨X,1,none⟩=some (.slice M6.la M6.ln M6.lc)∧W.cell? ⟨X,2,none⟩=some (.slice M6.sa M6.sn M6.sc)))) (by kernel_rfl) (⟨zV (za kA vv),zV (za kX vv)⟩) (fun hHeld => ?_);refine kK 0 ⟨some 40,.load 34 (.tmp 7),34,"exact.go:4418",#[],none⟩ ?_;refine kK 1 ⟨some 41,.load 26 (.tmp 2),26,"exact.go:4418",#[],none⟩ ?_;refine kR 2 ⟨some 42,.call ⟨.value (.func 7),#[.tmp 41],#[26]⟩,34,"exact.go:4418",#[⟨1,.data⟩],none⟩ (fun K hK => ?_);go_simp;refine (zdt N0 _ (h0.below (zc uG vv)) HZ.out).mono ?_;rintro r wz ⟨M7,rfl,o7,s7,z7,hbz⟩;have vv:=zc vv hbz;go_wp2_with fail
 refine hK.out _ _ (⟨zV (za kA vv),zV (za kX vv)⟩) (fun hHeld => ?_);clear hK K
 try simp only [Act.put,lA,lB,lC]
 refine kR 3 ⟨some 43,.call ⟨.value (.func 10),#[.tmp 40,.tmp 42],#[34,34]⟩,4,"exact.go:4418",#[⟨0,.data⟩,⟨2,.data⟩,⟨2,.chain⟩],none⟩ (fun K hK => ?_);go_simp;refine (zcB M6 M7 _ (o6.row.below vv) o7.row ⟨s6.b.trans s7.b.symm,s6.l.trans s7.l.symm,s6.s.trans s7.s.symm⟩).mono ?_;rintro r wy ⟨rfl,hby⟩;have vv:=zc vv hby;go_wp2_with fail
 refine hK.out _ _ (⟨zV (za kA vv),zV (za kX vv)⟩) (fun hHeld => ?_);clear hK K
 try simp only [Act.put,lA,lB,lC]
 refine kK 4 ⟨some 44,.unOp .not 4 (.tmp 43),4,"exact.go:4418",#[⟨3,.data⟩],none⟩ ?_;refine wpAnyH_done (by kernel_rfl) ?_ _;have pS:=zc pS vv;have tG:=tG.below vv;have kG:=za kG vv;have kX:=za kX vv;have kA:=za kA vv;have o6:=o6.below vv;have fO:=zbO fO vv;have uG:=zc uG vv;obtain ⟨w11,hw11⟩:∃u,u=wy:=⟨_,rfl⟩;subst hw11;clear hHeld vv hbz hby o7 s7 z7;go_wp2_with fail
 refine (zbN ea en ec l _ (HHE.out.below uG) HEN.out).mono ?_;rintro e w11e ⟨aG,cG,rfl,gO,hb⟩;have pS:=zc pS hb;have tG:=tG.below hb;have kG:=za kG hb;have kX:=za kX hb;have kA:=za kA hb;have o6:=o6.below hb;have fO:=zbO fO hb;have uG:=zc uG hb;clear hb;go_wp2_with fail
 refine (zfx aF en cF aG en cG l _ (zB (F:=evF) fO) (zB (F:=evF) gO)).mono ?_;rintro e w11f ⟨rfl,hb⟩;have pS:=zc pS hb;have tG:=tG.below hb;have kG:=za kG hb;have kX:=za kX hb;have kA:=za kA hb;have o6:=o6.below hb;have fO:=zbO fO hb;have uG:=zc uG hb;clear hb gO;obtain ⟨x0,x1,x2⟩:=zV kX;go_wp2_with fail
 refine (zer _ M6 _ o6 HF6.out).mono ?_;rintro e w12 ⟨rfl,oM6,O⟩;have tG:=tG.only O (fun b hb hc=>by have h1:=(tG.blk b hb).1; have h2:=HX6.out b hc; have h3:=HVX.out; omega);have kG:=O.kept kG (o6.box_apart kG);have pS:=pS.trans (O.below pS.size (fun b hb=>Nat.le_trans HS6.out (o6.blk b hb).1));have uG:=uG.trans (O.below uG.size (fun b hb=>Nat.le_trans HU6.out (o6.blk b hb).1));have kA:=O.kept kA (fun hc=>by have h1:=(o6.blk _ hc).1; have h2:=HU7.out; omega);have fO:=O.own fO (fun b hb hc=>by have h1:=(HFB.out b hb).1; have h2:=HX6.out b hc; omega);have HE6:Hid (0≤endM M6∧endM M6≤1099511627776):=hide (by have h1:=HF6.out; unfold NV.Fits at h1; unfold endM; have:=zcz M6.bs 1; omega);clear x0 x1 x2 o6 oM6 O kX;generalize hE6:endM M6=E6 at *;go_wp2_with fail
 refine (zdS _ aF en cF l E6 _ fO (by have:=HEN.out; omega) HE6.out.1 HE6.out.2).mono ?_;rintro e w13 ⟨rfl,fM,hg13⟩;have O:=Only.of_grown hg13;have tG:=tG.only O (fun b hb hc=>by have h1:=(tG.blk b hb).1; have h2:=(HFB.out b (zR.2 hc)).2; omega);have kG:=ze kG hg13 (fun b e=>zy fO kG (by decide) b e);have pS:=pS.trans (O.below pS.size (fun b hb=>by have h1:=(HFB.out b (zR.2 hb)).1; have h2:=HVS.out; omega));have uG:=uG.trans (O.below uG.size (fun b hb=>by have h1:=(HFB.out b (zR.2 hb)).1; have h2:=HVS.out; have h3:=HU6.out; omega));have kA:=O.kept kA (fun hc=>by have h1:=(HFB.out _ (zR.2 hc)).1; have h2:=HVS.out; have h3:=HU7.out; omega);clear fO fM hg13 O;have hj:0≤E6+2*(en:Int):=by have:=HE6.out.1; omega
 generalize hE7:E6+2*(en:Int)=E7 at *;have j0:¬(E7 < 0):=by omega
 clear hj hE7;obtain ⟨z0,z1,z2⟩:=zV kG;obtain ⟨s0,s1,s2⟩:=zV (za kS pS);go_wp2_with fail
 refine (zcB M8 M4 _ tG.row (rS.below pS) HSM8.out).mono ?_;rintro e w16 ⟨rfl,hb⟩;have pS:=zc pS hb;have tG:=tG.below hb;have kG:=za kG hb;have uG:=zc uG hb;have kA:=za kA hb;clear hb z0 z1 z2 s0 s1 s2;obtain ⟨z0,z1,z2⟩:=zV kG;go_wp2_with fail
 refine (zer _ M8 _ tG HT.out).mono ?_;rintro e w17 ⟨rfl,tM,O⟩;have pS:=pS.trans (O.below pS.size (fun b hb=>Nat.le_trans HZ8.out (tG.blk b hb).1));have uG:=uG.trans (O.below uG.size (fun b hb=>Nat.le_trans HZ9.out (tG.blk b hb).1));have kA:=O.kept kA (fun hc=>by have h1:=(tG.blk _ hc).1; have h2:=HZ8.out; have h3:=HU7.out; omega);have kG:=O.kept kG (tG.box_apart kG);clear tG O z0 z1 z2;obtain ⟨z0,z1,z2⟩:=zV kG;go_wp2_with fail
 refine (zef _ M8 _ tM HT.out).mono ?_;rintro e w18 ⟨rfl,hb⟩;have pS:=zc pS hb;have tM:=tM.below hb;have kG:=za kG hb;have uG:=zc uG hb;have kA:=za kA hb;clear hb z0 z1 z2;have HE:Hid (0≤endM M8):=hide (by unfold endM; have:=zcz M8.bs 1; omega);generalize hEN:endM M8=EN at *;have j1:¬(EN < 0):=by have:=HE.out; omega
 obtain ⟨x0,x1,x2⟩:=zV kA;go_wp2_with fail
 refine (zdt N0 _ (h0.below uG) HZ.out).mono ?_;rintro e w19 ⟨M9,rfl,o9,s9,z9,hb⟩;have hz9:=zcY o9.row (by rw [z9]; exact HZ.out);have pS:=zc pS hb;have tM:=tM.below hb;have kG:=za kG hb;have uG:=zc uG hb;clear hb z9 x0 x1 x2;go_wp2_with fail
 refine (zbN ea en ec l _ (HHE.out.below uG) HEN.out).mono ?_;rintro e w20e ⟨aH,cH,rfl,hO,hb⟩;have o9:=o9.below hb;have pS:=zc pS hb;have tM:=tM.below hb;have kG:=za kG hb;have uG:=zc uG hb;clear hb;go_wp2_with fail
 refine (zcL M9 aH en cH l _ o9.row hz9 (zB (F:=evF) hO) (by rw [show M9.brs=N0.brs from s9.b]; exact HRG.out)).mono ?_;rintro e w21 ⟨MH,rfl,nH,rH0,hbH⟩;have HSMH:Hid (MH.Same M4):=hide (ziH (zdD _ (by have:=rH0; rwa [zex s9] at this) (by have:=R4.out; rwa [zex s2] at this)));generalize hwH:w21.alloc (Obj.cells #[.slice MH.ba MH.bn MH.bc,.slice MH.la MH.ln MH.lc,.slice MH.sa MH.sn MH.sc] 34)=wH;have bH:=zb hwH;have kH:=zk hwH;have hb:=zc hbH bH;have rH:=(nH.below bH).row;have pS:=zc pS hb;have tM:=tM.below hb;have kG:=za kG hb;have uG:=zc uG hb;clear hb hbH bH nH o9 hz9 rH0;obtain ⟨v0,v1,v2⟩:=zV kH;obtain ⟨s0,s1,s2⟩:=zV (za kS pS);go_wp2_with fail
 refine (zcB MH M4 _ rH (rS.below pS) HSMH.out).mono ?_;rintro e w22 ⟨rfl,hb⟩;have pS:=zc pS hb;have tM:=tM.below hb;have kG:=za kG hb;have uG:=zc uG hb;clear hb v0 v1 v2 kH s0 s1 s2;obtain ⟨z0,z1,z2⟩:=zV kG;go_wp2_with fail
 refine (zef _ M8 _ tM HT.out).mono ?_;rintro e w23 ⟨rfl,hb⟩;rw [hEN];have HB:=hide (zc uG hb);clear hb pS tM kG kS rS uG z0 z1 z2;go_wp2;go_ret;exact ⟨rfl,HB.out⟩

theorem fnExactSteps_own:ownKnob Tryz.prog.godebug=none:=by kernel_rfl
theorem fnExactSteps_laid:laidOutB Tryz.prog=true:=by kernel_rfl

open Go.ChangeShapes Go.WideShapes Go.ChangeAt in
open Go.ChangeMaps (open_string shut_string) in
theorem fnExactSteps_lifted (os:Os) (started:os.Started) (H:Type) (enc:TypeId × Value→H) :
  ReturnsInHanded {} Tryz.checked os 4 .any (Rows.fnExactStepsSpec.pre6 enc Tryz.prog Tryz.f4 Rows.fnExactStepsRow.domain false) (Rows.fnExactStepsSpec.post enc Tryz.prog Tryz.f4 false true false false):=by
 refine returnsInHanded_of_change (C:=Tryz.checked) fnExactSteps_own started (by kernel_rfl) Tryz.func4
  (ChangeSpec.witness6 (enc:=enc) (C:=Tryz.checked) false ⟨#[],#[.agg #[.slice none 0 0,.slice none 0 0,.slice none 0 0],.slice none 0 0],[]⟩ 8 (by kernel_rfl) (by kernel_rfl) (by kernel_rfl) (by kernel_rfl)) ?_
 intro W base args ds gs before hval0 hW hcnd _;have hval:∀(j:Nat) t v,Tryz.f4.params[j]?=some t→args[j]?=some v→Value.okWide Tryz.prog W .any base t v:=hval0;have hW':=hW;obtain ⟨p,q,hA0,hV,rfl,hfz,hnd⟩:=hW;have hA:DataW.TrodAll enc Tryz.prog W 0 (fun _=>true) true Tryz.f4.params.toList args.toList ds p:=hA0;rw [Tryz.params4] at hA hval;obtain ⟨v0,vs0,d0,ds0,p0,q0,hargs,rfl,rfl,h0,r0⟩:=trodAll_cons hA;obtain ⟨v1,vs1,d1,ds1,p1,q1,rfl,rfl,rfl,h1,r1⟩:=trodAll_cons r0;obtain ⟨rfl,rfl,rfl⟩:=trodAll_nil r1;obtain rfl:args=#[v0,v1]:=by cases args; simp_all
 obtain ⟨rfl,rfl⟩:=trodVars_none hV;have k0:=h0;have lt0:∀x∈p0,x.block < W.heap.size:=by obtain ⟨m,hm⟩:=k0; exact DataW.trod_lt m _ _ _ hm
 have bt:zg2 Tryz.prog 96 9 90 195 118 91 197 94 92 215 60 3 4 _ _ _ _ _ _ _ _ _ _ _ _ _ _ _ _ _ _ _ _ _ _ _ _ _ _ _ _ _:=⟨Tryz.underlying96,Tryz.underlying9,Tryz.underlying90,Tryz.underlying195,Tryz.underlying118,Tryz.underlying91,Tryz.underlying197,Tryz.underlying94,Tryz.underlying92,Tryz.underlying215,Tryz.underlying60,Tryz.underlying3,Tryz.underlying4,⟨rfl,rfl⟩,⟨rfl,rfl⟩,⟨rfl,rfl⟩,⟨rfl,rfl⟩,⟨rfl,rfl⟩,⟨rfl,rfl⟩,⟨rfl,rfl⟩,⟨rfl,rfl⟩,⟨rfl,rfl⟩,⟨rfl,rfl⟩,⟨rfl,rfl⟩,⟨rfl,rfl⟩,⟨rfl,rfl⟩,⟨rfl,rfl⟩,⟨rfl,rfl⟩,⟨rfl,rfl⟩,⟨rfl,rfl⟩,⟨rfl,rfl⟩,⟨rfl,rfl⟩,⟨rfl,rfl⟩,⟨rfl,rfl⟩,⟨rfl,rfl⟩,⟨rfl,rfl⟩,⟨rfl,rfl⟩,⟨rfl,rfl⟩,⟨rfl,rfl⟩,⟨rfl,rfl⟩,⟨rfl,rfl⟩,⟨rfl,rfl⟩,(by kernel_rfl),(by kernel_rfl),(by kernel_rfl),(by kernel_rfl),(by kernel_rfl),(by kernel_rfl),(by kernel_rfl),(by kernel_rfl),(by kernel_rfl),(by kernel_rfl),(by kernel_rfl),(by kernel_rfl),(by kernel_rfl)⟩;have bl:zfr Tryz.prog 23 116 3 _ _ _ _:=⟨Tryz.underlying23,Tryz.underlying116,Tryz.underlying3,⟨rfl,rfl⟩,⟨rfl,rfl⟩,⟨rfl,rfl⟩,⟨rfl,rfl⟩,(by kernel_rfl),(by kernel_rfl)⟩;have bn:zg4 Tryz.prog 26 22 96 23 24 120 118 3 4 _ _ _ _ _ _ _ _ _ _ _:=⟨Tryz.underlying26,Tryz.underlying22,Tryz.underlying24,Tryz.underlying120,Tryz.underlying118,Tryz.underlying3,Tryz.underlying4,⟨rfl,rfl⟩,⟨rfl,rfl⟩,⟨rfl,rfl⟩,⟨rfl,rfl⟩,⟨rfl,rfl⟩,⟨rfl,rfl⟩,⟨rfl,rfl⟩,⟨rfl,rfl⟩,⟨rfl,rfl⟩,⟨rfl,rfl⟩,⟨rfl,rfl⟩,(by kernel_rfl),(by kernel_rfl),(by kernel_rfl),(by kernel_rfl),(by kernel_rfl),(by kernel_rfl),(by kernel_rfl),(by kernel_rfl)⟩;obtain ⟨N0,rfl,w0,g0⟩:=zlb bt bl bn (hval 0 26 v0 rfl rfl) h0;have k1:=h1;have lt1:∀x∈p1,x.block < W.heap.size:=by obtain ⟨m,hm⟩:=k1; exact DataW.trod_lt m _ _ _ hm
 have be:zg3 Tryz.prog 43 28 3 _ _:=⟨Tryz.underlying43,Tryz.underlying28,Tryz.underlying3,⟨rfl,rfl⟩,⟨rfl,rfl⟩,(by kernel_rfl),(by kernel_rfl)⟩;obtain ⟨a1,len1,cap1,rfl⟩:=okWide_slice Tryz.underlying43 (hval 1 43 v1 rfl rfl);obtain ⟨z1,w1⟩:∃zs,GRow evF W a1 len1 cap1 zs:=by
  obtain ⟨fuel,hf⟩:=h1;obtain ⟨ao,m,c,l,e,hl,hr⟩:=zhN be hf;cases e;exact ⟨l,hl⟩
 clear hA0 hval0;refine (zed N0 a1 len1 cap1 z1 W w0 g0 w1).mono fun e W' ⟨he,bel⟩ => ?_
 subst he;exact ⟨_,rfl,_,_,_,[],_,[],hW',trodAll_mk1 (shut_bool Tryz.underlying4 _),(trodAll_cons_mk (Below.trod fnExactSteps_laid (by kernel_rfl) (of_decide_eq_true (by kernel_rfl)) k0 bel lt0) (trodAll_cons_mk (Below.trod fnExactSteps_laid (by kernel_rfl) (of_decide_eq_true (by kernel_rfl)) k1 bel lt1) trodAll_mk0)),rfl,bel.frame _,fun h=>by cases h⟩

theorem fnExactSteps_holds:Rows.FnExactStepsSaid :=
 OpenClaim.holds_of_wide 4 Tryz.f4 rfl rfl rfl rfl rfl rfl rfl ⟨rfl,rfl,rfl,rfl,rfl⟩ rfl rfl rfl rfl rfl (by kernel_rfl) Tryz.func4 (by kernel_rfl)
  (of_decide_eq_true (by kernel_rfl)) (by unfold Func.isWrapper; first | (rw [if_pos (by decide +kernel)]; kernel_rfl) | (rw [if_neg (by decide +kernel)]; exact ⟨rfl,rfl⟩))
  (fun os started H enc _=>fnExactSteps_lifted os started H enc)

#print axioms fnExactSteps_holds

end Go.Proofs.YtpaneiaflfegoaaGreat
