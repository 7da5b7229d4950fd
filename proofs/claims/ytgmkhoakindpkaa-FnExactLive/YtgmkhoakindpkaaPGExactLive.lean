/-
  FnExactLive answers true at all arguments: Live answers as the specification; it writes into no argument; its answer owns its memory, behind another call too.
-/
import Derived.Test.YtgmkhoakindpkaaPGKW
import Derived.Test.YtgmkhoakindpkaaPGK01
import Derived.Test.YtgmkhoakindpkaaPGK03
import Derived.Test.YtgmkhoakindpkaaPGK13
import Derived.Test.YtgmkhoakindpkaaPGK15
import Derived.Test.YtgmkhoakindpkaaPGK16
import Derived.WalkKit
import Derived.ProofKit
import Derived.OpenShut
import Derived.ShutString
import Derived.ChangeOld
import Derived.Below
import Derived.Lib.SmallJoins
namespace Go.Proofs.Ytgmkhoakindpkaa
set_option maxRecDepth 100000
set_option maxHeartbeats 16000000
open Go.RowKit

theorem zbJ (N0:NV) (w:World) (h0:zJ w N0) (g0:N0.Rng) :
  Calls Try.prog 4 #[.agg #[.slice N0.ba N0.bn N0.bc,.slice N0.la N0.ln N0.lc,.slice N0.sa N0.sn N0.sc]] w fun e w'=>e=.returned (.bool true)∧Below w.heap.size w w':=by
 generalize hwA:w.alloc (Obj.cells #[.slice N0.ba N0.bn N0.bc,.slice N0.la N0.ln N0.lc,.slice N0.sa N0.sn N0.sc] 26)=wA;have uA:=zb hwA;have kA:=zk hwA;have HZA:Hid (wA.heap.size=w.heap.size+1):=hide (by rw [← hwA]; simp);obtain ⟨x0,x1,x2⟩:=zu kA;by_cases gb:¬sizeN N0≤1048576
 ·go_enter Try.func4,Try.ntmps4;(go_wp2_with fail);refine (zba N0 1048576 _ (h0.below uA) g0 (by omega) (by omega)).mono ?_;rintro e w1 ⟨rfl,hb1⟩;rw [if_neg (show ¬sizeN N0≤1048576 by omega)];have HB:=hide (zc uA hb1);clear x0 x1 x2;go_wp2;go_ret;exact ⟨rfl,HB.out⟩
 have gb:sizeN N0≤1048576:=by omega
 have gs:¬((1048576:Int) - sizeN N0 < 0):=by omega
 obtain ⟨LL,hLL⟩:∃l:List Int,l=zH N0.brs N0.ls N0.ls.length:=⟨_,rfl⟩;have HN20:Hid (LL.length≤1048576):=hide (by have:=(zar h0 gb).2.1; have h1:=h0.l.size; rw [hLL]; exact Nat.le_trans (zbr _ _ _) (by omega));have HI:Hid (I64s LL):=hide (by rw [hLL]; exact zfr _ _ _ (by have:=(zar h0 gb).2.1; have h1:=h0.l.size; omega));have HIM:Hid (I64s (zS 1 LL.length)):=hide (zbG 1 LL.length (by omega) (by omega) (by have:=HN20.out; omega));have HLL:=hide hLL;have HGL:=hide g0.l;clear hLL;go_enter Try.func4,Try.ntmps4;go_wp2_with fail
 refine (zba N0 1048576 _ (h0.below uA) g0 (by omega) (by omega)).mono ?_;rintro e w1 ⟨rfl,hb1⟩;rw [if_pos gb];have kA:=za kA hb1;have u1:=zc uA hb1;have HZ1:Hid (w.heap.size < w1.heap.size):=hide (by have:=hb1.size; have:=HZA.out; omega);clear hb1 x0 x1 x2;obtain ⟨x0,x1,x2⟩:=zu kA;have HZ:=hide gb;generalize hSZ:sizeN N0=SZ at gs;clear gb hSZ;go_wp2_with fail
 refine (zbc N0 _ (h0.below u1) HZ.out).mono ?_;rintro e w2 ⟨M2,rfl,o2,s2,z2,hb2⟩;go_wp2_with fail
 refine (zej M2 LL _ (o2.row) (by rw [HLL.out,show M2.brs=N0.brs from s2.b,s2.l]) (by have:=(zar h0 HZ.out).2.1; have h1:=h0.l.size; have h2:=(o2.row).l.size; rw [s2.l] at h2; omega) (by rw [s2.l]; exact HGL.out)).mono ?_;rintro e w4 ⟨aS,cS,rfl,sO,hb4⟩;have d:=zc hb2 hb4;have kA:=za kA d;have uS:=zc u1 d;have HZS:Hid (w.heap.size < w4.heap.size):=hide (by have:=d.size; have:=HZ1.out; omega);have HS4:Hid (∀b,(Value.slice aS LL.length cS).ownBlock=some b→b < w4.heap.size):=hide (fun b hb=>(sO.lt b hb).2);clear hb2 hb4 o2 x0 x1 x2 u1 d z2;obtain ⟨x0,x1,x2⟩:=zu kA;go_wp2_with fail
 refine (zbc N0 _ (h0.below uS) HZ.out).mono ?_;rintro e w6 ⟨M6,rfl,o6,s6,z6,hb6⟩;generalize hwX:w6.alloc (Obj.cells #[.slice M6.ba M6.bn M6.bc,.slice M6.la M6.ln M6.lc,.slice M6.sa M6.sn M6.sc] 33)=wX;have bX:=zb hwX;have kX:=zk hwX;have o6:=o6.below bX;have pS:=zc hb6 bX;have kA:=za kA pS;have sO:=zK sO pS;have uX:=zc uS pS;have HF6:=hide (zfd o6.row (by rw [z6]; exact HZ.out));have HU6:Hid (w.heap.size≤w4.heap.size):=hide uS.size;have HU7:Hid (w.heap.size < w4.heap.size):=HZS;have HU8:Hid (w.heap.size < wX.heap.size):=hide (by have:=pS.size; have:=HZS.out; omega);have HU9:Hid (w.heap.size≤wX.heap.size):=hide uX.size;have HX6:Hid (∀b∈M6.blksA,b < wX.heap.size):=hide (fun b hb=>(o6.blk b hb).2);have HP4:Hid (w4.heap.size≤wX.heap.size):=hide pS.size;clear hb6 bX x0 x1 x2 z6 pS;generalize hXX:w6.heap.size=X at *;obtain ⟨y0,y1,y2⟩:=zu kX;go_wp2_with fail
 refine (zb0 M6 LL _ (o6.row) (by rw [HLL.out,show M6.brs=N0.brs from s6.b,s6.l]) (by have:=(zar h0 HZ.out).2.1; have h1:=h0.l.size; have h2:=(o6.row).l.size; rw [s6.l] at h2; omega) (by rw [s6.l]; exact HGL.out)).mono ?_;rintro e w8 ⟨aG,cG,rfl,gO,hb8⟩;have HNE:Hid (∀b,(Value.slice aS LL.length cS).ownBlock=some b→(Value.slice aG LL.length cG).ownBlock≠some b):=hide (fun b hb hc=>by have h1:=(gO.lt b hc).1; have h2:=HS4.out b hb; have h3:=HP4.out; omega);have sO:=zK sO hb8;have uG:=zc uX hb8;have kA:=za kA hb8;have kX:=za kX hb8;have o6:=o6.below hb8;clear hb8 y0 y1 y2 uX;go_wp2_with fail
 refine (zbp aG LL.length cG aS LL.length cS LL _ (zap gO HI.out) (zap sO HI.out)).mono ?_;rintro e w9 ⟨rfl,n9,rfl⟩;have d9:=zaL (Below.refl w8.heap.size w8) n9;generalize w8.drewN n9=w9 at *;have sO:=zK sO d9;have gO:=zK gO d9;have uG:=zc uG d9;have kA:=za kA d9;have kX:=za kX d9;have o6:=o6.below d9;clear d9;have vv:Below w9.heap.size w9 w9.drew:=zC (Below.refl _ _);go_wp2_with fail
 refine wp_region_held_drew (S:=(fun W=>(W.cell? ⟨w.heap.size,0,none⟩=some (.slice N0.ba N0.bn N0.bc)∧W.cell? ⟨w.heap.size,1,none⟩=some (.slice N0.la N0.ln N0.lc)∧W.cell? ⟨w.heap.size,2,none⟩=some (.slice N0.sa N0.sn N0.sc))∧(W.cell? ⟨X,0,none⟩=some (.slice M6.ba M6.bn M6.bc)∧W.cell? ⟨X,1,none⟩=some (.slice M6.la M6.ln M6.lc)∧W.cell? ⟨X,2,none⟩=some (.slice M6.sa M6.sn M6.sc)))) (by kernel_rfl) (⟨zu (za kA vv),zu (za kX vv)⟩) (fun hHeld => ?_);refine kK 0 ⟨some 27,.load 33 (.tmp 5),33,"exact.go:4579",#[],none⟩ ?_;refine kK 1 ⟨some 28,.load 26 (.tmp 1),26,"exact.go:4579",#[],none⟩ ?_;refine kR 2 ⟨some 29,.call ⟨.value (.func 8),#[.tmp 28],#[26]⟩,33,"exact.go:4579",#[⟨1,.data⟩],none⟩ (fun K hK => ?_);go_simp;refine (zbc N0 _ (h0.below (zc uG vv)) HZ.out).mono ?_;rintro r wz ⟨M7,rfl,o7,s7,z7,hbz⟩;have vv:=zc vv hbz;go_wp2_with fail
 refine hK.out _ _ (⟨zu (za kA vv),zu (za kX vv)⟩) (fun hHeld => ?_);clear hK K
 try simp only [Act.put,lA,lB,lC]
 refine kR 3 ⟨some 30,.call ⟨.value (.func 10),#[.tmp 27,.tmp 29],#[33,33]⟩,4,"exact.go:4579",#[⟨0,.data⟩,⟨2,.data⟩,⟨2,.chain⟩],none⟩ (fun K hK => ?_);go_simp;refine (zbT M6 M7 _ (o6.row.below vv) o7.row ⟨s6.b.trans s7.b.symm,s6.l.trans s7.l.symm,s6.s.trans s7.s.symm⟩).mono ?_;rintro r wy ⟨rfl,hby⟩;have vv:=zc vv hby;go_wp2_with fail
 refine hK.out _ _ (⟨zu (za kA vv),zu (za kX vv)⟩) (fun hHeld => ?_);clear hK K
 try simp only [Act.put,lA,lB,lC]
 refine kK 4 ⟨some 31,.unOp .not 4 (.tmp 30),4,"exact.go:4579",#[⟨3,.data⟩],none⟩ ?_;refine wpAnyH_done (by kernel_rfl) ?_ _;have sO:=zK sO vv;have gO:=zK gO vv;have kX:=za kX vv;have kA:=za kA vv;have o6:=o6.below vv;have uG:=zc uG vv;obtain ⟨w11,hw11⟩:∃u,u=wy:=⟨_,rfl⟩;subst hw11;clear hHeld vv hbz hby o7 s7 z7;obtain ⟨x0,x1,x2⟩:=zu kX;go_wp2_with fail
 refine (zdp _ M6 _ o6 HF6.out).mono ?_;rintro e w12 ⟨rfl,oM6,O⟩;have gO:=O.own gO (fun b hb hc=>by have h1:=(gO.lt b hb).1; have h2:=HX6.out b hc; omega);have sO:=O.own sO (fun b hb hc=>by have h1:=HS4.out b hb; have h2:=(o6.blk b hc).1; omega);have uG:=uG.trans (O.below uG.size (fun b hb=>Nat.le_trans HU6.out (o6.blk b hb).1));have kA:=O.kept kA (fun hc=>by have h1:=(o6.blk _ hc).1; have h2:=HU7.out; omega);have HE6:Hid (0≤endM M6):=hide (by unfold endM; have:=zbo M6.bs 1; omega);clear x0 x1 x2 o6 oM6 O kX;generalize hE6:endM M6=E6 at *;have j0:¬(E6 < 0):=by have:=HE6.out; omega
 go_wp2_with fail
 refine (zbp aG LL.length cG aS LL.length cS LL _ (zap gO HI.out) (zap sO HI.out)).mono ?_;rintro e w16 ⟨rfl,n16,rfl⟩;have d16:=zaL (Below.refl w12.heap.size w12) n16;generalize w12.drewN n16=w16 at *;have sO:=zK sO d16;have gO:=zK gO d16;have uG:=zc uG d16;have kA:=za kA d16;clear d16 j0;go_wp2_with fail
 refine (zbC _ aG LL.length cG LL 1 _ gO (by have:=HN20.out; omega) (by omega) (by omega)).mono ?_;rintro e w17 ⟨rfl,gM,hg17⟩;have sO:=(Only.of_grown hg17).own sO (fun b hb hc=>HNE.out b hb (zr.2 hc));have uG:=uG.trans ((Only.of_grown hg17).below uG.size (fun b hb=>Nat.le_trans HU9.out (gO.lt b (zr.2 hb)).1));have kA:=(Only.of_grown hg17).kept kA (fun hc=>by have h1:=(gO.lt _ (zr.2 hc)).1; have h2:=HU8.out; omega);clear gO hg17;have j1:¬((1:Int)+(LL.length:Int) < 0):=by omega
 go_wp2_with fail
 refine (zcN aG LL.length cG 1 _ (zap gM HIM.out) (by have:=HN20.out; omega) (by omega) (by omega)).mono ?_;rintro e w18 ⟨rfl,e18⟩;obtain rfl:=e18.symm;obtain ⟨x0,x1,x2⟩:=zu kA;go_wp2_with fail
 refine (zbc N0 _ (h0.below uG) HZ.out).mono ?_;rintro e w19 ⟨M9,rfl,o9,s9,z9,hb⟩;have sO:=zK sO hb;have gM:=zK gM hb;have uG:=zc uG hb;clear hb z9 x0 x1 x2;go_wp2_with fail
 refine (zb0 M9 LL _ (o9.row) (by rw [HLL.out,show M9.brs=N0.brs from s9.b,s9.l]) (by have:=(zar h0 HZ.out).2.1; have h1:=h0.l.size; have h2:=(o9.row).l.size; rw [s9.l] at h2; omega) (by rw [s9.l]; exact HGL.out)).mono ?_;rintro e w21 ⟨aH,cH,rfl,hO,hb⟩;have sO:=zK sO hb;have gM:=zK gM hb;have uG:=zc uG hb;clear hb o9;go_wp2_with fail
 refine (zbp aH LL.length cH aS LL.length cS LL _ (zap hO HI.out) (zap sO HI.out)).mono ?_;rintro e w22 ⟨rfl,n22,rfl⟩;have d22:=zaL (Below.refl w21.heap.size w21) n22;generalize w21.drewN n22=w22 at *;have gM:=zK gM d22;have uG:=zc uG d22;clear d22 sO hO;go_wp2_with fail
 refine (zcN aG LL.length cG 1 _ (zap gM HIM.out) (by have:=HN20.out; omega) (by omega) (by omega)).mono ?_;rintro e w23 ⟨rfl,e23⟩;obtain rfl:=e23.symm;have HB:=hide uG;clear uG gM kA;go_wp2;go_ret;exact ⟨rfl,HB.out⟩

theorem fnExactLive_own:ownKnob Try.prog.godebug=none:=by kernel_rfl
theorem fnExactLive_laid:laidOutB Try.prog=true:=by kernel_rfl

open Go.ChangeShapes Go.WideShapes Go.ChangeAt in
open Go.ChangeMaps (open_string shut_string) in
theorem fnExactLive_lifted (os:Os) (started:os.Started) (H:Type) (enc:TypeId × Value→H) :
  ReturnsInHanded {} Try.checked os 4 .any (Rows.fnExactLiveSpec.pre6 enc Try.prog Try.f4 Rows.fnExactLiveRow.domain false) (Rows.fnExactLiveSpec.post enc Try.prog Try.f4 false true false false):=by
 refine returnsInHanded_of_change (C:=Try.checked) fnExactLive_own started (by kernel_rfl) Try.func4
  (ChangeSpec.witness6 (enc:=enc) (C:=Try.checked) false ⟨#[],#[.agg #[.slice none 0 0,.slice none 0 0,.slice none 0 0]],[]⟩ 8 (by kernel_rfl) (by kernel_rfl) (by kernel_rfl) (by kernel_rfl)) ?_
 intro W base args ds gs before hval0 hW hcnd _;have hval:∀(j:Nat) t v,Try.f4.params[j]?=some t→args[j]?=some v→Value.okWide Try.prog W .any base t v:=hval0;have hW':=hW;obtain ⟨p,q,hA0,hV,rfl,hfz,hnd⟩:=hW;have hA:DataW.TrodAll enc Try.prog W 0 (fun _=>true) true Try.f4.params.toList args.toList ds p:=hA0;rw [Try.params4] at hA hval;obtain ⟨v0,vs0,d0,ds0,p0,q0,hargs,rfl,rfl,h0,r0⟩:=trodAll_cons hA;obtain ⟨rfl,rfl,rfl⟩:=trodAll_nil r0;obtain rfl:args=#[v0]:=by cases args; simp_all
 obtain ⟨rfl,rfl⟩:=trodVars_none hV;have k0:=h0;have lt0:∀x∈p0,x.block < W.heap.size:=by obtain ⟨m,hm⟩:=k0; exact DataW.trod_lt m _ _ _ hm
 have bt:zcd Try.prog 87 9 81 158 106 82 160 85 83 179 37 3 4 _ _ _ _ _ _ _ _ _ _ _ _ _ _ _ _ _ _ _ _ _ _ _ _ _ _ _ _ _:=⟨Try.underlying87,Try.underlying9,Try.underlying81,Try.underlying158,Try.underlying106,Try.underlying82,Try.underlying160,Try.underlying85,Try.underlying83,Try.underlying179,Try.underlying37,Try.underlying3,Try.underlying4,⟨rfl,rfl⟩,⟨rfl,rfl⟩,⟨rfl,rfl⟩,⟨rfl,rfl⟩,⟨rfl,rfl⟩,⟨rfl,rfl⟩,⟨rfl,rfl⟩,⟨rfl,rfl⟩,⟨rfl,rfl⟩,⟨rfl,rfl⟩,⟨rfl,rfl⟩,⟨rfl,rfl⟩,⟨rfl,rfl⟩,⟨rfl,rfl⟩,⟨rfl,rfl⟩,⟨rfl,rfl⟩,⟨rfl,rfl⟩,⟨rfl,rfl⟩,⟨rfl,rfl⟩,⟨rfl,rfl⟩,⟨rfl,rfl⟩,⟨rfl,rfl⟩,⟨rfl,rfl⟩,⟨rfl,rfl⟩,⟨rfl,rfl⟩,⟨rfl,rfl⟩,⟨rfl,rfl⟩,⟨rfl,rfl⟩,⟨rfl,rfl⟩,(by kernel_rfl),(by kernel_rfl),(by kernel_rfl),(by kernel_rfl),(by kernel_rfl),(by kernel_rfl),(by kernel_rfl),(by kernel_rfl),(by kernel_rfl),(by kernel_rfl),(by kernel_rfl),(by kernel_rfl),(by kernel_rfl)⟩;have bl:zbt Try.prog 23 102 3 _ _ _ _:=⟨Try.underlying23,Try.underlying102,Try.underlying3,⟨rfl,rfl⟩,⟨rfl,rfl⟩,⟨rfl,rfl⟩,⟨rfl,rfl⟩,(by kernel_rfl),(by kernel_rfl)⟩;have bn:zce Try.prog 26 22 87 23 24 108 106 3 4 _ _ _ _ _ _ _ _ _ _ _:=⟨Try.underlying26,Try.underlying22,Try.underlying24,Try.underlying108,Try.underlying106,Try.underlying3,Try.underlying4,⟨rfl,rfl⟩,⟨rfl,rfl⟩,⟨rfl,rfl⟩,⟨rfl,rfl⟩,⟨rfl,rfl⟩,⟨rfl,rfl⟩,⟨rfl,rfl⟩,⟨rfl,rfl⟩,⟨rfl,rfl⟩,⟨rfl,rfl⟩,⟨rfl,rfl⟩,(by kernel_rfl),(by kernel_rfl),(by kernel_rfl),(by kernel_rfl),(by kernel_rfl),(by kernel_rfl),(by kernel_rfl),(by kernel_rfl)⟩;obtain ⟨N0,rfl,w0,g0⟩:=zdV bt bl bn (hval 0 26 v0 rfl rfl) h0;clear hA0 hval0;refine (zbJ N0 W w0 g0).mono fun e W' ⟨he,bel⟩ => ?_
 subst he;exact ⟨_,rfl,_,_,_,[],_,[],hW',trodAll_mk1 (shut_bool Try.underlying4 _),(trodAll_cons_mk (Below.trod fnExactLive_laid (by kernel_rfl) (of_decide_eq_true (by kernel_rfl)) k0 bel lt0) trodAll_mk0),rfl,bel.frame _,fun h=>by cases h⟩

theorem fnExactLive_holds:Rows.FnExactLiveSaid :=
 OpenClaim.holds_of_wide 4 Try.f4 rfl rfl rfl rfl rfl rfl rfl ⟨rfl,rfl,rfl,rfl,rfl⟩ rfl rfl rfl rfl rfl (by kernel_rfl) Try.func4 (by kernel_rfl)
  (of_decide_eq_true (by kernel_rfl)) (by unfold Func.isWrapper; first | (rw [if_pos (by decide +kernel)]; kernel_rfl) | (rw [if_neg (by decide +kernel)]; exact ⟨rfl,rfl⟩))
  (fun os started H enc _=>fnExactLive_lifted os started H enc)

#print axioms fnExactLive_holds

end Go.Proofs.Ytgmkhoakindpkaa
