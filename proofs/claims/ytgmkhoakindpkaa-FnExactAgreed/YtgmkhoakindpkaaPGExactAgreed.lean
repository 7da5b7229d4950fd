/-
  FnExactAgreed answers true at all arguments: Agreed answers as the specification; it writes into no argument.
-/
import Derived.Test.YtgmkhoakindpkaaPGKW
import Derived.Test.YtgmkhoakindpkaaPGK01
import Derived.Test.YtgmkhoakindpkaaPGK13
import Derived.Test.YtgmkhoakindpkaaPGK15
import Derived.WalkKit
import Derived.ProofKit
import Derived.OpenShut
import Derived.ShutString
import Derived.ChangeOld
import Derived.Below
import Derived.Lib.SmallJoins
namespace Go.Proofs.Ytgmkhoakindpkaa
set_option maxRecDepth 100000
set_option maxHeartbeats 16000000
open Go.RowKit

theorem zbl (N0:NV) (w:World) (h0:zJ w N0) (g0:N0.Rng) :
  Calls Try.prog 3 #[.agg #[.slice N0.ba N0.bn N0.bc,.slice N0.la N0.ln N0.lc,.slice N0.sa N0.sn N0.sc]] w fun e w'=>e=.returned (.bool true)∧Below w.heap.size w w':=by
 generalize hwA:w.alloc (Obj.cells #[.slice N0.ba N0.bn N0.bc,.slice N0.la N0.ln N0.lc,.slice N0.sa N0.sn N0.sc] 26)=wA;have uA:=zb hwA;have kA:=zk hwA;obtain ⟨x0,x1,x2⟩:=zu kA;by_cases gb:¬sizeN N0≤1048576
 ·go_enter Try.func3,Try.ntmps3;(go_wp2_with fail);refine (zba N0 1048576 _ (h0.below uA) g0 (by omega) (by omega)).mono ?_;rintro e w1 ⟨rfl,hb1⟩;rw [if_neg (show ¬sizeN N0≤1048576 by omega)];have HB:=hide (zc uA hb1);clear x0 x1 x2;go_wp2;go_ret;exact ⟨rfl,HB.out⟩
 have gb:sizeN N0≤1048576:=by omega
 have gs:¬((1048576:Int) - sizeN N0 < 0):=by omega
 go_enter Try.func3,Try.ntmps3;go_wp2_with fail
 refine (zba N0 1048576 _ (h0.below uA) g0 (by omega) (by omega)).mono ?_;rintro e w1 ⟨rfl,hb1⟩;rw [if_pos gb];have kA:=za kA hb1;have u1:=zc uA hb1;clear hb1 x0 x1 x2;obtain ⟨x0,x1,x2⟩:=zu kA;have HZ:=hide gb;generalize hSZ:sizeN N0=SZ at gs;clear gb hSZ;go_wp2_with fail
 refine (zbf N0 _ (h0.below u1) HZ.out).mono ?_;rintro e w2 ⟨M2,rfl,r2,s2,z2,hb2⟩;have gb:=HZ.out;go_wp2_with fail
 refine (zbN M2 _ r2).mono ?_;rintro e w3 ⟨rfl,hb3⟩;rw [s2.l,show M2.brs=N0.brs from s2.b];generalize hO:agreed N0.brs N0.ls=o1;have HO:=hide hO;clear hO;have d3:=zc hb2 hb3;have kA:=za kA d3;have u3:=zc u1 d3;clear hb2 hb3 x0 x1 x2 u1 d3 gb;obtain ⟨x0,x1,x2⟩:=zu kA;go_wp2_with fail
 refine (zbf N0 _ (h0.below u3) HZ.out).mono ?_;rintro e w5 ⟨M4,rfl,r4,s4,z4,hb4⟩;generalize hwX:w5.alloc (Obj.cells #[.slice M4.ba M4.bn M4.bc,.slice M4.la M4.ln M4.lc,.slice M4.sa M4.sn M4.sc] 33)=wX;have b4X:=zb hwX;have kX:=zk hwX;have rX:=r4.below b4X;have d4:=zc hb4 b4X;have kA:=za kA d4;have uX:=zc u3 d4;clear hb4 x0 x1 x2 u3 d4 r4;obtain ⟨y0,y1,y2⟩:=zu kX;go_wp2_with fail
 refine (zbK M4 _ rX).mono ?_;rintro e w6 ⟨rfl,hb6⟩;rw [s4.l,show M4.brs=N0.brs from s4.b,HO.out];have kA:=za kA hb6;have kX:=za kX hb6;have r6:=rX.below hb6;have uX:=zc uX hb6;clear hb6 y0 y1 y2 rX;have vv:Below w6.heap.size w6 w6.drew:=zC (Below.refl _ _);have gb:=HZ.out;go_wp2_with fail
 refine wp_region_held_drew (S:=(fun W=>(W.cell? ⟨w.heap.size,0,none⟩=some (.slice N0.ba N0.bn N0.bc)∧W.cell? ⟨w.heap.size,1,none⟩=some (.slice N0.la N0.ln N0.lc)∧W.cell? ⟨w.heap.size,2,none⟩=some (.slice N0.sa N0.sn N0.sc))∧(W.cell? ⟨w5.heap.size,0,none⟩=some (.slice M4.ba M4.bn M4.bc)∧W.cell? ⟨w5.heap.size,1,none⟩=some (.slice M4.la M4.ln M4.lc)∧W.cell? ⟨w5.heap.size,2,none⟩=some (.slice M4.sa M4.sn M4.sc)))) (by kernel_rfl) (⟨zu (za kA vv),zu (za kX vv)⟩) (fun hHeld => ?_);refine kK 0 ⟨some 22,.load 33 (.tmp 5),33,"exact.go:4560",#[],none⟩ ?_;refine kK 1 ⟨some 23,.load 26 (.tmp 1),26,"exact.go:4560",#[],none⟩ ?_;refine kR 2 ⟨some 24,.call ⟨.value (.func 8),#[.tmp 23],#[26]⟩,33,"exact.go:4560",#[⟨1,.data⟩],none⟩ (fun K hK => ?_);go_simp;refine (zbf N0 _ (h0.below (zc uX vv)) gb).mono ?_;rintro r wz ⟨M7,rfl,r7,s7,z7,hbz⟩;have v0:=vv;have vv:=zc vv hbz;go_wp2_with fail
 refine hK.out _ _ (⟨zu (za kA vv),zu (za kX vv)⟩) (fun hHeld => ?_);clear hK K
 try simp only [Act.put,lA,lB,lC]
 refine kR 3 ⟨some 25,.call ⟨.value (.func 10),#[.tmp 22,.tmp 24],#[33,33]⟩,4,"exact.go:4560",#[⟨0,.data⟩,⟨2,.data⟩,⟨2,.chain⟩],none⟩ (fun K hK => ?_);go_simp;refine (zbT M4 M7 _ (r6.below vv) r7 ⟨s4.b.trans s7.b.symm,s4.l.trans s7.l.symm,s4.s.trans s7.s.symm⟩).mono ?_;rintro r wy ⟨rfl,hby⟩;have vv:=zc vv hby;go_wp2_with fail
 refine hK.out _ _ (⟨zu (za kA vv),zu (za kX vv)⟩) (fun hHeld => ?_);clear hK K
 try simp only [Act.put,lA,lB,lC]
 refine kK 4 ⟨some 26,.unOp .not 4 (.tmp 25),4,"exact.go:4560",#[⟨3,.data⟩],none⟩ ?_;refine wpAnyH_done (by kernel_rfl) ?_ _;have HB:=hide (zc uX vv);clear hHeld vv kA kX;go_wp2;go_ret;exact ⟨rfl,HB.out⟩

theorem fnExactAgreed_own:ownKnob Try.prog.godebug=none:=by kernel_rfl
theorem fnExactAgreed_laid:laidOutB Try.prog=true:=by kernel_rfl

open Go.ChangeShapes Go.WideShapes Go.ChangeAt in
open Go.ChangeMaps (open_string shut_string) in
theorem fnExactAgreed_lifted (os:Os) (started:os.Started) (H:Type) (enc:TypeId × Value→H) :
  ReturnsInHanded {} Try.checked os 3 .any (Rows.fnExactAgreedSpec.pre6 enc Try.prog Try.f3 Rows.fnExactAgreedRow.domain false) (Rows.fnExactAgreedSpec.post enc Try.prog Try.f3 false true false false):=by
 refine returnsInHanded_of_change (C:=Try.checked) fnExactAgreed_own started (by kernel_rfl) Try.func3
  (ChangeSpec.witness6 (enc:=enc) (C:=Try.checked) false ⟨#[],#[.agg #[.slice none 0 0,.slice none 0 0,.slice none 0 0]],[]⟩ 8 (by kernel_rfl) (by kernel_rfl) (by kernel_rfl) (by kernel_rfl)) ?_
 intro W base args ds gs before hval0 hW hcnd _;have hval:∀(j:Nat) t v,Try.f3.params[j]?=some t→args[j]?=some v→Value.okWide Try.prog W .any base t v:=hval0;have hW':=hW;obtain ⟨p,q,hA0,hV,rfl,hfz,hnd⟩:=hW;have hA:DataW.TrodAll enc Try.prog W 0 (fun _=>true) true Try.f3.params.toList args.toList ds p:=hA0;rw [Try.params3] at hA hval;obtain ⟨v0,vs0,d0,ds0,p0,q0,hargs,rfl,rfl,h0,r0⟩:=trodAll_cons hA;obtain ⟨rfl,rfl,rfl⟩:=trodAll_nil r0;obtain rfl:args=#[v0]:=by cases args; simp_all
 obtain ⟨rfl,rfl⟩:=trodVars_none hV;have k0:=h0;have lt0:∀x∈p0,x.block < W.heap.size:=by obtain ⟨m,hm⟩:=k0; exact DataW.trod_lt m _ _ _ hm
 have bt:zcd Try.prog 87 9 81 158 106 82 160 85 83 179 37 3 4 _ _ _ _ _ _ _ _ _ _ _ _ _ _ _ _ _ _ _ _ _ _ _ _ _ _ _ _ _:=⟨Try.underlying87,Try.underlying9,Try.underlying81,Try.underlying158,Try.underlying106,Try.underlying82,Try.underlying160,Try.underlying85,Try.underlying83,Try.underlying179,Try.underlying37,Try.underlying3,Try.underlying4,⟨rfl,rfl⟩,⟨rfl,rfl⟩,⟨rfl,rfl⟩,⟨rfl,rfl⟩,⟨rfl,rfl⟩,⟨rfl,rfl⟩,⟨rfl,rfl⟩,⟨rfl,rfl⟩,⟨rfl,rfl⟩,⟨rfl,rfl⟩,⟨rfl,rfl⟩,⟨rfl,rfl⟩,⟨rfl,rfl⟩,⟨rfl,rfl⟩,⟨rfl,rfl⟩,⟨rfl,rfl⟩,⟨rfl,rfl⟩,⟨rfl,rfl⟩,⟨rfl,rfl⟩,⟨rfl,rfl⟩,⟨rfl,rfl⟩,⟨rfl,rfl⟩,⟨rfl,rfl⟩,⟨rfl,rfl⟩,⟨rfl,rfl⟩,⟨rfl,rfl⟩,⟨rfl,rfl⟩,⟨rfl,rfl⟩,⟨rfl,rfl⟩,(by kernel_rfl),(by kernel_rfl),(by kernel_rfl),(by kernel_rfl),(by kernel_rfl),(by kernel_rfl),(by kernel_rfl),(by kernel_rfl),(by kernel_rfl),(by kernel_rfl),(by kernel_rfl),(by kernel_rfl),(by kernel_rfl)⟩;have bl:zbt Try.prog 23 102 3 _ _ _ _:=⟨Try.underlying23,Try.underlying102,Try.underlying3,⟨rfl,rfl⟩,⟨rfl,rfl⟩,⟨rfl,rfl⟩,⟨rfl,rfl⟩,(by kernel_rfl),(by kernel_rfl)⟩;have bn:zce Try.prog 26 22 87 23 24 108 106 3 4 _ _ _ _ _ _ _ _ _ _ _:=⟨Try.underlying26,Try.underlying22,Try.underlying24,Try.underlying108,Try.underlying106,Try.underlying3,Try.underlying4,⟨rfl,rfl⟩,⟨rfl,rfl⟩,⟨rfl,rfl⟩,⟨rfl,rfl⟩,⟨rfl,rfl⟩,⟨rfl,rfl⟩,⟨rfl,rfl⟩,⟨rfl,rfl⟩,⟨rfl,rfl⟩,⟨rfl,rfl⟩,⟨rfl,rfl⟩,(by kernel_rfl),(by kernel_rfl),(by kernel_rfl),(by kernel_rfl),(by kernel_rfl),(by kernel_rfl),(by kernel_rfl),(by kernel_rfl)⟩;obtain ⟨N0,rfl,w0,g0⟩:=zdV bt bl bn (hval 0 26 v0 rfl rfl) h0;clear hA0 hval0;refine (zbl N0 W w0 g0).mono fun e W' ⟨he,bel⟩ => ?_
 subst he;exact ⟨_,rfl,_,_,_,[],_,[],hW',trodAll_mk1 (shut_bool Try.underlying4 _),(trodAll_cons_mk (Below.trod fnExactAgreed_laid (by kernel_rfl) (of_decide_eq_true (by kernel_rfl)) k0 bel lt0) trodAll_mk0),rfl,bel.frame _,fun h=>by cases h⟩

theorem fnExactAgreed_holds:Rows.FnExactAgreedSaid :=
 OpenClaim.holds_of_wide 3 Try.f3 rfl rfl rfl rfl rfl rfl rfl ⟨rfl,rfl,rfl,rfl,rfl⟩ rfl rfl rfl rfl rfl (by kernel_rfl) Try.func3 (by kernel_rfl)
  (of_decide_eq_true (by kernel_rfl)) (by unfold Func.isWrapper; first | (rw [if_pos (by decide +kernel)]; kernel_rfl) | (rw [if_neg (by decide +kernel)]; exact ⟨rfl,rfl⟩))
  (fun os started H enc _=>fnExactAgreed_lifted os started H enc)

#print axioms fnExactAgreed_holds

end Go.Proofs.Ytgmkhoakindpkaa
