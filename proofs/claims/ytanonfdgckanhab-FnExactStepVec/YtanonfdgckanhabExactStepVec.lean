/-
  FnExactStepVec answers true at all arguments: StepVec answers as the specification.
-/
import Derived.Test.YtanonfdgckanhabVecStep
import Derived.Test.YtanonfdgckanhabVecOpen
import Derived.WalkKit
import Derived.ProofKit
import Derived.OpenShut
import Derived.ShutString
import Derived.ChangeOld
import Derived.Below
import Derived.Lib.SmallJoins
namespace Go.Proofs.Ytanonfdgckanhab
open Go.RowKit

set_option maxRecDepth 100000 in
set_option maxHeartbeats 2000000 in
theorem exactStepVec_walk (R C H B P k : Int) (w : World) (_hk : (Lit.int .i64 k).wf = true) :
    Calls Try.prog 3 #[.agg #[.int .i64 R, .int .i64 C, .int .i64 H, .int .i64 B, .int .i64 P], .int .i64 k] w fun e w' => e = .returned (.bool true) ∧ Below w.heap.size w w' := by
  have q0 := below_one w (.cells #[.int .i64 R, .int .i64 C, .int .i64 H, .int .i64 B, .int .i64 P] 23)
  have k0 := block_last w (.cells #[.int .i64 R, .int .i64 C, .int .i64 H, .int .i64 B, .int .i64 P] 23)
  obtain ⟨a, b, c, d, g, he⟩ : ∃ a b c d g : Int, (if stepOk R C H B P k = true then .agg #[.int .i64 R, .int .i64 (C + k), .int .i64 (H + 1), .int .i64 B, .int .i64 P] else .agg #[.int .i64 R, .int .i64 C, .int .i64 H, .int .i64 B, .int .i64 P] : Value) = .agg #[.int .i64 a, .int .i64 b, .int .i64 c, .int .i64 d, .int .i64 g] := by
    cases stepOk R C H B P k
    · exact ⟨R, C, H, B, P, rfl⟩
    · exact ⟨_, _, _, _, _, rfl⟩
  generalize hQ : stepOk R C H B P k = Q at he
  have HQ := hide hQ
  have HE := hide he
  clear hQ he
  go_enter Try.func3, Try.ntmps3
  go_wp2_with fail
  generalize w.alloc (.cells #[.int .i64 R, .int .i64 C, .int .i64 H, .int .i64 B, .int .i64 P] 23) = wb at *
  refine (toVec_made R C H B P _).mono ?_
  rintro e w1 ⟨rfl, hb1⟩
  go_wp2_with fail
  refine (specStepVec_any R C H B P k _).mono ?_
  rintro e w2 ⟨rfl, hb2⟩
  rw [HQ.out, HE.out]
  have u2 := gr_trans hb1 hb2
  have k2 := kept_block (kept_block k0 u2) (below_one w2 (.cells #[.int .i64 a, .int .i64 b, .int .i64 c, .int .i64 d, .int .i64 g] 24))
  obtain ⟨⟨x0, x1, x2, x3, x4⟩, -⟩ := cells5 k2
  clear hb1 hb2 k0
  go_wp2_with fail
  refine (toVec_made R C H B P _).mono ?_
  rintro e w3 ⟨rfl, hb3⟩
  clear x0 x1 x2 x3 x4 k2
  go_wp2_with fail
  refine (implStepVec_any R C H B P k _).mono ?_
  rintro e w4 ⟨rfl, hb4⟩
  rw [HQ.out, HE.out]
  have u4 := gr_trans hb3 hb4
  have k4 := kept_block (kept_block (block_last w2 _) u4) (below_one w4 (.cells #[.int .i64 a, .int .i64 b, .int .i64 c, .int .i64 d, .int .i64 g] 24))
  obtain ⟨⟨y0, y1, y2, y3, y4⟩, -⟩ := cells5 k4
  have q4 := gr_trans q0 (gr_trans u2 (gr_trans (below_one w2 _) u4))
  clear hb3 hb4 u4 k4 u2
  go_wp2_with fail
  refine (eqVec_same a b c d g _).mono ?_
  rintro e w5 ⟨rfl, hb5⟩
  have q5 := gr_trans (gr_alloc q4 _) hb5
  go_wp2
  go_ret
  exact ⟨rfl, q5⟩

theorem fnExactStepVec_own : ownKnob Try.prog.godebug = none := by kernel_rfl
theorem fnExactStepVec_laid : laidOutB Try.prog = true := by kernel_rfl

open Go.ChangeShapes Go.WideShapes Go.ChangeAt in
open Go.ChangeMaps (open_string shut_string) in
set_option maxRecDepth 100000 in
theorem fnExactStepVec_lifted (os : Os) (started : os.Started) (H : Type) (enc : TypeId × Value → H) :
    ReturnsInHanded {} Try.checked os 3 .any (Rows.fnExactStepVecSpec.pre6 enc Try.prog Try.f3 Rows.fnExactStepVecRow.domain false) (Rows.fnExactStepVecSpec.post enc Try.prog Try.f3 false true false false) := by
  refine returnsInHanded_of_change (C := Try.checked) fnExactStepVec_own started (by kernel_rfl) Try.func3
    (ChangeSpec.witness6 (enc := enc) (C := Try.checked) false ⟨#[], #[.agg #[.int .i64 0, .int .i64 0, .int .i64 0, .int .i64 0, .int .i64 0], .int .i64 0], []⟩ 8 (by kernel_rfl) (by kernel_rfl) (by kernel_rfl) (by kernel_rfl)) ?_
  intro W base args ds gs before hval0 hW hcnd _
  have hval : ∀ (j : Nat) t v, Try.f3.params[j]? = some t → args[j]? = some v → Value.okWide Try.prog W .any base t v := hval0
  have hW' := hW
  obtain ⟨p, q, hA0, hV, rfl, hfz, hnd⟩ := hW
  have hA : DataW.TrodAll enc Try.prog W 0 (fun _ => true) true Try.f3.params.toList args.toList ds p := hA0
  rw [Try.params3] at hA hval
  obtain ⟨v0, vs0, d0, ds0, p0, q0, hargs, rfl, rfl, h0, r0⟩ := trodAll_cons hA
  obtain ⟨v1, vs1, d1, ds1, p1, q1, rfl, rfl, rfl, h1, r1⟩ := trodAll_cons r0
  obtain ⟨rfl, rfl, rfl⟩ := trodAll_nil r1
  obtain rfl : args = #[v0, v1] := by cases args; simp_all
  obtain ⟨rfl, rfl⟩ := trodVars_none hV
  have k0 := h0
  have lt0 : ∀ x ∈ p0, x.block < W.heap.size := by obtain ⟨m, hm⟩ := k0; exact DataW.trod_lt m _ _ _ hm
  obtain ⟨R0, C0, H0, B0, P0, rfl⟩ := open_vec Try.underlying23 Try.underlying3 ⟨rfl, rfl⟩ ⟨rfl, rfl⟩ ⟨rfl, rfl⟩ ⟨rfl, rfl⟩ ⟨rfl, rfl⟩ (by kernel_rfl) (by kernel_rfl) (hval 0 23 v0 rfl rfl) h0
  obtain ⟨a1, rfl, rfl, rfl, w1⟩ := open_int Try.underlying3 (hval 1 3 v1 rfl rfl) h1
  clear hA0 hval0
  refine (exactStepVec_walk R0 C0 H0 B0 P0 a1 W w1).mono fun e W' ⟨he, bel⟩ => ?_
  subst he
  exact ⟨_, rfl, _, _, _, [], _, [], hW', trodAll_mk1 (shut_bool Try.underlying4 _), (trodAll_cons_mk (Below.trod fnExactStepVec_laid (by kernel_rfl) (of_decide_eq_true (by kernel_rfl)) k0 bel lt0) (trodAll_cons_mk (shut_int Try.underlying3 w1) trodAll_mk0)), rfl, bel.frame _, fun h => by cases h⟩

theorem fnExactStepVec_holds : Rows.FnExactStepVecSaid :=
  OpenClaim.holds_of_wide 3 Try.f3 rfl rfl rfl rfl rfl rfl rfl ⟨rfl, rfl, rfl, rfl, rfl⟩ rfl rfl rfl rfl rfl (by kernel_rfl) Try.func3 (by kernel_rfl)
    (of_decide_eq_true (by kernel_rfl)) (by unfold Func.isWrapper; first | (rw [if_pos (by decide +kernel)]; kernel_rfl) | (rw [if_neg (by decide +kernel)]; exact ⟨rfl, rfl⟩))
    (fun os started H enc _ => fnExactStepVec_lifted os started H enc)

#print axioms fnExactStepVec_holds

end Go.Proofs.Ytanonfdgckanhab
