/-
  FnExactVecOk answers true at all arguments: VecOk answers as the specification.
-/
import Derived.Test.YtanonfdgckanhaaVecOk
import Derived.Test.YtanonfdgckanhaaVecOpen
import Derived.WalkKit
import Derived.ProofKit
import Derived.OpenShut
import Derived.ShutString
import Derived.ChangeOld
import Derived.Below
import Derived.Lib.SmallJoins
namespace Go.Proofs.Ytanonfdgckanhaa
open Go.RowKit

set_option maxRecDepth 100000 in
set_option maxHeartbeats 1000000 in
theorem exactVecOk_walk (R C H B P : Int) (w : World) :
    Calls Try.prog 7 #[.agg #[.int .i64 R, .int .i64 C, .int .i64 H, .int .i64 B, .int .i64 P]] w fun e w' => e = .returned (.bool true) ∧ Below w.heap.size w w' := by
  have q0 := below_one w (.cells #[.int .i64 R, .int .i64 C, .int .i64 H, .int .i64 B, .int .i64 P] 52)
  have k0 := block_last w (.cells #[.int .i64 R, .int .i64 C, .int .i64 H, .int .i64 B, .int .i64 P] 52)
  generalize hQ : okVc R C H B P = Q
  have HQ := hide hQ
  clear hQ
  go_enter Try.func7, Try.ntmps7
  go_wp2_with fail
  generalize w.alloc (.cells #[.int .i64 R, .int .i64 C, .int .i64 H, .int .i64 B, .int .i64 P] 52) = wb at *
  refine (toVec_made R C H B P _).mono ?_
  rintro e w1 ⟨rfl, hb1⟩
  go_wp2_with fail
  refine (specVecOk_any R C H B P _).mono ?_
  rintro e w2 ⟨rfl, hb2⟩
  rw [HQ.out]
  have u2 := gr_trans hb1 hb2
  obtain ⟨⟨x0, x1, x2, x3, x4⟩, -⟩ := cells5 (kept_block k0 u2)
  clear hb1 hb2 k0
  go_wp2_with fail
  refine (toVec_made R C H B P _).mono ?_
  rintro e w3 ⟨rfl, hb3⟩
  clear x0 x1 x2 x3 x4
  go_wp2_with fail
  refine (implVecOk_any R C H B P _).mono ?_
  rintro e w4 ⟨rfl, hb4⟩
  rw [HQ.out]
  have u4 := gr_trans q0 (gr_trans u2 (gr_trans hb3 hb4))
  go_wp2
  go_ret
  exact ⟨rfl, u4⟩

theorem fnExactVecOk_own : ownKnob Try.prog.godebug = none := by kernel_rfl
theorem fnExactVecOk_laid : laidOutB Try.prog = true := by kernel_rfl

open Go.ChangeShapes Go.WideShapes Go.ChangeAt in
open Go.ChangeMaps (open_string shut_string) in
set_option maxRecDepth 100000 in
theorem fnExactVecOk_lifted (os : Os) (started : os.Started) (H : Type) (enc : TypeId × Value → H) :
    ReturnsInHanded {} Try.checked os 7 .any (Rows.fnExactVecOkSpec.pre6 enc Try.prog Try.f7 Rows.fnExactVecOkRow.domain false) (Rows.fnExactVecOkSpec.post enc Try.prog Try.f7 false true false false) := by
  refine returnsInHanded_of_change (C := Try.checked) fnExactVecOk_own started (by kernel_rfl) Try.func7
    (ChangeSpec.witness6 (enc := enc) (C := Try.checked) false ⟨#[], #[.agg #[.int .i64 0, .int .i64 0, .int .i64 0, .int .i64 0, .int .i64 0]], []⟩ 8 (by kernel_rfl) (by kernel_rfl) (by kernel_rfl) (by kernel_rfl)) ?_
  intro W base args ds gs before hval0 hW hcnd _
  have hval : ∀ (j : Nat) t v, Try.f7.params[j]? = some t → args[j]? = some v → Value.okWide Try.prog W .any base t v := hval0
  have hW' := hW
  obtain ⟨p, q, hA0, hV, rfl, hfz, hnd⟩ := hW
  have hA : DataW.TrodAll enc Try.prog W 0 (fun _ => true) true Try.f7.params.toList args.toList ds p := hA0
  rw [Try.params7] at hA hval
  obtain ⟨v0, vs0, d0, ds0, p0, q0, hargs, rfl, rfl, h0, r0⟩ := trodAll_cons hA
  obtain ⟨rfl, rfl, rfl⟩ := trodAll_nil r0
  obtain rfl : args = #[v0] := by cases args; simp_all
  obtain ⟨rfl, rfl⟩ := trodVars_none hV
  have k0 := h0
  have lt0 : ∀ x ∈ p0, x.block < W.heap.size := by obtain ⟨m, hm⟩ := k0; exact DataW.trod_lt m _ _ _ hm
  obtain ⟨R0, C0, H0, B0, P0, rfl⟩ := open_vec Try.underlying52 Try.underlying3 ⟨rfl, rfl⟩ ⟨rfl, rfl⟩ ⟨rfl, rfl⟩ ⟨rfl, rfl⟩ ⟨rfl, rfl⟩ (by kernel_rfl) (by kernel_rfl) (hval 0 52 v0 rfl rfl) h0
  clear hA0 hval0
  refine (exactVecOk_walk R0 C0 H0 B0 P0 W ).mono fun e W' ⟨he, bel⟩ => ?_
  subst he
  exact ⟨_, rfl, _, _, _, [], _, [], hW', trodAll_mk1 (shut_bool Try.underlying4 _), (trodAll_cons_mk (Below.trod fnExactVecOk_laid (by kernel_rfl) (of_decide_eq_true (by kernel_rfl)) k0 bel lt0) trodAll_mk0), rfl, bel.frame _, fun h => by cases h⟩

theorem fnExactVecOk_holds : Rows.FnExactVecOkSaid :=
  OpenClaim.holds_of_wide 7 Try.f7 rfl rfl rfl rfl rfl rfl rfl ⟨rfl, rfl, rfl, rfl, rfl⟩ rfl rfl rfl rfl rfl (by kernel_rfl) Try.func7 (by kernel_rfl)
    (of_decide_eq_true (by kernel_rfl)) (by unfold Func.isWrapper; first | (rw [if_pos (by decide +kernel)]; kernel_rfl) | (rw [if_neg (by decide +kernel)]; exact ⟨rfl, rfl⟩))
    (fun os started H enc _ => fnExactVecOk_lifted os started H enc)

#print axioms fnExactVecOk_holds

end Go.Proofs.Ytanonfdgckanhaa
