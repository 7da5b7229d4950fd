/-
  FnExactGetVec answers true at all arguments: GetVec answers as the specification; it writes into no argument.
-/
import Derived.Test.YtanonfdgckanhabVecGet
import Derived.Test.YtanonfdgckanhabVecSpecGet
import Derived.Test.YtanonfdgckanhabCopy
import Derived.WalkKit
import Derived.ProofKit
import Derived.OpenShut
import Derived.ShutString
import Derived.ChangeOld
import Derived.Below
import Derived.Lib.SmallJoins
namespace Go.Proofs.Ytanonfdgckanhab
open Go.RowKit

set_option maxRecDepth 100000 in
set_option maxHeartbeats 2000000 in
theorem exactGetVec_walk (a0 : Option Addr) (l0 c0 : Nat) (z0 : List Int) (w : World) (h0 : Row w a0 l0 c0 z0) :
    Calls Try.prog 5 #[.slice a0 l0 c0] w fun e w' => e = .returned (.bool true) ∧ Below w.heap.size w w' := by
  by_cases g0 : 1048576 < l0
  · go_enter Try.func5, Try.ntmps5
    go_wp2
    go_ret
    exact ⟨rfl, Below.refl _ _⟩
  rcases hG : gotVc z0 with ⟨R, C, H, B, P, ok⟩
  have HG := hide hG
  clear hG
  go_enter Try.func5, Try.ntmps5
  go_wp2_with fail
  refine (copy_made _ _ _ z0 _ h0 (by omega)).mono ?_
  rintro e w1 ⟨ao1, cp1, rfl, -, r1, hb1⟩
  go_wp2_with fail
  refine (specGetVec_made _ _ _ z0 R C H B P ok HG.out _ r1 (by omega)).mono ?_
  rintro e w2 ⟨rfl, hb2⟩
  have q2 := gr_trans hb1 hb2
  have u2 := gr_alloc q2 (.cells #[.int .i64 R, .int .i64 C, .int .i64 H, .int .i64 B, .int .i64 P] 24)
  have k2 := block_last w2 (.cells #[.int .i64 R, .int .i64 C, .int .i64 H, .int .i64 B, .int .i64 P] 24)
  clear hb1 hb2 r1
  go_wp2_with fail
  generalize hw2 : w2.alloc (.cells #[.int .i64 R, .int .i64 C, .int .i64 H, .int .i64 B, .int .i64 P] 24) = w2' at *
  refine (copy_made _ _ _ z0 _ (h0.below u2) (by omega)).mono ?_
  rintro e w3 ⟨ao3, cp3, rfl, -, r3, hb3⟩
  have u3 := gr_trans u2 hb3
  have k3 := kept_block k2 hb3
  clear hb3 u2 k2 hw2
  go_wp2_with fail
  refine (implGetVec_made _ _ _ z0 R C H B P ok HG.out _ r3 (by omega)).mono ?_
  rintro e w4 ⟨rfl, hb4⟩
  have b4 := gr_trans hb4 (below_one w4 (.cells #[.int .i64 R, .int .i64 C, .int .i64 H, .int .i64 B, .int .i64 P] 24))
  have k4 := kept_block k3 b4
  have u4 := gr_trans u3 b4
  have r4 := r3.below b4
  obtain ⟨⟨x0, x1, x2, x3, x4⟩, -⟩ := cells5 k4
  clear hb4 b4 u3 k3 k4 r3
  go_wp2_with fail
  refine (eqVec_same R C H B P _).mono ?_
  rintro e w5 ⟨rfl, hb5⟩
  have u5 := gr_trans u4 hb5
  have r5 := r4.below hb5
  clear x0 x1 x2 x3 x4 u4 hb5 r4
  go_wp2_with fail
  refine (copy_made _ _ _ z0 _ (h0.below u5) (by omega)).mono ?_
  rintro e w6 ⟨ao6, cp6, rfl, -, r6, hb6⟩
  have u6 := gr_trans u5 hb6
  go_wp2_with fail
  refine (eq_same _ _ _ _ _ _ z0 _ (r5.below hb6) r6).mono ?_
  rintro e w7 ⟨rfl, n7, rfl⟩
  go_wp2
  go_ret
  exact ⟨rfl, below_drewN u6 n7⟩

theorem fnExactGetVec_own : ownKnob Try.prog.godebug = none := by kernel_rfl
theorem fnExactGetVec_laid : laidOutB Try.prog = true := by kernel_rfl

open Go.ChangeShapes Go.WideShapes Go.ChangeAt in
open Go.ChangeMaps (open_string shut_string) in
set_option maxRecDepth 100000 in
theorem fnExactGetVec_lifted (os : Os) (started : os.Started) (H : Type) (enc : TypeId × Value → H) :
    ReturnsInHanded {} Try.checked os 5 .any (Rows.fnExactGetVecSpec.pre6 enc Try.prog Try.f5 Rows.fnExactGetVecRow.domain false) (Rows.fnExactGetVecSpec.post enc Try.prog Try.f5 false true false false) := by
  refine returnsInHanded_of_change (C := Try.checked) fnExactGetVec_own started (by kernel_rfl) Try.func5
    (ChangeSpec.witness6 (enc := enc) (C := Try.checked) false ⟨#[], #[.slice none 0 0], []⟩ 8 (by kernel_rfl) (by kernel_rfl) (by kernel_rfl) (by kernel_rfl)) ?_
  intro W base args ds gs before hval0 hW hcnd _
  have hval : ∀ (j : Nat) t v, Try.f5.params[j]? = some t → args[j]? = some v → Value.okWide Try.prog W .any base t v := hval0
  have hW' := hW
  obtain ⟨p, q, hA0, hV, rfl, hfz, hnd⟩ := hW
  have hA : DataW.TrodAll enc Try.prog W 0 (fun _ => true) true Try.f5.params.toList args.toList ds p := hA0
  rw [Try.params5] at hA hval
  obtain ⟨v0, vs0, d0, ds0, p0, q0, hargs, rfl, rfl, h0, r0⟩ := trodAll_cons hA
  obtain ⟨rfl, rfl, rfl⟩ := trodAll_nil r0
  obtain rfl : args = #[v0] := by cases args; simp_all
  obtain ⟨rfl, rfl⟩ := trodVars_none hV
  obtain ⟨a0, len0, cap0, rfl⟩ := okWide_slice Try.underlying30 (hval 0 30 v0 rfl rfl)
  have k0 := h0
  have lt0 : ∀ x ∈ p0, x.block < W.heap.size := by obtain ⟨m, hm⟩ := k0; exact DataW.trod_lt m _ _ _ hm
  obtain ⟨z0, w0⟩ : ∃ zs, Row W a0 len0 cap0 zs := by
    obtain ⟨fuel, hf⟩ := h0
    rcases open_ints Try.underlying30 Try.underlying5 (by kernel_rfl) hf with ⟨hcs, _⟩ | ⟨x, l, c, zs, hcs, _, hl, hm, hz, _, hcell, hwz⟩
    · simp [Value.cells] at hcs
      obtain ⟨rfl, rfl, rfl⟩ := hcs
      exact ⟨[], row_nil W⟩
    · simp [Value.cells] at hcs
      obtain ⟨rfl, rfl, rfl⟩ := hcs
      exact ⟨zs.take len0, row_open hl hm (by simpa using hz) hcell hwz⟩
  clear hA0 hval0
  refine (exactGetVec_walk a0 len0 cap0 z0 W w0).mono fun e W' ⟨he, bel⟩ => ?_
  subst he
  exact ⟨_, rfl, _, _, _, [], _, [], hW', trodAll_mk1 (shut_bool Try.underlying4 _), (trodAll_cons_mk (Below.trod fnExactGetVec_laid (by kernel_rfl) (of_decide_eq_true (by kernel_rfl)) k0 bel lt0) trodAll_mk0), rfl, bel.frame _, fun h => by cases h⟩

theorem fnExactGetVec_holds : Rows.FnExactGetVecSaid :=
  OpenClaim.holds_of_wide 5 Try.f5 rfl rfl rfl rfl rfl rfl rfl ⟨rfl, rfl, rfl, rfl, rfl⟩ rfl rfl rfl rfl rfl (by kernel_rfl) Try.func5 (by kernel_rfl)
    (of_decide_eq_true (by kernel_rfl)) (by unfold Func.isWrapper; first | (rw [if_pos (by decide +kernel)]; kernel_rfl) | (rw [if_neg (by decide +kernel)]; exact ⟨rfl, rfl⟩))
    (fun os started H enc _ => fnExactGetVec_lifted os started H enc)

#print axioms fnExactGetVec_holds

end Go.Proofs.Ytanonfdgckanhab
