/-
  FnExactPutVec answers true at all arguments: PutVec answers as the specification; its answer owns its memory, behind another call too.
-/
import Derived.Test.YtanonfdgckanhabVecPut
import Derived.Test.YtanonfdgckanhabVecSpecPut
import Derived.Test.YtanonfdgckanhabVecOpen
import Derived.Test.YtanonfdgckanhabCopy
import Derived.WalkKit
import Derived.ProofKit
import Derived.OpenShut
import Derived.ShutString
import Derived.ChangeOld
import Derived.Below
import Derived.Lib.SmallJoins
namespace Go.Proofs.Ytanonfdgckanhab
open Go.RowKit

set_option maxRecDepth 100000 in
set_option maxHeartbeats 2000000 in
theorem exactPutVec_walk (R C H B P : Int) (w : World) :
    Calls Try.prog 4 #[.agg #[.int .i64 R, .int .i64 C, .int .i64 H, .int .i64 B, .int .i64 P]] w fun e w' => e = .returned (.bool true) ∧ Below w.heap.size w w' := by
  have q0 := below_one w (.cells #[.int .i64 R, .int .i64 C, .int .i64 H, .int .i64 B, .int .i64 P] 23)
  have k0 := block_last w (.cells #[.int .i64 R, .int .i64 C, .int .i64 H, .int .i64 B, .int .i64 P] 23)
  have hlen := putVc_len R C H B P
  generalize hQ : putVc R C H B P = Q at hlen
  have HQ := hide hQ
  clear hQ
  go_enter Try.func4, Try.ntmps4
  go_wp2_with fail
  generalize w.alloc (.cells #[.int .i64 R, .int .i64 C, .int .i64 H, .int .i64 B, .int .i64 P] 23) = wb at *
  have K0 := hide k0
  refine (toVec_made R C H B P _).mono ?_
  rintro e w1 ⟨rfl, hb1⟩
  clear k0
  go_wp2_with fail
  refine (specPutVec_made R C H B P Q HQ.out _).mono ?_
  rintro e w3 ⟨ao3, cp3, rfl, -, r3, hb3⟩
  have u3 := gr_trans hb1 hb3
  obtain ⟨⟨x0, x1, x2, x3, x4⟩, -⟩ := cells5 (kept_block K0.out u3)
  clear hb1 hb3
  go_wp2_with fail
  refine (toVec_made R C H B P _).mono ?_
  rintro e w4 ⟨rfl, hb4⟩
  clear x0 x1 x2 x3 x4
  have n4 := hb4.size
  go_wp2_with fail
  refine (implPutVec_made R C H B P Q HQ.out _).mono ?_
  rintro e w5 ⟨ao5, cp5, rfl, ho5, r5, hb5⟩
  have p5 := gr_trans hb4 hb5
  clear hb4 hb5
  go_wp2_with fail
  refine (eq_same _ _ _ _ _ _ Q _ r5 (r3.below p5)).mono ?_
  rintro e w6 ⟨rfl, n6, rfl⟩
  have p6 := below_drewN p5 n6
  have o6 := own_below ho5 (below_drewN (Below.refl _ w5) n6)
  clear p5 ho5 r5
  generalize w5.drewN n6 = w6 at *
  go_wp2_with fail
  refine (mark_grown _ _ _ _ Q _ _ o6 (by omega) (by omega) (by omega)).mono ?_
  rintro e w7 ⟨rfl, o7, g7⟩
  have p7 := p6.grown g7 p6.size (fun k hk => Nat.le_trans n4 (o6.lt k hk).1)
  have r7 := row_own o7 (marks_byte _ _)
  clear g7 o6 p6 o7
  have u7 := gr_trans u3 p7
  go_wp2_with fail
  refine (held_any _ _ _ _ _ r7 (by omega) (by omega) (by omega)).mono ?_
  rintro e w8 ⟨rfl, rfl⟩
  obtain ⟨⟨x0, x1, x2, x3, x4⟩, -⟩ := cells5 (kept_block K0.out u7)
  go_wp2_with fail
  refine (toVec_made R C H B P _).mono ?_
  rintro e w9 ⟨rfl, hb9⟩
  clear x0 x1 x2 x3 x4
  go_wp2_with fail
  refine (implPutVec_made R C H B P Q HQ.out _).mono ?_
  rintro e w10 ⟨ao10, cp10, rfl, -, r10, hb10⟩
  have t10 := gr_trans hb9 hb10
  have p10 := gr_trans p7 t10
  have q10 := gr_trans q0 (gr_trans u7 t10)
  clear hb9 hb10 p7
  go_wp2_with fail
  refine (eq_same _ _ _ _ _ _ Q _ r10 (r3.below p10)).mono ?_
  rintro e w11 ⟨rfl, n11, rfl⟩
  go_wp2_with fail
  refine (held_any _ _ _ _ _ (r7.below (below_drewN t10 n11)) (by omega) (by omega) (by omega)).mono ?_
  rintro e w12 ⟨rfl, rfl⟩
  go_wp2
  go_ret
  exact ⟨rfl, below_drewN q10 n11⟩

theorem fnExactPutVec_own : ownKnob Try.prog.godebug = none := by kernel_rfl
theorem fnExactPutVec_laid : laidOutB Try.prog = true := by kernel_rfl

open Go.ChangeShapes Go.WideShapes Go.ChangeAt in
open Go.ChangeMaps (open_string shut_string) in
set_option maxRecDepth 100000 in
theorem fnExactPutVec_lifted (os : Os) (started : os.Started) (H : Type) (enc : TypeId × Value → H) :
    ReturnsInHanded {} Try.checked os 4 .any (Rows.fnExactPutVecSpec.pre6 enc Try.prog Try.f4 Rows.fnExactPutVecRow.domain false) (Rows.fnExactPutVecSpec.post enc Try.prog Try.f4 false true false false) := by
  refine returnsInHanded_of_change (C := Try.checked) fnExactPutVec_own started (by kernel_rfl) Try.func4
    (ChangeSpec.witness6 (enc := enc) (C := Try.checked) false ⟨#[], #[.agg #[.int .i64 0, .int .i64 0, .int .i64 0, .int .i64 0, .int .i64 0]], []⟩ 8 (by kernel_rfl) (by kernel_rfl) (by kernel_rfl) (by kernel_rfl)) ?_
  intro W base args ds gs before hval0 hW hcnd _
  have hval : ∀ (j : Nat) t v, Try.f4.params[j]? = some t → args[j]? = some v → Value.okWide Try.prog W .any base t v := hval0
  have hW' := hW
  obtain ⟨p, q, hA0, hV, rfl, hfz, hnd⟩ := hW
  have hA : DataW.TrodAll enc Try.prog W 0 (fun _ => true) true Try.f4.params.toList args.toList ds p := hA0
  rw [Try.params4] at hA hval
  obtain ⟨v0, vs0, d0, ds0, p0, q0, hargs, rfl, rfl, h0, r0⟩ := trodAll_cons hA
  obtain ⟨rfl, rfl, rfl⟩ := trodAll_nil r0
  obtain rfl : args = #[v0] := by cases args; simp_all
  obtain ⟨rfl, rfl⟩ := trodVars_none hV
  have k0 := h0
  have lt0 : ∀ x ∈ p0, x.block < W.heap.size := by obtain ⟨m, hm⟩ := k0; exact DataW.trod_lt m _ _ _ hm
  obtain ⟨R0, C0, H0, B0, P0, rfl⟩ := open_vec Try.underlying23 Try.underlying3 ⟨rfl, rfl⟩ ⟨rfl, rfl⟩ ⟨rfl, rfl⟩ ⟨rfl, rfl⟩ ⟨rfl, rfl⟩ (by kernel_rfl) (by kernel_rfl) (hval 0 23 v0 rfl rfl) h0
  clear hA0 hval0
  refine (exactPutVec_walk R0 C0 H0 B0 P0 W ).mono fun e W' ⟨he, bel⟩ => ?_
  subst he
  exact ⟨_, rfl, _, _, _, [], _, [], hW', trodAll_mk1 (shut_bool Try.underlying4 _), (trodAll_cons_mk (Below.trod fnExactPutVec_laid (by kernel_rfl) (of_decide_eq_true (by kernel_rfl)) k0 bel lt0) trodAll_mk0), rfl, bel.frame _, fun h => by cases h⟩

theorem fnExactPutVec_holds : Rows.FnExactPutVecSaid :=
  OpenClaim.holds_of_wide 4 Try.f4 rfl rfl rfl rfl rfl rfl rfl ⟨rfl, rfl, rfl, rfl, rfl⟩ rfl rfl rfl rfl rfl (by kernel_rfl) Try.func4 (by kernel_rfl)
    (of_decide_eq_true (by kernel_rfl)) (by unfold Func.isWrapper; first | (rw [if_pos (by decide +kernel)]; kernel_rfl) | (rw [if_neg (by decide +kernel)]; exact ⟨rfl, rfl⟩))
    (fun os started H enc _ => fnExactPutVec_lifted os started H enc)

#print axioms fnExactPutVec_holds

end Go.Proofs.Ytanonfdgckanhab
