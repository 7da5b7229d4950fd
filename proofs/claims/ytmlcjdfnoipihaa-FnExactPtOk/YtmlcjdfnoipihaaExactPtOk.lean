/-
  FnExactPtOk answers true at all arguments: PtOk answers as the specification.
-/
import Derived.Test.YtmlcjdfnoipihaaPtOkI
import Derived.Test.YtmlcjdfnoipihaaPtHelp
import Derived.Test.YtmlcjdfnoipihaaPtOpen
import Derived.WalkKit
import Derived.ProofKit
import Derived.OpenShut
import Derived.ShutString
import Derived.ChangeOld
import Derived.Below
import Derived.Lib.SmallJoins
namespace Go.Proofs.Ytmlcjdfnoipihaa
open Go.RowKit

set_option maxRecDepth 100000 in
set_option maxHeartbeats 1000000 in
theorem exactPtOk_walk (x : PT) (w : World) (_h : x.Rng) :
    Calls Try.prog 5 #[ptV x] w fun e w' => e = .returned (.bool true) ∧ Below w.heap.size w w' := by
  have q0 := below_one w (.cells #[.bool x.up, .int .i64 x.k, .bool x.has, .int .i64 x.v.r, .int .i64 x.v.c, .int .i64 x.v.h, .int .i64 x.v.b, .int .i64 x.v.p] 45)
  have k0 := block_last w (.cells #[.bool x.up, .int .i64 x.k, .bool x.has, .int .i64 x.v.r, .int .i64 x.v.c, .int .i64 x.v.h, .int .i64 x.v.b, .int .i64 x.v.p] 45)
  generalize hQ : ptOk x = Q
  have HQ := hide hQ
  clear hQ
  unfold ptV
  go_enter Try.func5, Try.ntmps5
  go_wp2_with fail
  generalize w.alloc (.cells #[.bool x.up, .int .i64 x.k, .bool x.has, .int .i64 x.v.r, .int .i64 x.v.c, .int .i64 x.v.h, .int .i64 x.v.b, .int .i64 x.v.p] 45) = wb at *
  refine (toPt_made x _).mono ?_
  rintro e w1 ⟨rfl, hb1⟩
  go_wp2_with fail
  refine (specPtOk_any x _).mono ?_
  rintro e w2 ⟨rfl, hb2⟩
  rw [HQ.out]
  have u2 := gr_trans hb1 hb2
  obtain ⟨x0, x1, x2, x3, x4, x5, x6, x7⟩ := cells8 (kept_block k0 u2)
  clear hb1 hb2 k0
  go_wp2_with fail
  refine (toPt_made x _).mono ?_
  rintro e w3 ⟨rfl, hb3⟩
  clear x0 x1 x2 x3 x4 x5 x6 x7
  go_wp2_with fail
  refine (implPtOk_any x _).mono ?_
  rintro e w4 ⟨rfl, hb4⟩
  rw [HQ.out]
  have u4 := gr_trans q0 (gr_trans u2 (gr_trans hb3 hb4))
  go_wp2
  go_ret
  exact ⟨rfl, u4⟩

theorem fnExactPtOk_own : ownKnob Try.prog.godebug = none := by kernel_rfl
theorem fnExactPtOk_laid : laidOutB Try.prog = true := by kernel_rfl

open Go.ChangeShapes Go.WideShapes Go.ChangeAt in
open Go.ChangeMaps (open_string shut_string) in
set_option maxRecDepth 100000 in
theorem fnExactPtOk_lifted (os : Os) (started : os.Started) (H : Type) (enc : TypeId × Value → H) :
    ReturnsInHanded {} Try.checked os 5 .any (Rows.fnExactPtOkSpec.pre6 enc Try.prog Try.f5 Rows.fnExactPtOkRow.domain false) (Rows.fnExactPtOkSpec.post enc Try.prog Try.f5 false true false false) := by
  refine returnsInHanded_of_change (C := Try.checked) fnExactPtOk_own started (by kernel_rfl) Try.func5
    (ChangeSpec.witness6 (enc := enc) (C := Try.checked) false ⟨#[], #[.agg #[.bool false, .int .i64 0, .bool false, .int .i64 0, .int .i64 0, .int .i64 0, .int .i64 0, .int .i64 0]], []⟩ 8 (by kernel_rfl) (by kernel_rfl) (by kernel_rfl) (by kernel_rfl)) ?_
  intro W base args ds gs before hval0 hW hcnd _
  have hval : ∀ (j : Nat) t v, Try.f5.params[j]? = some t → args[j]? = some v → Value.okWide Try.prog W .any base t v := hval0
  have hW' := hW
  obtain ⟨p, q, hA0, hV, rfl, hfz, hnd⟩ := hW
  have hA : DataW.TrodAll enc Try.prog W 0 (fun _ => true) true Try.f5.params.toList args.toList ds p := hA0
  rw [Try.params5] at hA hval
  obtain ⟨v0, vs0, d0, ds0, p0, q0, hargs, rfl, rfl, h0, r0⟩ := trodAll_cons hA
  obtain ⟨rfl, rfl, rfl⟩ := trodAll_nil r0
  obtain rfl : args = #[v0] := by cases args; simp_all
  obtain ⟨rfl, rfl⟩ := trodVars_none hV
  have k0 := h0
  have lt0 : ∀ x ∈ p0, x.block < W.heap.size := by obtain ⟨m, hm⟩ := k0; exact DataW.trod_lt m _ _ _ hm
  obtain ⟨y0, rfl, g0⟩ := open_pt Try.underlying45 Try.underlying43 Try.underlying3 Try.underlying4 ⟨rfl, rfl⟩ ⟨rfl, rfl⟩ ⟨rfl, rfl⟩ ⟨rfl, rfl⟩ ⟨rfl, rfl⟩ ⟨rfl, rfl⟩ ⟨rfl, rfl⟩ ⟨rfl, rfl⟩ ⟨rfl, rfl⟩ (by kernel_rfl) (by kernel_rfl) (by kernel_rfl) (by kernel_rfl) (hval 0 45 v0 rfl rfl) h0
  clear hA0 hval0
  refine (exactPtOk_walk y0 W g0).mono fun e W' ⟨he, bel⟩ => ?_
  subst he
  exact ⟨_, rfl, _, _, _, [], _, [], hW', trodAll_mk1 (shut_bool Try.underlying4 _), (trodAll_cons_mk (Below.trod fnExactPtOk_laid (by kernel_rfl) (of_decide_eq_true (by kernel_rfl)) k0 bel lt0) trodAll_mk0), rfl, bel.frame _, fun h => by cases h⟩

theorem fnExactPtOk_holds : Rows.FnExactPtOkSaid :=
  OpenClaim.holds_of_wide 5 Try.f5 rfl rfl rfl rfl rfl rfl rfl ⟨rfl, rfl, rfl, rfl, rfl⟩ rfl rfl rfl rfl rfl (by kernel_rfl) Try.func5 (by kernel_rfl)
    (of_decide_eq_true (by kernel_rfl)) (by unfold Func.isWrapper; first | (rw [if_pos (by decide +kernel)]; kernel_rfl) | (rw [if_neg (by decide +kernel)]; exact ⟨rfl, rfl⟩))
    (fun os started H enc _ => fnExactPtOk_lifted os started H enc)

#print axioms fnExactPtOk_holds

end Go.Proofs.Ytmlcjdfnoipihaa
