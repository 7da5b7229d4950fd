/-
  FnExactLessVec answers true at all arguments: LessVec answers as the specification.
-/
import Derived.Test.YtanonfdgckanhaaVecLess
import Derived.Test.YtanonfdgckanhaaVecOpen
import Derived.WalkKit
import Derived.ProofKit
import Derived.OpenShut
import Derived.ShutString
import Derived.ChangeOld
import Derived.Below
import Derived.Lib.SmallJoins
namespace Go.Proofs.Ytanonfdgckanhaa
open Go.RowKit

set_option maxRecDepth 100000 in
set_option maxHeartbeats 1000000 in
theorem exactLessVec_walk (R C H B P R' C' H' B' P' : Int) (w : World) :
    Calls Try.prog 8 #[.agg #[.int .i64 R, .int .i64 C, .int .i64 H, .int .i64 B, .int .i64 P], .agg #[.int .i64 R', .int .i64 C', .int .i64 H', .int .i64 B', .int .i64 P']] w fun e w' => e = .returned (.bool true) ∧ Below w.heap.size w w' := by
  have q0 := below_two w (.cells #[.int .i64 R, .int .i64 C, .int .i64 H, .int .i64 B, .int .i64 P] 52) (.cells #[.int .i64 R', .int .i64 C', .int .i64 H', .int .i64 B', .int .i64 P'] 52)
  obtain ⟨k0, k1⟩ := kept_two (Below.refl _ ((w.alloc (.cells #[.int .i64 R, .int .i64 C, .int .i64 H, .int .i64 B, .int .i64 P] 52)).alloc (.cells #[.int .i64 R', .int .i64 C', .int .i64 H', .int .i64 B', .int .i64 P'] 52)))
  generalize hQ : lessVc R C B P R' C' B' P' = Q
  have HQ := hide hQ
  clear hQ
  go_enter Try.func8, Try.ntmps8
  go_wp2_with fail
  generalize (w.alloc (.cells #[.int .i64 R, .int .i64 C, .int .i64 H, .int .i64 B, .int .i64 P] 52)).alloc (.cells #[.int .i64 R', .int .i64 C', .int .i64 H', .int .i64 B', .int .i64 P'] 52) = wb at *
  obtain ⟨⟨x0, x1, x2, x3, x4⟩, -⟩ := cells5 k0
  obtain ⟨⟨y0, y1, y2, y3, y4⟩, -⟩ := cells5 k1
  have K0 := hide k0
  have K1 := hide k1
  clear k0 k1
  go_region_held3 (fun W => (W.cell? ⟨w.heap.size, 0, none⟩ = some (.int .i64 R) ∧ W.cell? ⟨w.heap.size, 1, none⟩ = some (.int .i64 C) ∧ W.cell? ⟨w.heap.size, 2, none⟩ = some (.int .i64 H) ∧ W.cell? ⟨w.heap.size, 3, none⟩ = some (.int .i64 B) ∧ W.cell? ⟨w.heap.size, 4, none⟩ = some (.int .i64 P)) ∧ (W.cell? ⟨w.heap.size + 1, 0, none⟩ = some (.int .i64 R') ∧ W.cell? ⟨w.heap.size + 1, 1, none⟩ = some (.int .i64 C') ∧ W.cell? ⟨w.heap.size + 1, 2, none⟩ = some (.int .i64 H') ∧ W.cell? ⟨w.heap.size + 1, 3, none⟩ = some (.int .i64 B') ∧ W.cell? ⟨w.heap.size + 1, 4, none⟩ = some (.int .i64 P'))) (first | assumption | exact ⟨(cells5 ka3).1, (cells5 kb3).1⟩ | exact ⟨(cells5 ka2).1, (cells5 kb2).1⟩ | exact ⟨(cells5 ka1).1, (cells5 kb1).1⟩ | go_keep) (first
    | (go_at_call 33; refine (specLessVec_any R C H B P R' C' H' B' P' _).mono ?_; rintro e w3 ⟨rfl, hb3⟩; rw [HQ.out]; have v3 := gr_trans v2 hb3; have ka3 := kept_block K0.out v3; have kb3 := kept_block K1.out v3)
    | (go_at_call 40; have u := v1; refine (toVec_made R' C' H' B' P' _).mono ?_; rintro e w2 ⟨rfl, hb2⟩; have v2 := gr_trans v1 hb2; have ka2 := kept_block K0.out v2; have kb2 := kept_block K1.out v2)
    | (go_at_call 40; refine (toVec_made R C H B P _).mono ?_; rintro e w1 ⟨rfl, hb1⟩; have v1 : Below wb.heap.size wb w1 := undrew hb1; have ka1 := kept_block K0.out v1; have kb1 := kept_block K1.out v1))
  clear x0 x1 x2 x3 x4 y0 y1 y2 y3 y4
  obtain ⟨⟨x0, x1, x2, x3, x4⟩, -⟩ := cells5 ka3
  obtain ⟨⟨y0, y1, y2, y3, y4⟩, -⟩ := cells5 kb3
  have K0 := hide ka3
  have K1 := hide kb3
  have q3 := gr_trans q0 v3
  clear ka3 kb3 v1 v2 v3 ka1 kb1 ka2 kb2 hb1 hb2 hb3
  go_wp2_with fail
  go_region_held3 (fun W => (W.cell? ⟨w.heap.size, 0, none⟩ = some (.int .i64 R) ∧ W.cell? ⟨w.heap.size, 1, none⟩ = some (.int .i64 C) ∧ W.cell? ⟨w.heap.size, 2, none⟩ = some (.int .i64 H) ∧ W.cell? ⟨w.heap.size, 3, none⟩ = some (.int .i64 B) ∧ W.cell? ⟨w.heap.size, 4, none⟩ = some (.int .i64 P)) ∧ (W.cell? ⟨w.heap.size + 1, 0, none⟩ = some (.int .i64 R') ∧ W.cell? ⟨w.heap.size + 1, 1, none⟩ = some (.int .i64 C') ∧ W.cell? ⟨w.heap.size + 1, 2, none⟩ = some (.int .i64 H') ∧ W.cell? ⟨w.heap.size + 1, 3, none⟩ = some (.int .i64 B') ∧ W.cell? ⟨w.heap.size + 1, 4, none⟩ = some (.int .i64 P'))) (first | assumption | exact ⟨(cells5 ka3).1, (cells5 kb3).1⟩ | exact ⟨(cells5 ka2).1, (cells5 kb2).1⟩ | exact ⟨(cells5 ka1).1, (cells5 kb1).1⟩ | go_keep) (first
    | (go_at_call 32; refine (implLessVec_any R C H B P R' C' H' B' P' _).mono ?_; rintro e w6 ⟨rfl, hb3⟩; rw [HQ.out]; have v3 := gr_trans v2 hb3; have ka3 := kept_block K0.out v3; have kb3 := kept_block K1.out v3)
    | (go_at_call 40; have u := v1; refine (toVec_made R' C' H' B' P' _).mono ?_; rintro e w5 ⟨rfl, hb2⟩; have v2 := gr_trans v1 hb2; have ka2 := kept_block K0.out v2; have kb2 := kept_block K1.out v2)
    | (go_at_call 40; refine (toVec_made R C H B P _).mono ?_; rintro e w4 ⟨rfl, hb1⟩; have v1 : Below w3.heap.size w3 w4 := undrew hb1; have ka1 := kept_block K0.out v1; have kb1 := kept_block K1.out v1))
  have q6 := gr_trans q3 v3
  go_wp2
  go_ret
  exact ⟨rfl, q6⟩

theorem fnExactLessVec_own : ownKnob Try.prog.godebug = none := by kernel_rfl
theorem fnExactLessVec_laid : laidOutB Try.prog = true := by kernel_rfl

open Go.ChangeShapes Go.WideShapes Go.ChangeAt in
open Go.ChangeMaps (open_string shut_string) in
set_option maxRecDepth 100000 in
theorem fnExactLessVec_lifted (os : Os) (started : os.Started) (H : Type) (enc : TypeId × Value → H) :
    ReturnsInHanded {} Try.checked os 8 .any (Rows.fnExactLessVecSpec.pre6 enc Try.prog Try.f8 Rows.fnExactLessVecRow.domain false) (Rows.fnExactLessVecSpec.post enc Try.prog Try.f8 false true false false) := by
  refine returnsInHanded_of_change (C := Try.checked) fnExactLessVec_own started (by kernel_rfl) Try.func8
    (ChangeSpec.witness6 (enc := enc) (C := Try.checked) false ⟨#[], #[.agg #[.int .i64 0, .int .i64 0, .int .i64 0, .int .i64 0, .int .i64 0], .agg #[.int .i64 0, .int .i64 0, .int .i64 0, .int .i64 0, .int .i64 0]], []⟩ 8 (by kernel_rfl) (by kernel_rfl) (by kernel_rfl) (by kernel_rfl)) ?_
  intro W base args ds gs before hval0 hW hcnd _
  have hval : ∀ (j : Nat) t v, Try.f8.params[j]? = some t → args[j]? = some v → Value.okWide Try.prog W .any base t v := hval0
  have hW' := hW
  obtain ⟨p, q, hA0, hV, rfl, hfz, hnd⟩ := hW
  have hA : DataW.TrodAll enc Try.prog W 0 (fun _ => true) true Try.f8.params.toList args.toList ds p := hA0
  rw [Try.params8] at hA hval
  obtain ⟨v0, vs0, d0, ds0, p0, q0, hargs, rfl, rfl, h0, r0⟩ := trodAll_cons hA
  obtain ⟨v1, vs1, d1, ds1, p1, q1, rfl, rfl, rfl, h1, r1⟩ := trodAll_cons r0
  obtain ⟨rfl, rfl, rfl⟩ := trodAll_nil r1
  obtain rfl : args = #[v0, v1] := by cases args; simp_all
  obtain ⟨rfl, rfl⟩ := trodVars_none hV
  have k0 := h0
  have lt0 : ∀ x ∈ p0, x.block < W.heap.size := by obtain ⟨m, hm⟩ := k0; exact DataW.trod_lt m _ _ _ hm
  obtain ⟨R0, C0, H0, B0, P0, rfl⟩ := open_vec Try.underlying52 Try.underlying3 ⟨rfl, rfl⟩ ⟨rfl, rfl⟩ ⟨rfl, rfl⟩ ⟨rfl, rfl⟩ ⟨rfl, rfl⟩ (by kernel_rfl) (by kernel_rfl) (hval 0 52 v0 rfl rfl) h0
  have k1 := h1
  have lt1 : ∀ x ∈ p1, x.block < W.heap.size := by obtain ⟨m, hm⟩ := k1; exact DataW.trod_lt m _ _ _ hm
  obtain ⟨R1, C1, H1, B1, P1, rfl⟩ := open_vec Try.underlying52 Try.underlying3 ⟨rfl, rfl⟩ ⟨rfl, rfl⟩ ⟨rfl, rfl⟩ ⟨rfl, rfl⟩ ⟨rfl, rfl⟩ (by kernel_rfl) (by kernel_rfl) (hval 1 52 v1 rfl rfl) h1
  clear hA0 hval0
  refine (exactLessVec_walk R0 C0 H0 B0 P0 R1 C1 H1 B1 P1 W ).mono fun e W' ⟨he, bel⟩ => ?_
  subst he
  exact ⟨_, rfl, _, _, _, [], _, [], hW', trodAll_mk1 (shut_bool Try.underlying4 _), (trodAll_cons_mk (Below.trod fnExactLessVec_laid (by kernel_rfl) (of_decide_eq_true (by kernel_rfl)) k0 bel lt0) (trodAll_cons_mk (Below.trod fnExactLessVec_laid (by kernel_rfl) (of_decide_eq_true (by kernel_rfl)) k1 bel lt1) trodAll_mk0)), rfl, bel.frame _, fun h => by cases h⟩

theorem fnExactLessVec_holds : Rows.FnExactLessVecSaid :=
  OpenClaim.holds_of_wide 8 Try.f8 rfl rfl rfl rfl rfl rfl rfl ⟨rfl, rfl, rfl, rfl, rfl⟩ rfl rfl rfl rfl rfl (by kernel_rfl) Try.func8 (by kernel_rfl)
    (of_decide_eq_true (by kernel_rfl)) (by unfold Func.isWrapper; first | (rw [if_pos (by decide +kernel)]; kernel_rfl) | (rw [if_neg (by decide +kernel)]; exact ⟨rfl, rfl⟩))
    (fun os started H enc _ => fnExactLessVec_lifted os started H enc)

#print axioms fnExactLessVec_holds

end Go.Proofs.Ytanonfdgckanhaa
