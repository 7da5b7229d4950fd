/-
  Whether a vector is right: the program's function, which holds it against the nearest one that is.
-/
import Derived.Test.YtanonfdgckanhaaVecNear
import Derived.Test.YtanonfdgckanhaaVecSpec
namespace Go.Proofs.Ytanonfdgckanhaa
open Go.RowKit

theorem cl_same (n lo hi : Int) (h : lo ≤ hi) : (n == cl n lo hi) = (decide (lo ≤ n) && decide (n ≤ hi)) := by
  unfold cl
  rw [Bool.eq_iff_iff]
  simp
  omega

theorem okVc_near (R C H B P : Int) : ((R == cl R 1 99) && ((C == cl C 0 100000) && ((H == cl H 0 10) && ((B == cl B 1 99) && (P == cl P 0 7))))) = okVc R C H B P := by
  rw [okVc_is, cl_same _ _ _ (by omega), cl_same _ _ _ (by omega), cl_same _ _ _ (by omega), cl_same _ _ _ (by omega), cl_same _ _ _ (by omega)]

/-- Two vectors held against each other, part by part. -/
theorem vec_eql (R C H B P R' C' H' B' P' : Int) (w : World) : (binOp .eql 38 (.agg #[.int .i64 R, .int .i64 C, .int .i64 H, .int .i64 B, .int .i64 P]) (.agg #[.int .i64 R', .int .i64 C', .int .i64 H', .int .i64 B', .int .i64 P'])).run Try.prog w = .ok (.bool ((R == R') && ((C == C') && ((H == H') && ((B == B') && (P == P')))))) w := by
  have u3 := Try.underlying3
  have a3 := Try.isAgg3
  have z3 := Try.sizeOf3
  have hS : Try.prog.underlying 38 = some (.struct (Try.prog.fieldsOf 38)) := by kernel_rfl
  have hp : Try.prog.stoodInHeld 38 = false := by kernel_rfl
  rw [run_eql_struct, show (10000 : Nat) = 9999 + 1 from rfl, run_equalIn_agg w 9999 38 _ _ hS hp]
  simp only [Program.fieldsOf, Try.underlying38]
  go_simp
  by_cases h1 : R = R' <;> by_cases h2 : C = C' <;> by_cases h3 : H = H' <;> by_cases h4 : B = B' <;> by_cases h5 : P = P' <;> simp [h1, h2, h3, h4, h5]

set_option maxRecDepth 100000 in
set_option maxHeartbeats 2000000 in
theorem implVecOk_any (R C H B P : Int) (w : World) :
    Calls Try.prog 26 #[.agg #[.int .i64 R, .int .i64 C, .int .i64 H, .int .i64 B, .int .i64 P]] w fun e w' => e = .returned (.bool (okVc R C H B P)) ∧ Below w.heap.size w w' := by
  have k0 := block_last w (.cells #[.int .i64 R, .int .i64 C, .int .i64 H, .int .i64 B, .int .i64 P] 38)
  have q0 := below_one w (.cells #[.int .i64 R, .int .i64 C, .int .i64 H, .int .i64 B, .int .i64 P] 38)
  have he : ∀ W, (binOp .eql 38 (.agg #[.int .i64 R, .int .i64 C, .int .i64 H, .int .i64 B, .int .i64 P]) (.agg #[.int .i64 (cl R 1 99), .int .i64 (cl C 0 100000), .int .i64 (cl H 0 10), .int .i64 (cl B 1 99), .int .i64 (cl P 0 7)])).run Try.prog W = .ok (.bool (okVc R C H B P)) W := fun W => by rw [vec_eql, okVc_near]
  have hgd : Try.prog.eqGuardType Try.prog.depth 38 = false := by kernel_rfl
  generalize okVc R C H B P = Q at *
  go_enter Try.func26, Try.ntmps26
  go_wp2_with fail
  generalize (w.alloc (.cells #[.int .i64 R, .int .i64 C, .int .i64 H, .int .i64 B, .int .i64 P] 38)) = wb at *
  obtain ⟨⟨x0, x1, x2, x3, x4⟩, -⟩ := cells5 k0
  have K0 := hide k0
  clear k0
  go_region_held3 (fun W => W.cell? ⟨w.heap.size, 0, none⟩ = some (.int .i64 R) ∧ W.cell? ⟨w.heap.size, 1, none⟩ = some (.int .i64 C) ∧ W.cell? ⟨w.heap.size, 2, none⟩ = some (.int .i64 H) ∧ W.cell? ⟨w.heap.size, 3, none⟩ = some (.int .i64 B) ∧ W.cell? ⟨w.heap.size, 4, none⟩ = some (.int .i64 P)) (first | assumption | exact (cells5 k1).1 | go_keep) (first
    | (go_at_call 65; refine (nearest_any R C H B P _).mono ?_; rintro e w1 ⟨rfl, hb1⟩; have k1 := kept_block K0.out (undrew hb1)))
  go_wp2
  go_ret
  exact ⟨rfl, gr_trans q0 (undrew hb1)⟩

end Go.Proofs.Ytanonfdgckanhaa
