/-
  Two vectors held against each other.
-/
import Derived.Test.YtmlcjdfnoipihaaVecHelp
namespace Go.Proofs.Ytmlcjdfnoipihaa
open Go.RowKit

/-- Two vectors held against each other, part by part. -/
theorem vec_eql (R C H B P R' C' H' B' P' : Int) (w : World) : (binOp .eql 28 (.agg #[.int .i64 R, .int .i64 C, .int .i64 H, .int .i64 B, .int .i64 P]) (.agg #[.int .i64 R', .int .i64 C', .int .i64 H', .int .i64 B', .int .i64 P'])).run Try.prog w = .ok (.bool ((R == R') && ((C == C') && ((H == H') && ((B == B') && (P == P')))))) w := by
  have u3 := Try.underlying3
  have a3 := Try.isAgg3
  have z3 := Try.sizeOf3
  have hS : Try.prog.underlying 28 = some (.struct (Try.prog.fieldsOf 28)) := by kernel_rfl
  have hp : Try.prog.stoodInHeld 28 = false := by kernel_rfl
  rw [run_eql_struct, show (10000 : Nat) = 9999 + 1 from rfl, run_equalIn_agg w 9999 28 _ _ hS hp]
  simp only [Program.fieldsOf, Try.underlying28]
  go_simp
  by_cases h1 : R = R' <;> by_cases h2 : C = C' <;> by_cases h3 : H = H' <;> by_cases h4 : B = B' <;> by_cases h5 : P = P' <;> simp [h1, h2, h3, h4, h5]

end Go.Proofs.Ytmlcjdfnoipihaa
