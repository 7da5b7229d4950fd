/-
  A vector as an array of five numbers, and back; the nearest vector that is right: the program's own.
-/
import Derived.Test.YtmlcjdfnoipihaaVecHelp
import Derived.Deep.RegionHeld3
namespace Go.Proofs.Ytmlcjdfnoipihaa
open Go.RowKit

set_option maxRecDepth 100000 in
set_option maxHeartbeats 400000 in
theorem numbersOf_any (R C H B P : Int) (w : World) :
    Calls Try.prog 54 #[.agg #[.int .i64 R, .int .i64 C, .int .i64 H, .int .i64 B, .int .i64 P]] w fun e w' => e = .returned (.agg #[.int .i64 R, .int .i64 C, .int .i64 H, .int .i64 B, .int .i64 P]) ∧ Below w.heap.size w w' := by
  go_enter Try.func54, Try.ntmps54
  go_wp2
  exact bodyPost_ret (v := .agg #[.int .i64 R, .int .i64 C, .int .i64 H, .int .i64 B, .int .i64 P]) (by simp [results, Try.results54, go_sem, *]) rfl ⟨rfl, below_two _ _ _⟩

set_option maxRecDepth 100000 in
set_option maxHeartbeats 400000 in
theorem numbersOf_at (R C H B P : Int) (w : World) :
    Calls Try.prog 54 #[.agg #[.int .i64 R, .int .i64 C, .int .i64 H, .int .i64 B, .int .i64 P]] w fun e w' => e = .returned (.agg #[.int .i64 R, .int .i64 C, .int .i64 H, .int .i64 B, .int .i64 P]) ∧
      w' = (w.alloc (.cells #[.int .i64 R, .int .i64 C, .int .i64 H, .int .i64 B, .int .i64 P] 28)).alloc (.cells #[.int .i64 R, .int .i64 C, .int .i64 H, .int .i64 B, .int .i64 P] 78) := by
  go_enter Try.func54, Try.ntmps54
  go_wp2
  exact bodyPost_ret (v := .agg #[.int .i64 R, .int .i64 C, .int .i64 H, .int .i64 B, .int .i64 P]) (by simp [results, Try.results54, go_sem, *]) rfl ⟨rfl, rfl⟩

set_option maxRecDepth 100000 in
set_option maxHeartbeats 400000 in
theorem vecOf_any (R C H B P : Int) (w : World) :
    Calls Try.prog 55 #[.agg #[.int .i64 R, .int .i64 C, .int .i64 H, .int .i64 B, .int .i64 P]] w fun e w' => e = .returned (.agg #[.int .i64 R, .int .i64 C, .int .i64 H, .int .i64 B, .int .i64 P]) ∧ Below w.heap.size w w' := by
  go_enter Try.func55, Try.ntmps55
  go_wp2
  exact bodyPost_ret (v := .agg #[.int .i64 R, .int .i64 C, .int .i64 H, .int .i64 B, .int .i64 P]) (by simp [results, Try.results55, go_sem, *]) rfl ⟨rfl, below_two _ _ _⟩

theorem index5_0 (R C H B P : Int) (w : World) : (Instr.index 78 (.agg #[.int .i64 R, .int .i64 C, .int .i64 H, .int .i64 B, .int .i64 P]) (.int .i64 0)).run Try.prog w = .ok (.int .i64 R) w := by kernel_rfl
theorem index5_1 (R C H B P : Int) (w : World) : (Instr.index 78 (.agg #[.int .i64 R, .int .i64 C, .int .i64 H, .int .i64 B, .int .i64 P]) (.int .i64 1)).run Try.prog w = .ok (.int .i64 C) w := by kernel_rfl
theorem index5_2 (R C H B P : Int) (w : World) : (Instr.index 78 (.agg #[.int .i64 R, .int .i64 C, .int .i64 H, .int .i64 B, .int .i64 P]) (.int .i64 2)).run Try.prog w = .ok (.int .i64 H) w := by kernel_rfl
theorem index5_3 (R C H B P : Int) (w : World) : (Instr.index 78 (.agg #[.int .i64 R, .int .i64 C, .int .i64 H, .int .i64 B, .int .i64 P]) (.int .i64 3)).run Try.prog w = .ok (.int .i64 B) w := by kernel_rfl
theorem index5_4 (R C H B P : Int) (w : World) : (Instr.index 78 (.agg #[.int .i64 R, .int .i64 C, .int .i64 H, .int .i64 B, .int .i64 P]) (.int .i64 4)).run Try.prog w = .ok (.int .i64 P) w := by kernel_rfl

end Go.Proofs.Ytmlcjdfnoipihaa
