/-
  Whether a table is right, the program's own.
-/
import Derived.Test.YtfefhilolhdonaaPAK01
import Derived.Test.YtfefhilolhdonaaPAVtabOkS
import Derived.Deep.RegionHeld3
namespace Go.Proofs.Ytfefhilolhdonaa
open Go.RowKit

set_option maxRecDepth 100000 in
set_option maxHeartbeats 400000 in
theorem implIn9_any (x lo hi : Int) (w : World) :
  Calls Try.prog 16 #[.int .i64 x, .int .i64 lo, .int .i64 hi] w fun e w' => e = .returned (.bool (decide (lo ≤ x) && decide (x ≤ hi))) ∧ w' = w := by
 by_cases h1 : lo ≤ x
 ·go_enter Try.func16, Try.ntmps16
  go_wp2
  go_ret
  exact ⟨ret_bool (by simp [h1]), rfl⟩
 ·go_enter Try.func16, Try.ntmps16
  go_wp2
  go_ret
  exact ⟨ret_bool (by rw [decide_eq_false (show ¬ lo ≤ x by omega)]; rfl), rfl⟩

set_option maxRecDepth 100000 in
set_option maxHeartbeats 1000000 in
theorem portBits_any (p : Nat) (h1 : 1 ≤ p) (h6 : p ≤ 6) (w : World) :
  Calls Try.prog 43 #[.int .i64 p] w fun e w' => e = .returned (.int .i64 (allOf p)) ∧ w' = w := by
 rcases (show p = 1 ∨ p = 2 ∨ p = 3 ∨ p = 4 ∨ p = 5 ∨ p = 6 by omega) with rfl | rfl | rfl | rfl | rfl | rfl
 ·show Calls Try.prog 43 #[.int .i64 1] w _
  go_enter Try.func43, Try.ntmps43
  go_wp2
  go_ret
  exact ⟨rfl, rfl⟩
 ·show Calls Try.prog 43 #[.int .i64 2] w _
  go_enter Try.func43, Try.ntmps43
  go_wp2
  go_ret
  exact ⟨rfl, rfl⟩
 ·show Calls Try.prog 43 #[.int .i64 3] w _
  go_enter Try.func43, Try.ntmps43
  go_wp2
  go_ret
  exact ⟨rfl, rfl⟩
 ·show Calls Try.prog 43 #[.int .i64 4] w _
  go_enter Try.func43, Try.ntmps43
  go_wp2
  go_ret
  exact ⟨rfl, rfl⟩
 ·show Calls Try.prog 43 #[.int .i64 5] w _
  go_enter Try.func43, Try.ntmps43
  go_wp2
  go_ret
  exact ⟨rfl, rfl⟩
 ·show Calls Try.prog 43 #[.int .i64 6] w _
  go_enter Try.func43, Try.ntmps43
  go_wp2
  go_ret
  exact ⟨rfl, rfl⟩

end Go.Proofs.Ytfefhilolhdonaa
