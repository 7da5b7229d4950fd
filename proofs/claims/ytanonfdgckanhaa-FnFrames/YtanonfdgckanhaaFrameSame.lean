/-
  Whether two frames are the same: the program's function by its contract.
-/
import Derived.Test.YtanonfdgckanhaaFrameSpec
import Derived.Test.YtanonfdgckanhaaFrameBy
namespace Go.Proofs.Ytanonfdgckanhaa
open Go.RowKit

set_option maxRecDepth 100000 in
set_option maxHeartbeats 400000 in
theorem bytesEqual_any (a1 : Option Addr) (l1 c1 : Nat) (z1 : List Int) (a2 : Option Addr) (l2 c2 : Nat) (z2 : List Int) (w : World) (h1 : Row w a1 l1 c1 z1) (h2 : Row w a2 l2 c2 z2) :
    Calls Try.prog 58 #[.slice a1 l1 c1, .slice a2 l2 c2] w fun e w' => e = .returned (.bool (decide (z1 = z2))) ∧ w' = w := by
  have e1 := conv_row 9 w a1 l1 c1 z1 h1 Try.underlying9
  have e2 := conv_row 9 w a2 l2 c2 z2 h2 Try.underlying9
  go_enter Try.func58, Try.ntmps58
  go_wp2
  go_ret
  exact ⟨ret_bool (byB_same h1.byte h2.byte), rfl⟩

set_option maxRecDepth 100000 in
set_option maxHeartbeats 1000000 in
theorem implSameFrame_any (K N S : Int) (a1 : Option Addr) (l1 c1 : Nat) (z1 : List Int) (K' N' S' : Int) (a2 : Option Addr) (l2 c2 : Nat) (z2 : List Int) (w : World) (h1 : Row w a1 l1 c1 z1) (h2 : Row w a2 l2 c2 z2) :
    Calls Try.prog 20 #[.agg #[.int .i64 K, .int .i64 N, .int .i64 S, .slice a1 l1 c1], .agg #[.int .i64 K', .int .i64 N', .int .i64 S', .slice a2 l2 c2]] w fun e w' => e = .returned (.bool (sameF K N S z1 K' N' S' z2)) ∧ Below w.heap.size w w' := by
  generalize hP : sameF K N S z1 K' N' S' z2 = P
  have HP := hide hP
  clear hP
  cases t1 : (K == K')
  · go_enter Try.func20, Try.ntmps20
    go_wp2
    go_ret
    exact ⟨ret_bool (by rw [← HP.out]; simp [sameF, t1]), below_two _ _ _⟩
  cases t2 : (N == N')
  · go_enter Try.func20, Try.ntmps20
    go_wp2
    go_ret
    exact ⟨ret_bool (by rw [← HP.out]; simp [sameF, t2]), below_two _ _ _⟩
  cases t3 : (S == S')
  · go_enter Try.func20, Try.ntmps20
    go_wp2
    go_ret
    exact ⟨ret_bool (by rw [← HP.out]; simp [sameF, t3]), below_two _ _ _⟩
  go_enter Try.func20, Try.ntmps20
  go_wp2_with fail
  refine (bytesEqual_any a1 l1 c1 z1 a2 l2 c2 z2 _ (h1.below (below_two _ _ _)) (h2.below (below_two _ _ _))).mono ?_
  rintro e w1 ⟨rfl, rfl⟩
  go_wp2
  go_ret
  exact ⟨ret_bool (by rw [← HP.out]; simp [sameF, t1, t2, t3]), below_two _ _ _⟩

end Go.Proofs.Ytanonfdgckanhaa
