/-
  Whether two values are the same, by contracts: the specification's and the program's.
-/
import Derived.Test.YtamglfhnhjgdjaaGreatDoorValWor
import Derived.Test.YtamglfhnhjgdjaaGreatDoorNum
namespace Go.Proofs.YtamglfhnhjgdjaaGreatDoor
open Go.RowKit

set_option maxRecDepth 100000 in
set_option maxHeartbeats 400000 in
theorem implSameVal_any (K N : Int) (S : ByteArray) (a1 : Option Addr) (l1 c1 : Nat) (z1 : List Int) (K' N' : Int) (S' : ByteArray) (a2 : Option Addr) (l2 c2 : Nat) (z2 : List Int) (w : World) (h1 : IRow w a1 l1 c1 z1) (h2 : IRow w a2 l2 c2 z2) :
    Calls Tryz.prog 82 #[.agg #[.int .i64 K, .int .i64 N, .string S, .slice a1 l1 c1], .agg #[.int .i64 K', .int .i64 N', .string S', .slice a2 l2 c2]] w fun e w' => e = .returned (.bool (sameV K N S z1 K' N' S' z2)) ∧ Below w.heap.size w w' := by
  generalize hP : sameV K N S z1 K' N' S' z2 = P
  have HP := hide hP
  clear hP
  cases t1 : (K == K')
  · go_enter Tryz.func82, Tryz.ntmps82
    go_wp2
    go_ret
    exact ⟨ret_bool (by rw [← HP.out]; simp [sameV, t1]), below_two _ _ _⟩
  cases t2 : (N == N')
  · go_enter Tryz.func82, Tryz.ntmps82
    go_wp2
    go_ret
    exact ⟨ret_bool (by rw [← HP.out]; simp [sameV, t2]), below_two _ _ _⟩
  cases t3 : (S.toList == S'.toList)
  · go_enter Tryz.func82, Tryz.ntmps82
    go_wp2
    go_ret
    exact ⟨ret_bool (by rw [← HP.out]; simp [sameV, t3]), below_two _ _ _⟩
  go_enter Tryz.func82, Tryz.ntmps82
  go_wp2_with fail
  refine (equal_any a1 l1 c1 z1 a2 l2 c2 z2 _ (h1.below (below_two _ _ _)) (h2.below (below_two _ _ _))).mono ?_
  rintro e w1 ⟨rfl, n, rfl⟩
  go_wp2
  go_ret
  exact ⟨ret_bool (by rw [← HP.out]; simp [sameV, t1, t2, t3]), below_drewN (below_two _ _ _) n⟩

/-- A value is right. -/
def okV (K N : Int) (S : ByteArray) (z : List Int) : Bool :=
  if K = 5 ∨ K = 128 ∨ K = 130 then (N == 0) && (S.toList.isEmpty && decide (z = []))
  else if K = 2 then (clip N == N) && (S.toList.isEmpty && decide (z = []))
  else if K = 4 then decide ((S.size : Int) ≤ 20) && ((N == 0) && decide (z = []))
  else if K = 6 then oidOk z && ((N == 0) && S.toList.isEmpty)
  else false

end Go.Proofs.YtamglfhnhjgdjaaGreatDoor
