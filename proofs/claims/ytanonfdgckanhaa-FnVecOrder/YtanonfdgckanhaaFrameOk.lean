/-
  Whether a frame is right: the program's function by its contract.
-/
import Derived.Test.YtanonfdgckanhaaFrameSpec
namespace Go.Proofs.Ytanonfdgckanhaa
open Go.RowKit

set_option maxRecDepth 100000 in
set_option maxHeartbeats 400000 in
theorem implWithin_any (n lo hi : Int) (w : World) : Calls Try.prog 56 #[.int .i64 n, .int .i64 lo, .int .i64 hi] w fun e w' => e = .returned (.bool (decide (lo ≤ n) && decide (n ≤ hi))) ∧ w' = w := by
  by_cases h1 : lo ≤ n
  · by_cases h2 : n ≤ hi
    · rw [decide_eq_true h1, decide_eq_true h2]
      go_enter Try.func56, Try.ntmps56
      go_wp2
      go_ret
      exact ⟨rfl, rfl⟩
    · rw [decide_eq_true h1, decide_eq_false h2]
      go_enter Try.func56, Try.ntmps56
      go_wp2
      go_ret
      exact ⟨rfl, rfl⟩
  · rw [decide_eq_false h1, Bool.false_and]
    go_enter Try.func56, Try.ntmps56
    go_wp2
    go_ret
    exact ⟨rfl, rfl⟩

set_option maxRecDepth 100000 in
set_option maxHeartbeats 2000000 in
theorem implFrameOk_any (K N S : Int) (a1 : Option Addr) (l1 c1 : Nat) (z1 : List Int) (w : World) (h1 : Row w a1 l1 c1 z1) :
    Calls Try.prog 17 #[.agg #[.int .i64 K, .int .i64 N, .int .i64 S, .slice a1 l1 c1]] w fun e w' => e = .returned (.bool (okF K N S l1)) ∧ Below w.heap.size w w' := by
  have hl := Nat.le_trans h1.le h1.top
  unfold maxLen at hl
  generalize hP : okF K N S l1 = P
  rw [okF_is] at hP
  cases t1 : (decide (0 ≤ K) && decide (K ≤ 9999))
  · have e : P = false := by rw [← hP, t1]; rfl
    subst e
    have T1 := hide t1
    clear hP h1 t1
    go_enter Try.func17, Try.ntmps17
    go_wp2_with fail
    refine (implWithin_any K 0 9999 _).mono ?_
    rintro e w1 ⟨rfl, rfl⟩
    rw [T1.out]
    go_wp2
    go_ret
    exact ⟨rfl, below_one _ _⟩
  cases t2 : (decide (1 ≤ N) && decide (N ≤ 9999))
  · have e : P = false := by rw [← hP, t1, t2]; rfl
    subst e
    have T1 := hide t1
    have T2 := hide t2
    clear hP h1 t1 t2
    go_enter Try.func17, Try.ntmps17
    go_wp2_with fail
    refine (implWithin_any K 0 9999 _).mono ?_
    rintro e w1 ⟨rfl, rfl⟩
    rw [T1.out]
    go_wp2_with fail
    refine (implWithin_any N 1 9999 _).mono ?_
    rintro e w2 ⟨rfl, rfl⟩
    rw [T2.out]
    go_wp2
    go_ret
    exact ⟨rfl, below_one _ _⟩
  cases t3 : (decide (0 ≤ S) && decide (S ≤ 99))
  · have e : P = false := by rw [← hP, t1, t2, t3]; rfl
    subst e
    have T1 := hide t1
    have T2 := hide t2
    have T3 := hide t3
    clear hP h1 t1 t2 t3
    go_enter Try.func17, Try.ntmps17
    go_wp2_with fail
    refine (implWithin_any K 0 9999 _).mono ?_
    rintro e w1 ⟨rfl, rfl⟩
    rw [T1.out]
    go_wp2_with fail
    refine (implWithin_any N 1 9999 _).mono ?_
    rintro e w2 ⟨rfl, rfl⟩
    rw [T2.out]
    go_wp2_with fail
    refine (implWithin_any S 0 99 _).mono ?_
    rintro e w3 ⟨rfl, rfl⟩
    rw [T3.out]
    go_wp2
    go_ret
    exact ⟨rfl, below_one _ _⟩
  rw [t1, t2, t3, Bool.true_and, Bool.true_and, Bool.true_and] at hP
  have HP := hide hP
  have T1 := hide t1
  have T2 := hide t2
  have T3 := hide t3
  clear hP h1 t1 t2 t3
  go_enter Try.func17, Try.ntmps17
  go_wp2_with fail
  refine (implWithin_any K 0 9999 _).mono ?_
  rintro e w1 ⟨rfl, rfl⟩
  rw [T1.out]
  go_wp2_with fail
  refine (implWithin_any N 1 9999 _).mono ?_
  rintro e w2 ⟨rfl, rfl⟩
  rw [T2.out]
  go_wp2_with fail
  refine (implWithin_any S 0 99 _).mono ?_
  rintro e w3 ⟨rfl, rfl⟩
  rw [T3.out]
  go_wp2
  go_ret
  exact ⟨ret_bool HP.out, below_one _ _⟩

end Go.Proofs.Ytanonfdgckanhaa
