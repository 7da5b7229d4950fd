/-
  Frames as the specification has them: whether one is right, whether two are the same, their bytes, one with another tag.
-/
import Derived.Test.YtanonfdgckanhaaFrameHelp
import Derived.Test.YtanonfdgckanhaaFrameMath
import Derived.Test.YtanonfdgckanhaaTextRow
import Derived.Test.YtanonfdgckanhaaTlv
import Derived.Test.YtanonfdgckanhaaNum
import Derived.Deep.RegionHeld3
namespace Go.Proofs.Ytanonfdgckanhaa
open Go.RowKit

theorem okF_is (K N S : Int) (n : Nat) : okF K N S n = ((decide (0 ≤ K) && decide (K ≤ 9999)) && ((decide (1 ≤ N) && decide (N ≤ 9999)) && ((decide (0 ≤ S) && decide (S ≤ 99)) && decide ((n : Int) ≤ 20)))) := by
  unfold okF
  have e1 : ∀ a x b : Int, decide (a ≤ x ∧ x ≤ b) = (decide (a ≤ x) && decide (x ≤ b)) := fun a x b => by rw [Bool.eq_iff_iff]; simp
  have e2 : decide (n ≤ 20) = decide ((n : Int) ≤ 20) := by rw [Bool.eq_iff_iff]; simp; omega
  rw [e1, e1, e1, e2]

set_option maxRecDepth 100000 in
set_option maxHeartbeats 2000000 in
theorem specFrameOk_any (K N S : Int) (a1 : Option Addr) (l1 c1 : Nat) (z1 : List Int) (w : World) (h1 : Row w a1 l1 c1 z1) :
    Calls Try.prog 19 #[.agg #[.int .i64 K, .int .i64 N, .int .i64 S, .slice a1 l1 c1]] w fun e w' => e = .returned (.bool (okF K N S l1)) ∧ Below w.heap.size w w' := by
  have hl := Nat.le_trans h1.le h1.top
  unfold maxLen at hl
  generalize hP : okF K N S l1 = P
  rw [okF_is] at hP
  cases t1 : (decide (0 ≤ K) && decide (K ≤ 9999))
  · have e : P = false := by rw [← hP, t1]; rfl
    subst e
    have T1 := hide t1
    clear hP h1 t1
    go_enter Try.func19, Try.ntmps19
    go_wp2_with fail
    refine (within_any K 0 9999 _).mono ?_
    rintro e w1 ⟨rfl, rfl⟩
    rw [T1.out]
    go_wp2
    go_ret
    exact ⟨rfl, below_one _ _⟩
  cases t2 : (decide (1 ≤ N) && decide (N ≤ 9999))
  · have e : P = false := by rw [← hP, t1, t2]; rfl
    subst e
    have T1 := hide t1
    have T2 := hide t2
    clear hP h1 t1 t2
    go_enter Try.func19, Try.ntmps19
    go_wp2_with fail
    refine (within_any K 0 9999 _).mono ?_
    rintro e w1 ⟨rfl, rfl⟩
    rw [T1.out]
    go_wp2_with fail
    refine (within_any N 1 9999 _).mono ?_
    rintro e w2 ⟨rfl, rfl⟩
    rw [T2.out]
    go_wp2
    go_ret
    exact ⟨rfl, below_one _ _⟩
  cases t3 : (decide (0 ≤ S) && decide (S ≤ 99))
  · have e : P = false := by rw [← hP, t1, t2, t3]; rfl
    subst e
    have T1 := hide t1
    have T2 := hide t2
    have T3 := hide t3
    clear hP h1 t1 t2 t3
    go_enter Try.func19, Try.ntmps19
    go_wp2_with fail
    refine (within_any K 0 9999 _).mono ?_
    rintro e w1 ⟨rfl, rfl⟩
    rw [T1.out]
    go_wp2_with fail
    refine (within_any N 1 9999 _).mono ?_
    rintro e w2 ⟨rfl, rfl⟩
    rw [T2.out]
    go_wp2_with fail
    refine (within_any S 0 99 _).mono ?_
    rintro e w3 ⟨rfl, rfl⟩
    rw [T3.out]
    go_wp2
    go_ret
    exact ⟨rfl, below_one _ _⟩
  rw [t1, t2, t3, Bool.true_and, Bool.true_and, Bool.true_and] at hP
  have HP := hide hP
  have T1 := hide t1
  have T2 := hide t2
  have T3 := hide t3
  clear hP h1 t1 t2 t3
  go_enter Try.func19, Try.ntmps19
  go_wp2_with fail
  refine (within_any K 0 9999 _).mono ?_
  rintro e w1 ⟨rfl, rfl⟩
  rw [T1.out]
  go_wp2_with fail
  refine (within_any N 1 9999 _).mono ?_
  rintro e w2 ⟨rfl, rfl⟩
  rw [T2.out]
  go_wp2_with fail
  refine (within_any S 0 99 _).mono ?_
  rintro e w3 ⟨rfl, rfl⟩
  rw [T3.out]
  go_wp2
  go_ret
  exact ⟨ret_bool HP.out, below_one _ _⟩

theorem putF_len (K N S : Int) (z : List Int) : (putF K N S z).length ≤ 3000000 := by
  unfold putF
  split
  · rename_i k
    obtain ⟨_, _, _, k4⟩ := okF_parts k
    rw [bodyF_eq (by omega)]
    have h1 := putInt_length K
    have h2 := putInt_length N
    have h3 := putInt_length S
    have e : ∀ (t : Int) (b : List Int), (tlvB t b).length ≤ b.length + 3 := by
      intro t b
      unfold tlvB
      have := lenB_le b.length
      simp
      omega
    have e1 := e 1 (putInt K)
    have e2 := e 1 (putInt N)
    have e3 := e 2 (putInt S)
    have e4 := e 3 z
    unfold tagB
    split <;> simp <;> omega
  · simp

end Go.Proofs.Ytanonfdgckanhaa
