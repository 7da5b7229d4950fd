/-
  Frames as the specification has them: whether one is right, whether two are the same, their bytes, one with another tag.
-/
import Derived.Test.YtanonfdgckanhabFrameHelp
import Derived.Test.YtanonfdgckanhabFrameMath
import Derived.Test.YtanonfdgckanhabTextRow
import Derived.Test.YtanonfdgckanhabTlv
import Derived.Test.YtanonfdgckanhabNum
import Derived.Deep.RegionHeld3
namespace Go.Proofs.Ytanonfdgckanhab
open Go.RowKit

theorem okF_is (K N S : Int) (n : Nat) : okF K N S n = ((decide (0 ≤ K) && decide (K ≤ 9999)) && ((decide (1 ≤ N) && decide (N ≤ 9999)) && ((decide (0 ≤ S) && decide (S ≤ 99)) && decide ((n : Int) ≤ 20)))) := by
  unfold okF
  have e1 : ∀ a x b : Int, decide (a ≤ x ∧ x ≤ b) = (decide (a ≤ x) && decide (x ≤ b)) := fun a x b => by rw [Bool.eq_iff_iff]; simp
  have e2 : decide (n ≤ 20) = decide ((n : Int) ≤ 20) := by rw [Bool.eq_iff_iff]; simp; omega
  rw [e1, e1, e1, e2]

theorem putF_len (K N S : Int) (z : List Int) : (putF K N S z).length ≤ 3000000 := by
  unfold putF
  split
  · rename_i k
    obtain ⟨_, _, _, k4⟩ := okF_parts k
    rw [bodyF_eq (by omega)]
    have h1 := putInt_length K
    have h2 := putInt_length N
    have h3 := putInt_length S
    have e : ∀ (t : Int) (b : List Int), (tlvB t b).length ≤ b.length + 3 := by
      intro t b
      unfold tlvB
      have := lenB_le b.length
      simp
      omega
    have e1 := e 1 (putInt K)
    have e2 := e 1 (putInt N)
    have e3 := e 2 (putInt S)
    have e4 := e 3 z
    unfold tagB
    split <;> simp <;> omega
  · simp

end Go.Proofs.Ytanonfdgckanhab
