/-
  Which ports send, as the specification has it.
-/
import Derived.Test.YtmlcjdfnoipihaaPtRole
import Derived.Test.YtmlcjdfnoipihaaPtLaws
namespace Go.Proofs.Ytmlcjdfnoipihaa
open Go.RowKit

set_option maxRecDepth 100000 in
set_option maxHeartbeats 2000000 in
theorem specSends_any (id : Int) (a : Option Addr) (n c : Nat) (l : List PT) (w : World) (h : GRow ptF w a n c l) :
    Calls Try.prog 25 #[.int .i64 id, .slice a n c] w fun e w' => e = .returned (.int .i64 (sendsOf id l)) ∧ Below w.heap.size w w' := by
  have hle := h.le
  have htop := h.top
  unfold maxLen at htop
  have hsz := hide h.size
  go_enter Try.func25, Try.ntmps25
  go_wp2_with fail
  go_loopw [5, 6] (fun s i wr => ∃ k : Nat, k ≤ min n 6 ∧ i = .int .i64 k ∧ s = .int .i64 (sendsTo id l k) ∧ Below w.heap.size w wr) (fun _ i _ => 6 - (intOf i).toNat)
  case atStart => exact ⟨0, Nat.zero_le _, rfl, rfl, Below.refl _ _⟩
  case round =>
    obtain ⟨k, hk, rfl, rfl, hb⟩ := hrel
    have hk6 : k ≤ 6 := by omega
    generalize hS : sendsTo id l k = S
    have HS := hide hS
    clear hS
    by_cases hlt : k < min n 6
    · have hkn : k < n := by omega
      have hk5 : k < 6 := by omega
      have i1 : (0 : Int) ≤ (k : Int) := by omega
      have i2 : (k : Int) < (n : Int) := by omega
      have i3 : (k : Int) < 6 := by omega
      have hmin : (if (n : Int) ≤ 6 then (n : Int) else 6) = ((min n 6 : Nat) : Int) := by split <;> omega
      have i4 : (k : Int) < ((min n 6 : Nat) : Int) := by omega
      have HB := hide hb
      clear hk hb
      go_wp2_with fail
      refine (specRole_any id a n c l (k : Int) _ (h.below HB.out)).mono ?_
      rintro e w2 ⟨rfl, hb2⟩
      have HB2 := hide (gr_trans HB.out hb2)
      have h14 := role_one (id := id) (l := l) (k : Int)
      clear hb2
      generalize hR : roleOf id l (k : Int) = R at *
      have HR := hide hR
      clear hR
      by_cases hr : R ≤ 2
      · have HN : Hid (sendsTo id l (k + 1) = bits .or .i64 S (2 ^ k)) := hide (by rw [sendsTo, HR.out, if_pos hr, HS.out])
        have hw2 : wrap64 (2 ^ k) = 2 ^ k := by
          rcases (show k = 0 ∨ k = 1 ∨ k = 2 ∨ k = 3 ∨ k = 4 ∨ k = 5 by omega) with rfl | rfl | rfl | rfl | rfl | rfl <;> exact Go.IntWalk.wrap64_in _ (by decide)
        have HW2 := hide hw2
        clear hw2
        go_wp2
        rw [HW2.out]
        go_roundw
        case rel => exact ⟨k + 1, by omega, by go_num, by rw [HN.out], HB2.out⟩
        case measure => simp [intOf]; omega
      · have HN : Hid (sendsTo id l (k + 1) = S) := hide (by rw [sendsTo, HR.out, if_neg hr, HS.out])
        go_wp2
        go_roundw
        case rel => exact ⟨k + 1, by omega, by go_num, by rw [HN.out], HB2.out⟩
        case measure => simp [intOf]; omega
    · have hkn : k = min n 6 := by omega
      have HK : Hid (sendsOf id l = S) := hide (by unfold sendsOf; rw [hsz.out, ← hkn]; exact HS.out)
      have hend : ¬ ((k : Int) < (n : Int) ∧ (k : Int) < 6) := by omega
      go_wp2
      all_goals go_ret
      all_goals exact ⟨(by rw [HK.out]; rfl), hb⟩

end Go.Proofs.Ytmlcjdfnoipihaa
