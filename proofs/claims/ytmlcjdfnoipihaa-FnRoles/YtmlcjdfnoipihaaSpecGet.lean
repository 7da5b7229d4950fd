/-
  The specification's GetTlv by its contract: it answers what the plain function says.
-/
import Derived.Test.YtmlcjdfnoipihaaGet
namespace Go.Proofs.Ytmlcjdfnoipihaa
open Go.RowKit

theorem getTlv_no (z : List Int) (p : Nat) (h : ¬ ((lenAt z (p + 1)).2.2 = true ∧ (lenAt z (p + 1)).1 ≤ z.length - (lenAt z (p + 1)).2.1)) : getTlv z p = (0, [], 0, false) := by
  unfold getTlv
  simp only [Int.toNat_natCast]
  rw [if_neg h]
  split <;> rfl

theorem getTlv_yes (z : List Int) (p n f : Nat) (hp : p < z.length) (hl : lenAt z (p + 1) = ((n : Int), (f : Int), true)) (h : (n : Int) ≤ z.length - f) : getTlv z p = (z.getD p 0, (z.drop f).take n, (f : Int) + n, true) := by
  unfold getTlv
  rw [if_neg (by omega)]
  simp only [Int.toNat_natCast]
  rw [hl, if_pos ⟨rfl, h⟩]
  simp

theorem lenAt_out (z : List Int) (p : Nat) (h : z.length ≤ p) : lenAt z p = (0, 0, false) := by unfold lenAt; rw [if_pos h]
theorem lenAt_short (z : List Int) (p : Nat) (x : Int) (h : p < z.length) (hx : z.getD p 0 = x) (h1 : x < 128) : lenAt z p = (x, (p : Int) + 1, true) := by
  unfold lenAt; rw [if_neg (by omega), hx, if_pos h1]
theorem lenAt_other (z : List Int) (p : Nat) (x : Int) (h : p < z.length) (hx : z.getD p 0 = x) (h1 : ¬ x < 128) (h2 : ¬ x = 129) : lenAt z p = (0, 0, false) := by
  unfold lenAt; rw [if_neg (by omega), hx, if_neg h1, if_pos h2]
theorem lenAt_cut (z : List Int) (p : Nat) (h : p < z.length) (hx : z.getD p 0 = 129) (h1 : z.length ≤ p + 1) : lenAt z p = (0, 0, false) := by
  unfold lenAt; rw [if_neg (by omega), hx, if_neg (by omega), if_neg (by omega), if_pos h1]
theorem lenAt_long (z : List Int) (p : Nat) (y : Int) (h : p + 1 < z.length) (hx : z.getD p 0 = 129) (hy : z.getD (p + 1) 0 = y) : lenAt z p = (y, (p : Int) + 2, decide (128 ≤ y) && decide (y ≤ 250)) := by
  unfold lenAt; rw [if_neg (by omega), hx, if_neg (by omega), if_neg (by omega), if_neg (by omega), hy]

end Go.Proofs.Ytmlcjdfnoipihaa
