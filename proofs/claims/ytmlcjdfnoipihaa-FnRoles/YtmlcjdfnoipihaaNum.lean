/-
  Numbers as bytes: what PutInt answers, as a plain function, and both Go functions by their contracts.
-/
import Derived.Test.YtmlcjdfnoipihaaPieces
namespace Go.Proofs.Ytmlcjdfnoipihaa
open Go.RowKit

/-- A number, or the nearest that is kept. -/
def clip (n : Int) : Int := if 2147483647 < n then 2147483647 else if n < -2147483648 then -2147483648 else n

/-- The bytes of a number, the lower ones laid already. -/
def ints : Nat → Int → List Int → List Int
  | 0, _, out => out
  | f + 1, n, out => if n < -128 ∨ 127 < n then ints f (n / 256) (n / 256 % 256 :: out) else out

def putInt (n : Int) : List Int := ints 3 (clip n) [clip n % 256]

/-- f bytes more will do for n. -/
def Fits (f : Nat) (n : Int) : Prop := -(128 * 256 ^ f) ≤ n ∧ n < 128 * 256 ^ f

theorem clip_bd (n : Int) : -2147483648 ≤ clip n ∧ clip n ≤ 2147483647 := by unfold clip; split <;> (try split) <;> omega
theorem fits_clip (n : Int) : Fits 3 (clip n) := by have := clip_bd n; unfold Fits; constructor <;> (simp; omega)
theorem fits_zero (n : Int) (h : Fits 0 n) : ¬ (n < -128 ∨ 127 < n) := by unfold Fits at h; simp at h; omega
theorem fits_step (f : Nat) (n : Int) (h : Fits (f + 1) n) : Fits f (n / 256) := by
  unfold Fits at *
  rw [Int.pow_succ] at h
  generalize (256 : Int) ^ f = p at *
  omega
theorem ints_stop (f : Nat) (n : Int) (out : List Int) (h : ¬ (n < -128 ∨ 127 < n)) : ints f n out = out := by
  cases f with
  | zero => rfl
  | succ f => simp [ints, h]
theorem ints_byte (f : Nat) (n : Int) (out : List Int) (h : Byt out) : Byt (ints f n out) := by
  induction f generalizing n out with
  | zero => exact h
  | succ f ih =>
    unfold ints
    split
    · refine ih _ _ (fun z hz => ?_)
      rcases List.mem_cons.1 hz with rfl | hz
      · omega
      · exact h z hz
    · exact h
theorem ints_length (f : Nat) (n : Int) (out : List Int) : (ints f n out).length ≤ out.length + f := by
  induction f generalizing n out with
  | zero => exact Nat.le_refl _
  | succ f ih =>
    unfold ints
    split
    · have := ih (n / 256) (n / 256 % 256 :: out); simp at this; omega
    · omega
theorem byte_cons {x : Int} {zs : List Int} (h : 0 ≤ x ∧ x ≤ 255) (hz : Byt zs) : Byt (x :: zs) := by
  intro z h2
  rcases List.mem_cons.1 h2 with rfl | h2
  · exact h
  · exact hz z h2
theorem byte_one (x : Int) : Byt [x % 256] := by
  intro z hz; simp at hz; subst hz; omega
theorem ints_go (f : Nat) (n : Int) (out : List Int) (hf : Fits f n) (h : n < -128 ∨ 127 < n) : ∃ g, f = g + 1 ∧ Fits g (n / 256) ∧ ints g (n / 256) (n / 256 % 256 :: out) = ints f n out := by
  cases f with
  | zero => exact absurd h (fits_zero n hf)
  | succ g => exact ⟨g, rfl, fits_step g n hf, by simp [ints, h]⟩
theorem putInt_byte (n : Int) : Byt (putInt n) := ints_byte _ _ _ (byte_one _)
theorem putInt_length (n : Int) : (putInt n).length ≤ 4 := ints_length 3 _ _

theorem row_one (w : World) (b : Int) (h : 0 ≤ b ∧ b ≤ 255) : Row (w.alloc (.cells #[.int .u8 b] 5)) (some ⟨w.heap.size, 0, none⟩) 1 1 [b] where
  size := rfl
  le := Nat.le_refl _
  top := by unfold maxLen; omega
  nil := by intro h; cases h
  byte := by intro z hz; simp at hz; subst hz; exact h
  cell := .inr ⟨w.heap.size, 0, rfl, fun i hi => by
    obtain rfl : i = 0 := by omega
    simp⟩

end Go.Proofs.Ytmlcjdfnoipihaa
