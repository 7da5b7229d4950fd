/-
  A number comes back of its bytes; what is read has these bytes.
-/
import Derived.Test.YtmlcjdfnoipihaaGetNum
namespace Go.Proofs.Ytmlcjdfnoipihaa
open Go.RowKit

theorem sgn_mod (v : Int) (h : -128 ≤ v ∧ v ≤ 127) : sgn (v % 256) = v := by unfold sgn; split <;> omega

/-- A number comes back of its bytes. -/
theorem int_back (n : Int) : getInt (putInt n) = (clip n, true) := by
  have hc := clip_bd n
  have e : putInt n = ints 3 (clip n) [clip n % 256] := rfl
  rw [e]
  generalize clip n = v at *
  have hv : val (ints 3 v [v % 256]) ((ints 3 v [v % 256]).length - 1) = v ∧ 1 ≤ (ints 3 v [v % 256]).length ∧ (ints 3 v [v % 256]).length ≤ 4 := by
    by_cases k1 : v < -128 ∨ 127 < v
    · by_cases k2 : v / 256 < -128 ∨ 127 < v / 256
      · by_cases k3 : v / 256 / 256 < -128 ∨ 127 < v / 256 / 256
        · simp [ints, k1, k2, k3, val]
          rw [sgn_mod _ (by omega)]; omega
        · simp [ints, k1, k2, k3, val]
          rw [sgn_mod _ (by omega)]; omega
      · simp [ints, k1, k2, val]
        rw [sgn_mod _ (by omega)]; omega
    · simp [ints, k1, val]
      exact sgn_mod _ (by omega)
  obtain ⟨h1, h2, h3⟩ := hv
  have hp : putInt v = ints 3 v [v % 256] := by
    have : clip v = v := by unfold clip; rw [if_neg (by omega), if_neg (by omega)]
    unfold putInt; rw [this]
  unfold getInt
  rw [if_neg (by omega), h1, hp, if_pos rfl]

/-- What is read has these bytes. -/
theorem int_read (z : List Int) (hz : Byt z) (y : Int) (h : getInt z = (y, true)) : putInt y = z := by
  unfold getInt at h
  by_cases h0 : z.length = 0 ∨ 4 < z.length
  · rw [if_pos h0] at h; simp at h
  rw [if_neg h0] at h
  by_cases h1 : (putInt (val z (z.length - 1))).length = z.length
  · rw [if_pos h1] at h
    simp only [Prod.mk.injEq, and_true] at h
    subst h
    have hb := val_bd hz (z.length - 1) (by omega)
    rw [putInt_len _ hb] at h1
    have hc : ∀ v : Int, -2147483648 ≤ v ∧ v ≤ 2147483647 → putInt v = ints 3 v [v % 256] := fun v hv => by
      have : clip v = v := by unfold clip; rw [if_neg (by omega), if_neg (by omega)]
      unfold putInt; rw [this]
    rw [hc _ hb]
    have b0 := hz.at 0; have b1 := hz.at 1; have b2 := hz.at 2; have b3 := hz.at 3
    match z, hz, h0, h1, hb, b0, b1, b2, b3 with
    | [], _, h0, _, _, _, _, _, _ => simp at h0
    | [x0], _, _, h1, _, b0, _, _, _ =>
      simp [val] at *
      generalize hs : sgn x0 = s0 at *
      have : (s0 = x0 ∧ x0 ≤ 127) ∨ (s0 = x0 - 256 ∧ 127 < x0) := by rw [← hs]; unfold sgn; split <;> omega
      have k1 : ¬ (s0 < -128 ∨ 127 < s0) := by omega
      simp [ints, k1]; omega
    | [x0, x1], _, _, h1, _, b0, b1, _, _ =>
      simp [val] at *
      generalize hs : sgn x0 = s0 at *
      have : (s0 = x0 ∧ x0 ≤ 127) ∨ (s0 = x0 - 256 ∧ 127 < x0) := by rw [← hs]; unfold sgn; split <;> omega
      have k0 : ¬ (-128 ≤ s0 * 256 + x1 ∧ s0 * 256 + x1 ≤ 127) := by intro h; rw [if_pos h] at h1; omega
      have k1 : s0 * 256 + x1 < -128 ∨ 127 < s0 * 256 + x1 := by omega
      have k2 : ¬ ((s0 * 256 + x1) / 256 < -128 ∨ 127 < (s0 * 256 + x1) / 256) := by omega
      simp [ints, k1, k2]; omega
    | [x0, x1, x2], _, _, h1, _, b0, b1, b2, _ =>
      simp [val] at *
      generalize hs : sgn x0 = s0 at *
      have : (s0 = x0 ∧ x0 ≤ 127) ∨ (s0 = x0 - 256 ∧ 127 < x0) := by rw [← hs]; unfold sgn; split <;> omega
      generalize hv : (s0 * 256 + x1) * 256 + x2 = v at *
      have k0 : ¬ (-32768 ≤ v ∧ v ≤ 32767) := by intro h; by_cases h' : -128 ≤ v ∧ v ≤ 127 <;> simp [h, h'] at h1
      have k1 : v < -128 ∨ 127 < v := by omega
      have k2 : v / 256 < -128 ∨ 127 < v / 256 := by omega
      have k3 : ¬ (v / 256 / 256 < -128 ∨ 127 < v / 256 / 256) := by omega
      simp [ints, k1, k2, k3]; omega
    | [x0, x1, x2, x3], _, _, h1, _, b0, b1, b2, b3 =>
      simp [val] at *
      generalize hs : sgn x0 = s0 at *
      have : (s0 = x0 ∧ x0 ≤ 127) ∨ (s0 = x0 - 256 ∧ 127 < x0) := by rw [← hs]; unfold sgn; split <;> omega
      generalize hv : ((s0 * 256 + x1) * 256 + x2) * 256 + x3 = v at *
      have k0 : ¬ (-8388608 ≤ v ∧ v ≤ 8388607) := by intro h; by_cases h' : -128 ≤ v ∧ v ≤ 127 <;> by_cases h'' : -32768 ≤ v ∧ v ≤ 32767 <;> simp [h, h', h''] at h1
      have k1 : v < -128 ∨ 127 < v := by omega
      have k2 : v / 256 < -128 ∨ 127 < v / 256 := by omega
      have k3 : v / 256 / 256 < -128 ∨ 127 < v / 256 / 256 := by omega
      simp [ints, k1, k2, k3]; omega
    | x0 :: x1 :: x2 :: x3 :: x4 :: r, _, h0, _, _, _, _, _, _ => simp at h0
  · rw [if_neg h1] at h; simp at h

end Go.Proofs.Ytmlcjdfnoipihaa
