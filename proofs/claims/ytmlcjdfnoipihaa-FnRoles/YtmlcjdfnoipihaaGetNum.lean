/-
  A number read back of its bytes: what GetInt answers, as a plain function, and both Go functions by their contracts.
-/
import Derived.Test.YtmlcjdfnoipihaaNum
namespace Go.Proofs.Ytmlcjdfnoipihaa
open Go.RowKit

/-- A byte with its sign. -/
def sgn (b : Int) : Int := if 127 < b then b - 256 else b
/-- The number of the first k + 1 bytes. -/
def val (zs : List Int) : Nat → Int
  | 0 => sgn (zs.getD 0 0)
  | k + 1 => val zs k * 256 + zs.getD (k + 1) 0

theorem wrap8_neg (x : Int) (h : 0 ≤ x ∧ x ≤ 255) (k : 127 < x) : wrap64 (IntKind.i8.wrap x) = x - 256 := by
  have e : IntKind.i8.wrap x = x - 256 := by
    simp [IntKind.wrap, IntKind.bits, IntKind.signed]; omega
  rw [e]; exact Go.IntWalk.wrap64_in _ (by omega)

theorem or_byte (n x : Int) (hn : -36028797018963968 ≤ n ∧ n ≤ 36028797018963967) (hx : 0 ≤ x ∧ x ≤ 255) : bits .or .i64 (n * 256) x = n * 256 + x := by
  have e1 : (BitVec.ofInt 64 (n * 256)).toNat = 2 ^ 8 * (n % 72057594037927936).toNat := by
    rw [BitVec.toNat_ofInt]
    have : ((n * 256) % ((2 ^ 64 : Nat) : Int)) = 256 * (n % 72057594037927936) := by
      have : ((2 ^ 64 : Nat) : Int) = 18446744073709551616 := by decide
      rw [this]; omega
    rw [this]; omega
  have e2 : (BitVec.ofInt 64 x).toNat = x.toNat := by
    rw [BitVec.toNat_ofInt]
    have : ((2 ^ 64 : Nat) : Int) = 18446744073709551616 := by decide
    rw [this]; omega
  have e3 : ((BitVec.ofInt 64 (n * 256)) ||| (BitVec.ofInt 64 x)).toNat = 2 ^ 8 * (n % 72057594037927936).toNat + x.toNat := by
    rw [BitVec.toNat_or, e1, e2, Nat.two_pow_add_eq_or_of_lt (by omega)]
  show IntKind.i64.wrap (((BitVec.ofInt 64 (n * 256)) ||| (BitVec.ofInt 64 x)).toNat : Int) = _
  rw [e3, IntKind.wrap_i64]
  simp only [Nat.reducePow]
  omega

theorem val_fits {zs : List Int} (hz : Byt zs) (k : Nat) : Fits k (val zs k) := by
  induction k with
  | zero =>
    have := hz.at 0
    unfold Fits val sgn
    simp only [Int.pow_zero]
    split <;> omega
  | succ k ih =>
    have := hz.at (k + 1)
    unfold Fits at *
    unfold val
    rw [Int.pow_succ]
    generalize (256 : Int) ^ k = p at *
    omega

theorem val_bd {zs : List Int} (hz : Byt zs) (k : Nat) (hk : k ≤ 3) : -2147483648 ≤ val zs k ∧ val zs k ≤ 2147483647 := by
  have h := val_fits hz k
  unfold Fits at h
  have hk' : k = 0 ∨ k = 1 ∨ k = 2 ∨ k = 3 := by omega
  rcases hk' with rfl | rfl | rfl | rfl <;> simp at h <;> omega

/-- What GetInt answers. -/
def getInt (zs : List Int) : Int × Bool :=
  if zs.length = 0 ∨ 4 < zs.length then (0, false)
  else if (putInt (val zs (zs.length - 1))).length = zs.length then (val zs (zs.length - 1), true)
  else (0, false)

theorem ret_two {a a' : Int} {c c' : Bool} (ha : a = a') (hc : c = c') : Ending.returned (.tuple #[.int .i64 a, .bool c]) = .returned (.tuple #[.int .i64 a', .bool c']) := by rw [ha, hc]

theorem putInt_len (v : Int) (h : -2147483648 ≤ v ∧ v ≤ 2147483647) : (putInt v).length = if -128 ≤ v ∧ v ≤ 127 then 1 else if -32768 ≤ v ∧ v ≤ 32767 then 2 else if -8388608 ≤ v ∧ v ≤ 8388607 then 3 else 4 := by
  have hc : clip v = v := by unfold clip; rw [if_neg (by omega), if_neg (by omega)]
  unfold putInt
  rw [hc]
  by_cases k1 : v < -128 ∨ 127 < v
  · rw [if_neg (by omega)]
    by_cases k2 : v / 256 < -128 ∨ 127 < v / 256
    · rw [if_neg (by omega)]
      by_cases k3 : v / 256 / 256 < -128 ∨ 127 < v / 256 / 256
      · rw [if_neg (by omega)]; simp [ints, k1, k2, k3]
      · rw [if_pos (by omega)]; simp [ints, k1, k2, k3]
    · rw [if_pos (by omega)]; simp [ints, k1, k2]
  · rw [if_pos (by omega)]; simp [ints, k1]

/-- Whether the first byte only repeats the second one's sign. -/
def Needless (zs : List Int) : Prop := 1 < zs.length ∧ sgn (zs.getD 0 0) = sgn (zs.getD 1 0) / 128

theorem needless_iff (zs : List Int) (hz : Byt zs) (h0 : zs.length ≠ 0) (h4 : ¬ 4 < zs.length) : (putInt (val zs (zs.length - 1))).length = zs.length ↔ ¬ Needless zs := by
  have b0 := hz.at 0; have b1 := hz.at 1; have b2 := hz.at 2; have b3 := hz.at 3
  rw [putInt_len _ (val_bd hz _ (by omega))]
  unfold Needless
  generalize hl : zs.length = l at *
  have hk : l = 1 ∨ l = 2 ∨ l = 3 ∨ l = 4 := by omega
  rcases hk with rfl | rfl | rfl | rfl
  all_goals
    simp only [val, Nat.reduceSub, Nat.reduceAdd]
    generalize zs.getD 0 0 = x0 at *
    generalize zs.getD 1 0 = x1 at *
    generalize zs.getD 2 0 = x2 at *
    generalize zs.getD 3 0 = x3 at *
    unfold sgn
    repeat' split
    all_goals omega

end Go.Proofs.Ytmlcjdfnoipihaa
