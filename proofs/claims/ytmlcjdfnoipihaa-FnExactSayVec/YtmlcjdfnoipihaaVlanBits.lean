/-
  Bits of ports: what is not among the lowest ones, what one number has that another has not, one bit asked for in two ways.
-/
import Derived.Test.YtmlcjdfnoipihaaVtabMath
namespace Go.Proofs.Ytmlcjdfnoipihaa
open Go.RowKit

def I64 (x : Int) : Prop := -9223372036854775808 ≤ x ∧ x ≤ 9223372036854775807

/-- A row whose numbers are ints. -/
def VR.Rng (r : VR) : Prop := I64 r.i ∧ I64 r.m ∧ I64 r.b

theorem bv_of (x : Int) : (BitVec.ofInt 64 x).toNat = (x % 18446744073709551616).toNat := by
  rw [BitVec.toNat_ofInt]
  rfl

theorem wrap_bv (x : BitVec 64) : IntKind.i64.wrap (x.toNat : Int) = x.toInt := by
  have := x.isLt
  rw [IntKind.wrap_i64, BitVec.toInt_eq_toNat_cond]
  split <;> omega

theorem bits_and (a b : Int) : bits .and .i64 a b = (BitVec.ofInt 64 a &&& BitVec.ofInt 64 b).toInt := by
  rw [← wrap_bv]
  rfl
theorem bits_andNot (a b : Int) : bits .andNot .i64 a b = (BitVec.ofInt 64 a &&& ~~~(BitVec.ofInt 64 b)).toInt := by
  rw [← wrap_bv]
  rfl

theorem toInt_zero {x : BitVec 64} : x.toInt = 0 ↔ x = 0#64 := by
  rw [← BitVec.toInt_inj]
  simp

theorem toInt_of (x : Int) (h : I64 x) : (BitVec.ofInt 64 x).toInt = x := by
  unfold I64 at h
  rw [BitVec.toInt_ofInt]
  rw [Int.bmod_def]
  omega

/-- What one number has and the other has not is nothing just if all of it is in the other. -/
theorem andNot_and (b m : Int) (hb : I64 b) : (bits .andNot .i64 b m == 0) = (bits .and .i64 b m == b) := by
  rw [bits_and, bits_andNot]
  have key : (BitVec.ofInt 64 b &&& ~~~(BitVec.ofInt 64 m)) = 0#64 ↔ (BitVec.ofInt 64 b &&& BitVec.ofInt 64 m) = BitVec.ofInt 64 b := by
    constructor
    · intro h
      apply BitVec.eq_of_getLsbD_eq
      intro i hi
      have := congrArg (fun z => z.getLsbD i) h
      simp only [BitVec.getLsbD_and, BitVec.getLsbD_not, hi, decide_true, Bool.true_and, BitVec.getLsbD_zero] at this
      simp only [BitVec.getLsbD_and]
      cases h1 : (BitVec.ofInt 64 b).getLsbD i <;> cases h2 : (BitVec.ofInt 64 m).getLsbD i <;> simp_all
    · intro h
      apply BitVec.eq_of_getLsbD_eq
      intro i hi
      have := congrArg (fun z => z.getLsbD i) h
      simp only [BitVec.getLsbD_and] at this
      simp only [BitVec.getLsbD_and, BitVec.getLsbD_not, hi, decide_true, Bool.true_and, BitVec.getLsbD_zero]
      cases h1 : (BitVec.ofInt 64 b).getLsbD i <;> cases h2 : (BitVec.ofInt 64 m).getLsbD i <;> simp_all
  have e2 : ((BitVec.ofInt 64 b &&& BitVec.ofInt 64 m).toInt = b) ↔ (BitVec.ofInt 64 b &&& BitVec.ofInt 64 m) = BitVec.ofInt 64 b := by
    constructor
    · intro h
      apply BitVec.toInt_inj.1
      rw [h, toInt_of b hb]
    · intro h
      rw [h, toInt_of b hb]
  have e1 := toInt_zero (x := BitVec.ofInt 64 b &&& ~~~(BitVec.ofInt 64 m))
  rw [Bool.eq_iff_iff]
  simp only [beq_iff_eq]
  rw [e1, key, e2]

theorem mask_is (p : Nat) (hp : p ≤ 6) : (BitVec.ofInt 64 (allOf p)).toNat = 2 ^ p - 1 := by
  rcases (show p = 0 ∨ p = 1 ∨ p = 2 ∨ p = 3 ∨ p = 4 ∨ p = 5 ∨ p = 6 by omega) with rfl | rfl | rfl | rfl | rfl | rfl | rfl <;> rfl

theorem pow_le6 (p : Nat) (hp : p ≤ 6) : (2 : Nat) ^ p ≤ 64 ∧ ((2 : Int) ^ p = ((2 ^ p : Nat) : Int)) ∧ 1 ≤ (2 : Nat) ^ p := by
  rcases (show p = 0 ∨ p = 1 ∨ p = 2 ∨ p = 3 ∨ p = 4 ∨ p = 5 ∨ p = 6 by omega) with rfl | rfl | rfl | rfl | rfl | rfl | rfl <;> exact ⟨by decide, rfl, by decide⟩

/-- A number has no bits but the lowest just if it is one of the least. -/
theorem andNot_mask (m : Int) (p : Nat) (hm : I64 m) (hp : p ≤ 6) : (bits .andNot .i64 m (allOf p) == 0) = in3 m 0 (allOf p) := by
  rw [andNot_and m _ hm, bits_and]
  have hn : (BitVec.ofInt 64 m &&& BitVec.ofInt 64 (allOf p)).toNat = (BitVec.ofInt 64 m).toNat % 2 ^ p := by
    rw [BitVec.toNat_and, mask_is p hp, Nat.and_two_pow_sub_one_eq_mod]
  have e2 : ((BitVec.ofInt 64 m &&& BitVec.ofInt 64 (allOf p)).toInt = m) ↔ (BitVec.ofInt 64 m &&& BitVec.ofInt 64 (allOf p)).toNat = (BitVec.ofInt 64 m).toNat := by
    constructor
    · intro h
      have : (BitVec.ofInt 64 m &&& BitVec.ofInt 64 (allOf p)) = BitVec.ofInt 64 m := by
        apply BitVec.toInt_inj.1
        rw [h, toInt_of m hm]
      rw [this]
    · intro h
      rw [BitVec.eq_of_toNat_eq h, toInt_of m hm]
  rw [Bool.eq_iff_iff]
  simp only [beq_iff_eq]
  rw [e2, hn, bv_of m]
  obtain ⟨h64, hc, h1⟩ := pow_le6 p hp
  unfold in3 allOf
  rw [hc]
  unfold I64 at hm
  generalize (2 : Nat) ^ p = q at *
  simp only [Bool.and_eq_true, decide_eq_true_eq]
  constructor
  · intro h
    have : (m % 18446744073709551616).toNat % q < q := Nat.mod_lt _ (by omega)
    omega
  · intro h
    rw [Nat.mod_eq_of_lt (by omega)]

/-- What is in a number that is one of the least is one of the least. -/
theorem and_small (b m : Int) (p : Nat) (hb : I64 b) (hp : p ≤ 6) (hm : in3 m 0 (allOf p) = true) (h : (bits .and .i64 b m == b) = true) : in3 b 0 (allOf p) = true := by
  obtain ⟨h64, hc, h1⟩ := pow_le6 p hp
  unfold in3 allOf at hm ⊢
  rw [hc] at hm ⊢
  generalize (2 : Nat) ^ p = q at *
  simp only [Bool.and_eq_true, decide_eq_true_eq, beq_iff_eq] at *
  have hmI : I64 m := by unfold I64; omega
  rw [bits_and] at h
  have e : (BitVec.ofInt 64 b &&& BitVec.ofInt 64 m) = BitVec.ofInt 64 b := by
    apply BitVec.toInt_inj.1
    rw [h, toInt_of b hb]
  have e' := congrArg BitVec.toNat e
  rw [BitVec.toNat_and, bv_of b, bv_of m] at e'
  have : (b % 18446744073709551616).toNat &&& (m % 18446744073709551616).toNat ≤ (m % 18446744073709551616).toNat := Nat.and_le_right
  unfold I64 at hb
  omega

/-- The program's test of a row is the specification's. -/
theorem vrow_same (r : VR) (p : Nat) (hr : r.Rng) (hp : p ≤ 6) : (in3 r.i 1 99 && (bits .andNot .i64 r.m (allOf p) == 0) && (bits .andNot .i64 r.b r.m == 0)) = vrowOk (allOf p) r := by
  rw [andNot_mask r.m p hr.2.1 hp, andNot_and r.b r.m hr.2.2]
  unfold vrowOk
  cases h1 : in3 r.i 1 99
  · rfl
  · cases h2 : in3 r.m 0 (allOf p)
    · rfl
    · cases h3 : (bits .and .i64 r.b r.m == r.b)
      · simp
      · rw [and_small r.b r.m p hr.2.2 hp h2 h3]
        rfl

theorem and_pow (n k : Nat) : n &&& 2 ^ k = (n.testBit k).toNat * 2 ^ k := by
  apply Nat.eq_of_testBit_eq
  intro j
  rw [Nat.testBit_and, Nat.testBit_two_pow]
  by_cases h : k = j
  · subst h
    cases n.testBit k
    · simp
    · simp
  · cases n.testBit k
    · simp [h]
    · simp [h]

/-- A bit is there, asked for by a number that has it alone, or by shifting. -/
theorem bit_same (n : Int) (k : Nat) (hk : k ≤ 9) (hn : I64 n) : (bits .and .i64 n (2 ^ k) != 0) = (bits .and .i64 (n / 2 ^ k) 1 == 1) := by
  have h1 : I64 (n / 2 ^ k) := by
    unfold I64 at *
    rcases (show k = 0 ∨ k = 1 ∨ k = 2 ∨ k = 3 ∨ k = 4 ∨ k = 5 ∨ k = 6 ∨ k = 7 ∨ k = 8 ∨ k = 9 by omega) with rfl | rfl | rfl | rfl | rfl | rfl | rfl | rfl | rfl | rfl <;> simp <;> omega
  rw [bits_and, bits_and, bne, Bool.eq_iff_iff]
  simp only [Bool.not_eq_true', beq_eq_false_iff_ne, ne_eq, beq_iff_eq]
  rw [toInt_zero]
  have a1 : (BitVec.ofInt 64 (n / 2 ^ k) &&& BitVec.ofInt 64 1).toNat = (((n / 2 ^ k) % 18446744073709551616).toNat) % 2 := by
    rw [BitVec.toNat_and, bv_of _, show (BitVec.ofInt 64 1).toNat = 2 ^ 1 - 1 from rfl, Nat.and_two_pow_sub_one_eq_mod]
  have a2 : (BitVec.ofInt 64 n &&& BitVec.ofInt 64 (2 ^ k)).toNat = ((n % 18446744073709551616).toNat.testBit k).toNat * 2 ^ k := by
    rw [BitVec.toNat_and, bv_of _, ← and_pow]
    congr 1
    rcases (show k = 0 ∨ k = 1 ∨ k = 2 ∨ k = 3 ∨ k = 4 ∨ k = 5 ∨ k = 6 ∨ k = 7 ∨ k = 8 ∨ k = 9 by omega) with rfl | rfl | rfl | rfl | rfl | rfl | rfl | rfl | rfl | rfl <;> rfl
  have a3 : ((BitVec.ofInt 64 (n / 2 ^ k) &&& BitVec.ofInt 64 1).toInt = 1) ↔ (((n / 2 ^ k) % 18446744073709551616).toNat) % 2 = 1 := by
    rw [← a1, BitVec.toInt_eq_toNat_cond]
    have := (BitVec.ofInt 64 (n / 2 ^ k) &&& BitVec.ofInt 64 1).isLt
    have h2 : (BitVec.ofInt 64 (n / 2 ^ k) &&& BitVec.ofInt 64 1).toNat < 2 := by rw [a1]; omega
    rw [if_pos (by omega)]
    omega
  have a4 : ((BitVec.ofInt 64 n &&& BitVec.ofInt 64 (2 ^ k)) = 0#64) ↔ (n % 18446744073709551616).toNat.testBit k = false := by
    rw [← BitVec.toNat_inj, a2]
    have : 0 < 2 ^ k := Nat.two_pow_pos k
    cases (n % 18446744073709551616).toNat.testBit k
    · simp
    · simp
  rw [a3, a4, Bool.not_eq_false, Nat.testBit_eq_decide_div_mod_eq, decide_eq_true_eq]
  unfold I64 at hn
  rcases (show k = 0 ∨ k = 1 ∨ k = 2 ∨ k = 3 ∨ k = 4 ∨ k = 5 ∨ k = 6 ∨ k = 7 ∨ k = 8 ∨ k = 9 by omega) with rfl | rfl | rfl | rfl | rfl | rfl | rfl | rfl | rfl | rfl <;> simp <;> omega

end Go.Proofs.Ytmlcjdfnoipihaa
