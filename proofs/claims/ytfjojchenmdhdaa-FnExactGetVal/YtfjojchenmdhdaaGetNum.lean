/-
  A number read back of its bytes: what GetInt answers, as a plain function, and both Go functions by their contracts.
-/
import Derived.Test.YtfjojchenmdhdaaNum
namespace Go.Proofs.Ytfjojchenmdhdaa
open Go.RowKit

/-- A byte with its sign. -/
def sgn (b : Int) : Int := if 127 < b then b - 256 else b
/-- The number of the first k + 1 bytes. -/
def val (zs : List Int) : Nat → Int
  | 0 => sgn (zs.getD 0 0)
  | k + 1 => val zs k * 256 + zs.getD (k + 1) 0

theorem wrap8_neg (x : Int) (h : 0 ≤ x ∧ x ≤ 255) (k : 127 < x) : wrap64 (IntKind.i8.wrap x) = x - 256 := by
  have e : IntKind.i8.wrap x = x - 256 := by
    simp [IntKind.wrap, IntKind.bits, IntKind.signed]; omega
  rw [e]; exact Go.IntWalk.wrap64_in _ (by omega)

theorem signed_any (x : Int) (w : World) (h : 0 ≤ x ∧ x ≤ 255) : Calls Try.prog 80 #[.int .u8 x] w fun e w' => e = .returned (.int .i64 (sgn x)) ∧ w' = w := by
  by_cases k : 127 < x
  · go_enter Try.func80, Try.ntmps80
    go_wp2
    go_ret
    exact ⟨ret_int (by rw [wrap8_neg x h k]; simp [sgn, k]), rfl⟩
  · go_enter Try.func80, Try.ntmps80
    go_wp2
    go_ret
    exact ⟨ret_int (by unfold sgn; rw [if_neg (by omega)]), rfl⟩

theorem or_byte (n x : Int) (hn : -36028797018963968 ≤ n ∧ n ≤ 36028797018963967) (hx : 0 ≤ x ∧ x ≤ 255) : bits .or .i64 (n * 256) x = n * 256 + x := by
  have e1 : (BitVec.ofInt 64 (n * 256)).toNat = 2 ^ 8 * (n % 72057594037927936).toNat := by
    rw [BitVec.toNat_ofInt]
    have : ((n * 256) % ((2 ^ 64 : Nat) : Int)) = 256 * (n % 72057594037927936) := by
      have : ((2 ^ 64 : Nat) : Int) = 18446744073709551616 := by decide
      rw [this]; omega
    rw [this]; omega
  have e2 : (BitVec.ofInt 64 x).toNat = x.toNat := by
    rw [BitVec.toNat_ofInt]
    have : ((2 ^ 64 : Nat) : Int) = 18446744073709551616 := by decide
    rw [this]; omega
  have e3 : ((BitVec.ofInt 64 (n * 256)) ||| (BitVec.ofInt 64 x)).toNat = 2 ^ 8 * (n % 72057594037927936).toNat + x.toNat := by
    rw [BitVec.toNat_or, e1, e2, Nat.two_pow_add_eq_or_of_lt (by omega)]
  show IntKind.i64.wrap (((BitVec.ofInt 64 (n * 256)) ||| (BitVec.ofInt 64 x)).toNat : Int) = _
  rw [e3, IntKind.wrap_i64]
  simp only [Nat.reducePow]
  omega

theorem val_fits {zs : List Int} (hz : Byt zs) (k : Nat) : Fits k (val zs k) := by
  induction k with
  | zero =>
    have := hz.at 0
    unfold Fits val sgn
    simp only [Int.pow_zero]
    split <;> omega
  | succ k ih =>
    have := hz.at (k + 1)
    unfold Fits at *
    unfold val
    rw [Int.pow_succ]
    generalize (256 : Int) ^ k = p at *
    omega

theorem val_bd {zs : List Int} (hz : Byt zs) (k : Nat) (hk : k ≤ 3) : -2147483648 ≤ val zs k ∧ val zs k ≤ 2147483647 := by
  have h := val_fits hz k
  unfold Fits at h
  have hk' : k = 0 ∨ k = 1 ∨ k = 2 ∨ k = 3 := by omega
  rcases hk' with rfl | rfl | rfl | rfl <;> simp at h <;> omega

/-- What GetInt answers. -/
def getInt (zs : List Int) : Int × Bool :=
  if zs.length = 0 ∨ 4 < zs.length then (0, false)
  else if (putInt (val zs (zs.length - 1))).length = zs.length then (val zs (zs.length - 1), true)
  else (0, false)

theorem ret_two {a a' : Int} {c c' : Bool} (ha : a = a') (hc : c = c') : Ending.returned (.tuple #[.int .i64 a, .bool c]) = .returned (.tuple #[.int .i64 a', .bool c']) := by rw [ha, hc]

set_option maxRecDepth 100000 in
set_option maxHeartbeats 400000 in
theorem specGetInt_any (a1 : Option Addr) (l1 c1 : Nat) (z1 : List Int) (w : World) (h1 : Row w a1 l1 c1 z1) (hs : l1 ≤ 16777216) :
    Calls Try.prog 44 #[.slice a1 l1 c1] w fun e w' => e = .returned (.tuple #[.int .i64 (getInt z1).1, .bool (getInt z1).2]) ∧ Below w.heap.size w w' := by
  have s1 := h1.size
  by_cases k0 : l1 = 0
  · have e : getInt z1 = (0, false) := by unfold getInt; rw [if_pos (.inl (by omega))]
    rw [e]; clear e
    subst k0
    go_enter Try.func44, Try.ntmps44
    go_wp2
    go_ret2
    exact ⟨rfl, Below.refl _ _⟩
  by_cases k1 : 4 < l1
  · have e : getInt z1 = (0, false) := by unfold getInt; rw [if_pos (.inr (by omega))]
    rw [e]; clear e
    have i1 : (1 : Int) ≤ l1 := by omega
    have i2 : ¬ (l1 : Int) ≤ 4 := by omega
    go_enter Try.func44, Try.ntmps44
    go_wp2
    go_ret2
    exact ⟨rfl, Below.refl _ _⟩
  have hby := h1.byte
  obtain ⟨b, off, rfl, hc⟩ := h1.at (by omega)
  have HC := hide hc
  have i1 : (1 : Int) ≤ l1 := by omega
  have i2 : (l1 : Int) ≤ 4 := by omega
  have c0 := hc 0 (by omega)
  rw [Nat.add_zero] at c0
  have b0 := hby.at 0
  have v0 : val z1 0 = sgn (z1.getD 0 0) := rfl
  unfold sgn at v0
  generalize z1.getD 0 0 = x0 at *
  have V0 := hide v0
  clear v0 hc h1
  by_cases hx : 127 < x0
  all_goals
    go_enter Try.func44, Try.ntmps44
    go_wp2
    go_loop [4, 5] (fun m i => ∃ k : Nat, k + 1 ≤ l1 ∧ i = .int .i64 ((k + 1 : Nat) : Int) ∧ m = .int .i64 (val z1 k)) (fun _ i => 5 - (intOf i).toNat)
    case atStart => exact ⟨0, by omega, rfl, by rw [V0.out]; simp; omega⟩
    case round =>
      obtain ⟨k, hk, rfl, rfl⟩ := hrel
      have hv := val_bd hby k (by omega)
      by_cases hlt : k + 1 < l1
      · have cx := HC.out (k + 1) hlt
        have bx := hby.at (k + 1)
        have e : val z1 (k + 1) = val z1 k * 256 + z1.getD (k + 1) 0 := rfl
        have ho := or_byte (val z1 k) (z1.getD (k + 1) 0) (by omega) bx
        rw [← e] at ho
        have i3 : ((k + 1 : Nat) : Int) < l1 := by omega
        have HO := hide ho
        clear ho e
        generalize z1.getD (k + 1) 0 = y at *
        generalize val z1 k = v at *
        go_wp2
        go_round
        case rel => exact ⟨k + 1, by omega, by go_num, by rw [HO.out]⟩
        case measure => simp [intOf]; omega
      · have hk' : k = z1.length - 1 := by omega
        have e : getInt z1 = (if (putInt (val z1 k)).length = l1 then (val z1 k, true) else (0, false)) := by unfold getInt; rw [if_neg (by omega), ← hk', s1]
        generalize val z1 k = v at *
        have hpl := putInt_length v
        obtain ⟨P, hP⟩ : ∃ P, putInt v = P := ⟨_, rfl⟩
        rw [hP] at hpl e
        have HP := hide hP
        have HE := hide e
        clear hP e
        have i3 : ¬ ((k + 1 : Nat) : Int) < l1 := by omega
        go_wp2_with fail
        refine (specInt_made v P HP.out _).mono ?_
        rintro e w1 ⟨ao1, cp1, rfl, -, -, hb1⟩
        by_cases hq : P.length = l1
        · have hne : ((P.length : Int) != (l1 : Int)) = false := by simp; omega
          have HQ := hide hq
          clear hq
          go_wp2
          go_ret2
          exact ⟨ret_two (by rw [HE.out, if_pos HQ.out]) (by rw [HE.out, if_pos HQ.out]), hb1⟩
        · have hne : ((P.length : Int) != (l1 : Int)) = true := by simp; omega
          go_wp2
          go_ret2
          exact ⟨ret_two (by rw [HE.out, if_neg hq]) (by rw [HE.out, if_neg hq]), hb1⟩

theorem putInt_len (v : Int) (h : -2147483648 ≤ v ∧ v ≤ 2147483647) : (putInt v).length = if -128 ≤ v ∧ v ≤ 127 then 1 else if -32768 ≤ v ∧ v ≤ 32767 then 2 else if -8388608 ≤ v ∧ v ≤ 8388607 then 3 else 4 := by
  have hc : clip v = v := by unfold clip; rw [if_neg (by omega), if_neg (by omega)]
  unfold putInt
  rw [hc]
  by_cases k1 : v < -128 ∨ 127 < v
  · rw [if_neg (by omega)]
    by_cases k2 : v / 256 < -128 ∨ 127 < v / 256
    · rw [if_neg (by omega)]
      by_cases k3 : v / 256 / 256 < -128 ∨ 127 < v / 256 / 256
      · rw [if_neg (by omega)]; simp [ints, k1, k2, k3]
      · rw [if_pos (by omega)]; simp [ints, k1, k2, k3]
    · rw [if_pos (by omega)]; simp [ints, k1, k2]
  · rw [if_pos (by omega)]; simp [ints, k1]

/-- Whether the first byte only repeats the second one's sign. -/
def Needless (zs : List Int) : Prop := 1 < zs.length ∧ sgn (zs.getD 0 0) = sgn (zs.getD 1 0) / 128

theorem needless_iff (zs : List Int) (hz : Byt zs) (h0 : zs.length ≠ 0) (h4 : ¬ 4 < zs.length) : (putInt (val zs (zs.length - 1))).length = zs.length ↔ ¬ Needless zs := by
  have b0 := hz.at 0; have b1 := hz.at 1; have b2 := hz.at 2; have b3 := hz.at 3
  rw [putInt_len _ (val_bd hz _ (by omega))]
  unfold Needless
  generalize hl : zs.length = l at *
  have hk : l = 1 ∨ l = 2 ∨ l = 3 ∨ l = 4 := by omega
  rcases hk with rfl | rfl | rfl | rfl
  all_goals
    simp only [val, Nat.reduceSub, Nat.reduceAdd]
    generalize zs.getD 0 0 = x0 at *
    generalize zs.getD 1 0 = x1 at *
    generalize zs.getD 2 0 = x2 at *
    generalize zs.getD 3 0 = x3 at *
    unfold sgn
    repeat' split
    all_goals omega

set_option maxRecDepth 100000 in
set_option maxHeartbeats 400000 in
theorem implGetInt_any (a1 : Option Addr) (l1 c1 : Nat) (z1 : List Int) (w : World) (h1 : Row w a1 l1 c1 z1) (hs : l1 ≤ 16777216) :
    Calls Try.prog 73 #[.slice a1 l1 c1] w fun e w' => e = .returned (.tuple #[.int .i64 (getInt z1).1, .bool (getInt z1).2]) ∧ w' = w := by
  have s1 := h1.size
  by_cases k0 : l1 = 0
  · have e : getInt z1 = (0, false) := by unfold getInt; rw [if_pos (.inl (by omega))]
    rw [e]; clear e
    subst k0
    go_enter Try.func73, Try.ntmps73
    go_wp2
    go_ret2
    exact ⟨rfl, rfl⟩
  by_cases k1 : 4 < l1
  · have e : getInt z1 = (0, false) := by unfold getInt; rw [if_pos (.inr (by omega))]
    rw [e]; clear e
    have i1 : ((l1 : Int) == 0) = false := by simp; omega
    have i2 : (4 : Int) < l1 := by omega
    go_enter Try.func73, Try.ntmps73
    go_wp2
    go_ret2
    exact ⟨rfl, rfl⟩
  have hby := h1.byte
  have hle := h1.le
  have hiff := needless_iff z1 hby (by omega) (by omega)
  rw [s1] at hiff
  have eN : Needless z1 → getInt z1 = (0, false) := fun hn => by unfold getInt; rw [if_neg (by omega), s1, if_neg (fun h => hiff.1 h hn)]
  have eY : ¬ Needless z1 → getInt z1 = (val z1 (l1 - 1), true) := fun hn => by unfold getInt; rw [if_neg (by omega), s1, if_pos (hiff.2 hn)]
  have EN := hide eN
  have EY := hide eY
  clear eN eY hiff
  obtain ⟨b, off, rfl, hc⟩ := h1.at (by omega)
  have HC := hide hc
  have i1 : ((l1 : Int) == 0) = false := by simp; omega
  have i2 : ¬ (4 : Int) < l1 := by omega
  have c0 := hc 0 (by omega)
  rw [Nat.add_zero] at c0
  have b0 := hby.at 0
  have b1 := hby.at 1
  have v0 : val z1 0 = sgn (z1.getD 0 0) := rfl
  have V0 := hide v0
  clear v0 hc h1
  by_cases k2 : 1 < l1
  · have c1' := HC.out 1 k2
    have i3 : (1 : Int) < l1 := by omega
    have i4 : (1 : Int) ≤ l1 := by omega
    have hcc : ¬ c1 = 1 := by omega
    by_cases hn : sgn (z1.getD 0 0) = sgn (z1.getD 1 0) / 128
    · have HN := hide (EN.out ⟨by omega, hn⟩)
      have hb : (sgn (z1.getD 0 0) == sgn (z1.getD 1 0) / 128) = true := by simpa using hn
      clear EN EY hn V0
      generalize z1.getD 0 0 = x0 at *
      generalize z1.getD 1 0 = x1 at *
      go_enter Try.func73, Try.ntmps73
      go_wp2_with (go_at_call 80; refine (signed_any _ _ (by omega)).mono ?_; rintro e w' ⟨rfl, rfl⟩)
      go_ret2
      exact ⟨ret_two (by rw [HN.out]) (by rw [HN.out]), rfl⟩
    · have HN := hide (EY.out (fun h => hn h.2))
      have hb : (sgn (z1.getD 0 0) == sgn (z1.getD 1 0) / 128) = false := by simpa using hn
      clear EN EY hn
      generalize z1.getD 0 0 = x0 at *
      generalize z1.getD 1 0 = x1 at *
      go_enter Try.func73, Try.ntmps73
      go_wp2_with (go_at_call 80; refine (signed_any _ _ (by omega)).mono ?_; rintro e w' ⟨rfl, rfl⟩)
      go_loop [4, 34] (fun m i => ∃ k : Nat, k ≤ l1 - 1 ∧ i = .int .i64 k ∧ m = .int .i64 (val z1 k)) (fun _ i => 5 - (intOf i).toNat)
      case atStart => exact ⟨0, by omega, rfl, by rw [V0.out]⟩
      case round =>
        obtain ⟨k, hk, rfl, rfl⟩ := hrel
        have hv := val_bd hby k (by omega)
        by_cases hlt : k < l1 - 1
        · have cx := HC.out (k + 1) (by omega)
          rw [show off + (k + 1) = off + 1 + k from by omega] at cx
          have bx := hby.at (k + 1)
          have e : val z1 (k + 1) = val z1 k * 256 + z1.getD (k + 1) 0 := rfl
          have ho := or_byte (val z1 k) (z1.getD (k + 1) 0) (by omega) bx
          rw [← e] at ho
          have HO := hide ho
          clear ho e
          generalize z1.getD (k + 1) 0 = y at *
          generalize val z1 k = v at *
          go_wp2
          go_round
          case rel => exact ⟨k + 1, by omega, by go_num, by rw [HO.out]⟩
          case measure => simp [intOf]; omega
        · have hk' : k = l1 - 1 := by omega
          subst hk'
          go_wp2
          go_ret2
          exact ⟨ret_two (by rw [HN.out]) (by rw [HN.out]), rfl⟩
  · obtain rfl : l1 = 1 := by omega
    have HN := hide (EY.out (fun h => by have := h.1; omega))
    clear EN EY
    generalize z1.getD 0 0 = x0 at *
    by_cases hcc : c1 = 1
    all_goals
      go_enter Try.func73, Try.ntmps73
      go_wp2_with (go_at_call 80; refine (signed_any _ _ (by omega)).mono ?_; rintro e w' ⟨rfl, rfl⟩)
      go_loop [4, 34] (fun m i => i = .int .i64 0 ∧ m = .int .i64 (val z1 0)) (fun _ _ => 0)
      case atStart => exact ⟨rfl, by rw [V0.out]⟩
      case round =>
        obtain ⟨rfl, rfl⟩ := hrel
        go_wp2
        go_ret2
        exact ⟨ret_two (by rw [HN.out]) (by rw [HN.out]), rfl⟩

end Go.Proofs.Ytfjojchenmdhdaa
