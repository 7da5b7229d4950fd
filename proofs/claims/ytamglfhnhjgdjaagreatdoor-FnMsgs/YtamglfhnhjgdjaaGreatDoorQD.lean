/-
  Both GetTlv by their contracts, their values written out.
  A number read back of its bytes: what GetInt answers, as a plain function, and both Go functions by their contracts.
  A number comes back of its bytes; what is read has these bytes.
  Parts of bytes, as plain functions: what is put comes back, cut it does not; what is read has these bytes.
  sameBytes by its contract: whether two slices hold the same bytes.
  What is not too great to be drawn of; the head of a slice of bytes.
  Parts among bytes: what is put is found, what is found lies there; a part of a kind, a number.
-/
import Derived.Test.YtamglfhnhjgdjaaGreatDoorSpecGetc
import Derived.Test.YtamglfhnhjgdjaaGreatDoorNum
import Derived.Test.YtamglfhnhjgdjaaGreatDoorSpecGet
import Derived.Test.YtamglfhnhjgdjaaGreatDoorQA
namespace Go.Proofs.YtamglfhnhjgdjaaGreatDoor
open Go.RowKit

theorem getTlv_byte (z : List Int) (t : Int) (hz : Byt z) : Byt (getTlv z t).2.1 := by
  unfold getTlv
  split
  · exact byte_nil
  · split
    · exact fun x hx => hz x (List.mem_of_mem_drop (List.mem_of_mem_take hx))
    · exact byte_nil
theorem getTlv_length (z : List Int) (t : Int) : (getTlv z t).2.1.length ≤ z.length := by
  unfold getTlv
  split
  · simp
  · split
    · simp; omega
    · simp

theorem madeT_of {w w' : World} {e : Ending} {r1 r3 : Int} {r4 : Bool} {P : List Int} (hP : Byt P) (h : ∃ ao n cap, e = .returned (.tuple #[.int .i64 r1, .slice ao n cap, .int .i64 r3, .bool r4]) ∧ w'.ownsRow w.heap.size 5 1 (.slice ao n cap) n (cB P) ∧ Below w.heap.size w w') :
    ∃ ao cap, e = .returned (.tuple #[.int .i64 r1, .slice ao P.length cap, .int .i64 r3, .bool r4]) ∧ w'.ownsRow w.heap.size 5 1 (.slice ao P.length cap) P.length (cB P) ∧ Row w' ao P.length cap P ∧ Below w.heap.size w w' := by
  obtain ⟨ao, n, cap, rfl, ho, hb⟩ := h
  have hn : P.length = n := by have := ho.1; simpa [cB] using this
  subst hn
  exact ⟨ao, cap, rfl, ho, row_own ho hP, hb⟩

theorem specGet_made (a1 : Option Addr) (l1 c1 : Nat) (z1 : List Int) (t : Int) (r1 r3 : Int) (r4 : Bool) (P : List Int) (hG : getTlv z1 t = (r1, P, r3, r4)) (w : World) (h1 : Row w a1 l1 c1 z1) (hs : l1 ≤ 3000000) :
    Calls Tryz.prog 33 #[.slice a1 l1 c1, .int .i64 t] w fun e w' => ∃ ao cap, e = .returned (.tuple #[.int .i64 r1, .slice ao P.length cap, .int .i64 r3, .bool r4]) ∧
      w'.ownsRow w.heap.size 5 1 (.slice ao P.length cap) P.length (cB P) ∧ Row w' ao P.length cap P ∧ Below w.heap.size w w' := by
  have hP : Byt P := by have := getTlv_byte z1 t h1.byte; rw [hG] at this; exact this
  have K := specGet_any a1 l1 c1 z1 t w h1 hs
  unfold SpecGet at K
  rw [hG] at K
  exact K.mono fun e w' h => madeT_of hP h

theorem implGet_made (a1 : Option Addr) (l1 c1 : Nat) (z1 : List Int) (t : Int) (r1 r3 : Int) (r4 : Bool) (P : List Int) (hG : getTlv z1 t = (r1, P, r3, r4)) (w : World) (h1 : Row w a1 l1 c1 z1) (hs : l1 ≤ 3000000) :
    Calls Tryz.prog 96 #[.slice a1 l1 c1, .int .i64 t] w fun e w' => ∃ ao cap, e = .returned (.tuple #[.int .i64 r1, .slice ao P.length cap, .int .i64 r3, .bool r4]) ∧
      w'.ownsRow w.heap.size 5 1 (.slice ao P.length cap) P.length (cB P) ∧ Row w' ao P.length cap P ∧ Below w.heap.size w w' := by
  have hP : Byt P := by have := getTlv_byte z1 t h1.byte; rw [hG] at this; exact this
  have K := implGet_any a1 l1 c1 z1 t w h1 hs
  rw [hG] at K
  exact K.mono fun e w' h => madeT_of hP h

/-- A byte with its sign. -/
def sgn (b : Int) : Int := if 127 < b then b - 256 else b
/-- The number of the first k + 1 bytes. -/
def val (zs : List Int) : Nat → Int
  | 0 => sgn (zs.getD 0 0)
  | k + 1 => val zs k * 256 + zs.getD (k + 1) 0

theorem wrap8_neg (x : Int) (h : 0 ≤ x ∧ x ≤ 255) (k : 127 < x) : wrap64 (IntKind.i8.wrap x) = x - 256 := by
  have e : IntKind.i8.wrap x = x - 256 := by
    simp [IntKind.wrap, IntKind.bits, IntKind.signed]; omega
  rw [e]; exact Go.IntWalk.wrap64_in _ (by omega)

theorem signed_any (x : Int) (w : World) (h : 0 ≤ x ∧ x ≤ 255) : Calls Tryz.prog 97 #[.int .u8 x] w fun e w' => e = .returned (.int .i64 (sgn x)) ∧ w' = w := by
  by_cases k : 127 < x
  · go_enter Tryz.func97, Tryz.ntmps97
    go_wp2
    go_ret
    exact ⟨ret_int (by rw [wrap8_neg x h k]; simp [sgn, k]), rfl⟩
  · go_enter Tryz.func97, Tryz.ntmps97
    go_wp2
    go_ret
    exact ⟨ret_int (by unfold sgn; rw [if_neg (by omega)]), rfl⟩

theorem or_byte (n x : Int) (hn : -36028797018963968 ≤ n ∧ n ≤ 36028797018963967) (hx : 0 ≤ x ∧ x ≤ 255) : bits .or .i64 (n * 256) x = n * 256 + x := by
  have e1 : (BitVec.ofInt 64 (n * 256)).toNat = 2 ^ 8 * (n % 72057594037927936).toNat := by
    rw [BitVec.toNat_ofInt]
    have : ((n * 256) % ((2 ^ 64 : Nat) : Int)) = 256 * (n % 72057594037927936) := by
      have : ((2 ^ 64 : Nat) : Int) = 18446744073709551616 := by decide
      rw [this]; omega
    rw [this]; omega
  have e2 : (BitVec.ofInt 64 x).toNat = x.toNat := by
    rw [BitVec.toNat_ofInt]
    have : ((2 ^ 64 : Nat) : Int) = 18446744073709551616 := by decide
    rw [this]; omega
  have e3 : ((BitVec.ofInt 64 (n * 256)) ||| (BitVec.ofInt 64 x)).toNat = 2 ^ 8 * (n % 72057594037927936).toNat + x.toNat := by
    rw [BitVec.toNat_or, e1, e2, Nat.two_pow_add_eq_or_of_lt (by omega)]
  show IntKind.i64.wrap (((BitVec.ofInt 64 (n * 256)) ||| (BitVec.ofInt 64 x)).toNat : Int) = _
  rw [e3, IntKind.wrap_i64]
  simp only [Nat.reducePow]
  omega

theorem val_fits {zs : List Int} (hz : Byt zs) (k : Nat) : Fits k (val zs k) := by
  induction k with
  | zero =>
    have := hz.at 0
    unfold Fits val sgn
    simp only [Int.pow_zero]
    split <;> omega
  | succ k ih =>
    have := hz.at (k + 1)
    unfold Fits at *
    unfold val
    rw [Int.pow_succ]
    generalize (256 : Int) ^ k = p at *
    omega

theorem val_bd {zs : List Int} (hz : Byt zs) (k : Nat) (hk : k ≤ 3) : -2147483648 ≤ val zs k ∧ val zs k ≤ 2147483647 := by
  have h := val_fits hz k
  unfold Fits at h
  have hk' : k = 0 ∨ k = 1 ∨ k = 2 ∨ k = 3 := by omega
  rcases hk' with rfl | rfl | rfl | rfl <;> simp at h <;> omega

/-- What GetInt answers. -/
def getInt (zs : List Int) : Int × Bool :=
  if zs.length = 0 ∨ 4 < zs.length then (0, false)
  else if (putInt (val zs (zs.length - 1))).length = zs.length then (val zs (zs.length - 1), true)
  else (0, false)

theorem ret_two {a a' : Int} {c c' : Bool} (ha : a = a') (hc : c = c') : Ending.returned (.tuple #[.int .i64 a, .bool c]) = .returned (.tuple #[.int .i64 a', .bool c']) := by rw [ha, hc]

set_option maxRecDepth 100000 in
set_option maxHeartbeats 400000 in
theorem specGetInt_any (a1 : Option Addr) (l1 c1 : Nat) (z1 : List Int) (w : World) (h1 : Row w a1 l1 c1 z1) (hs : l1 ≤ 16777216) :
    Calls Tryz.prog 62 #[.slice a1 l1 c1] w fun e w' => e = .returned (.tuple #[.int .i64 (getInt z1).1, .bool (getInt z1).2]) ∧ Below w.heap.size w w' := by
  have s1 := h1.size
  by_cases k0 : l1 = 0
  · have e : getInt z1 = (0, false) := by unfold getInt; rw [if_pos (.inl (by omega))]
    rw [e]; clear e
    subst k0
    go_enter Tryz.func62, Tryz.ntmps62
    go_wp2
    go_ret2
    exact ⟨rfl, Below.refl _ _⟩
  by_cases k1 : 4 < l1
  · have e : getInt z1 = (0, false) := by unfold getInt; rw [if_pos (.inr (by omega))]
    rw [e]; clear e
    have i1 : (1 : Int) ≤ l1 := by omega
    have i2 : ¬ (l1 : Int) ≤ 4 := by omega
    go_enter Tryz.func62, Tryz.ntmps62
    go_wp2
    go_ret2
    exact ⟨rfl, Below.refl _ _⟩
  have hby := h1.byte
  obtain ⟨b, off, rfl, hc⟩ := h1.at (by omega)
  have HC := hide hc
  have i1 : (1 : Int) ≤ l1 := by omega
  have i2 : (l1 : Int) ≤ 4 := by omega
  have c0 := hc 0 (by omega)
  rw [Nat.add_zero] at c0
  have b0 := hby.at 0
  have v0 : val z1 0 = sgn (z1.getD 0 0) := rfl
  unfold sgn at v0
  generalize z1.getD 0 0 = x0 at *
  have V0 := hide v0
  clear v0 hc h1
  by_cases hx : 127 < x0
  all_goals
    go_enter Tryz.func62, Tryz.ntmps62
    go_wp2
    go_loop [4, 5] (fun m i => ∃ k : Nat, k + 1 ≤ l1 ∧ i = .int .i64 ((k + 1 : Nat) : Int) ∧ m = .int .i64 (val z1 k)) (fun _ i => 5 - (intOf i).toNat)
    case atStart => exact ⟨0, by omega, rfl, by rw [V0.out]; simp; omega⟩
    case round =>
      obtain ⟨k, hk, rfl, rfl⟩ := hrel
      have hv := val_bd hby k (by omega)
      by_cases hlt : k + 1 < l1
      · have cx := HC.out (k + 1) hlt
        have bx := hby.at (k + 1)
        have e : val z1 (k + 1) = val z1 k * 256 + z1.getD (k + 1) 0 := rfl
        have ho := or_byte (val z1 k) (z1.getD (k + 1) 0) (by omega) bx
        rw [← e] at ho
        have i3 : ((k + 1 : Nat) : Int) < l1 := by omega
        have HO := hide ho
        clear ho e
        generalize z1.getD (k + 1) 0 = y at *
        generalize val z1 k = v at *
        go_wp2
        go_round
        case rel => exact ⟨k + 1, by omega, by go_num, by rw [HO.out]⟩
        case measure => simp [intOf]; omega
      · have hk' : k = z1.length - 1 := by omega
        have e : getInt z1 = (if (putInt (val z1 k)).length = l1 then (val z1 k, true) else (0, false)) := by unfold getInt; rw [if_neg (by omega), ← hk', s1]
        generalize val z1 k = v at *
        have hpl := putInt_length v
        obtain ⟨P, hP⟩ : ∃ P, putInt v = P := ⟨_, rfl⟩
        rw [hP] at hpl e
        have HP := hide hP
        have HE := hide e
        clear hP e
        have i3 : ¬ ((k + 1 : Nat) : Int) < l1 := by omega
        go_wp2_with fail
        refine (specInt_made v P HP.out _).mono ?_
        rintro e w1 ⟨ao1, cp1, rfl, -, -, hb1⟩
        by_cases hq : P.length = l1
        · have hne : ((P.length : Int) != (l1 : Int)) = false := by simp; omega
          have HQ := hide hq
          clear hq
          go_wp2
          go_ret2
          exact ⟨ret_two (by rw [HE.out, if_pos HQ.out]) (by rw [HE.out, if_pos HQ.out]), hb1⟩
        · have hne : ((P.length : Int) != (l1 : Int)) = true := by simp; omega
          go_wp2
          go_ret2
          exact ⟨ret_two (by rw [HE.out, if_neg hq]) (by rw [HE.out, if_neg hq]), hb1⟩

theorem putInt_len (v : Int) (h : -2147483648 ≤ v ∧ v ≤ 2147483647) : (putInt v).length = if -128 ≤ v ∧ v ≤ 127 then 1 else if -32768 ≤ v ∧ v ≤ 32767 then 2 else if -8388608 ≤ v ∧ v ≤ 8388607 then 3 else 4 := by
  have hc : clip v = v := by unfold clip; rw [if_neg (by omega), if_neg (by omega)]
  unfold putInt
  rw [hc]
  by_cases k1 : v < -128 ∨ 127 < v
  · rw [if_neg (by omega)]
    by_cases k2 : v / 256 < -128 ∨ 127 < v / 256
    · rw [if_neg (by omega)]
      by_cases k3 : v / 256 / 256 < -128 ∨ 127 < v / 256 / 256
      · rw [if_neg (by omega)]; simp [ints, k1, k2, k3]
      · rw [if_pos (by omega)]; simp [ints, k1, k2, k3]
    · rw [if_pos (by omega)]; simp [ints, k1, k2]
  · rw [if_pos (by omega)]; simp [ints, k1]

/-- Whether the first byte only repeats the second one's sign. -/
def Needless (zs : List Int) : Prop := 1 < zs.length ∧ sgn (zs.getD 0 0) = sgn (zs.getD 1 0) / 128

theorem needless_iff (zs : List Int) (hz : Byt zs) (h0 : zs.length ≠ 0) (h4 : ¬ 4 < zs.length) : (putInt (val zs (zs.length - 1))).length = zs.length ↔ ¬ Needless zs := by
  have b0 := hz.at 0; have b1 := hz.at 1; have b2 := hz.at 2; have b3 := hz.at 3
  rw [putInt_len _ (val_bd hz _ (by omega))]
  unfold Needless
  generalize hl : zs.length = l at *
  have hk : l = 1 ∨ l = 2 ∨ l = 3 ∨ l = 4 := by omega
  rcases hk with rfl | rfl | rfl | rfl
  all_goals
    simp only [val, Nat.reduceSub, Nat.reduceAdd]
    generalize zs.getD 0 0 = x0 at *
    generalize zs.getD 1 0 = x1 at *
    generalize zs.getD 2 0 = x2 at *
    generalize zs.getD 3 0 = x3 at *
    unfold sgn
    repeat' split
    all_goals omega

set_option maxRecDepth 100000 in
set_option maxHeartbeats 400000 in
theorem implGetInt_any (a1 : Option Addr) (l1 c1 : Nat) (z1 : List Int) (w : World) (h1 : Row w a1 l1 c1 z1) (hs : l1 ≤ 16777216) :
    Calls Tryz.prog 75 #[.slice a1 l1 c1] w fun e w' => e = .returned (.tuple #[.int .i64 (getInt z1).1, .bool (getInt z1).2]) ∧ w' = w := by
  have s1 := h1.size
  by_cases k0 : l1 = 0
  · have e : getInt z1 = (0, false) := by unfold getInt; rw [if_pos (.inl (by omega))]
    rw [e]; clear e
    subst k0
    go_enter Tryz.func75, Tryz.ntmps75
    go_wp2
    go_ret2
    exact ⟨rfl, rfl⟩
  by_cases k1 : 4 < l1
  · have e : getInt z1 = (0, false) := by unfold getInt; rw [if_pos (.inr (by omega))]
    rw [e]; clear e
    have i1 : ((l1 : Int) == 0) = false := by simp; omega
    have i2 : (4 : Int) < l1 := by omega
    go_enter Tryz.func75, Tryz.ntmps75
    go_wp2
    go_ret2
    exact ⟨rfl, rfl⟩
  have hby := h1.byte
  have hle := h1.le
  have hiff := needless_iff z1 hby (by omega) (by omega)
  rw [s1] at hiff
  have eN : Needless z1 → getInt z1 = (0, false) := fun hn => by unfold getInt; rw [if_neg (by omega), s1, if_neg (fun h => hiff.1 h hn)]
  have eY : ¬ Needless z1 → getInt z1 = (val z1 (l1 - 1), true) := fun hn => by unfold getInt; rw [if_neg (by omega), s1, if_pos (hiff.2 hn)]
  have EN := hide eN
  have EY := hide eY
  clear eN eY hiff
  obtain ⟨b, off, rfl, hc⟩ := h1.at (by omega)
  have HC := hide hc
  have i1 : ((l1 : Int) == 0) = false := by simp; omega
  have i2 : ¬ (4 : Int) < l1 := by omega
  have c0 := hc 0 (by omega)
  rw [Nat.add_zero] at c0
  have b0 := hby.at 0
  have b1 := hby.at 1
  have v0 : val z1 0 = sgn (z1.getD 0 0) := rfl
  have V0 := hide v0
  clear v0 hc h1
  by_cases k2 : 1 < l1
  · have c1' := HC.out 1 k2
    have i3 : (1 : Int) < l1 := by omega
    have i4 : (1 : Int) ≤ l1 := by omega
    have hcc : ¬ c1 = 1 := by omega
    by_cases hn : sgn (z1.getD 0 0) = sgn (z1.getD 1 0) / 128
    · have HN := hide (EN.out ⟨by omega, hn⟩)
      have hb : (sgn (z1.getD 0 0) == sgn (z1.getD 1 0) / 128) = true := by simpa using hn
      clear EN EY hn V0
      generalize z1.getD 0 0 = x0 at *
      generalize z1.getD 1 0 = x1 at *
      go_enter Tryz.func75, Tryz.ntmps75
      go_wp2_with (go_at_call 97; refine (signed_any _ _ (by omega)).mono ?_; rintro e w' ⟨rfl, rfl⟩)
      go_ret2
      exact ⟨ret_two (by rw [HN.out]) (by rw [HN.out]), rfl⟩
    · have HN := hide (EY.out (fun h => hn h.2))
      have hb : (sgn (z1.getD 0 0) == sgn (z1.getD 1 0) / 128) = false := by simpa using hn
      clear EN EY hn
      generalize z1.getD 0 0 = x0 at *
      generalize z1.getD 1 0 = x1 at *
      go_enter Tryz.func75, Tryz.ntmps75
      go_wp2_with (go_at_call 97; refine (signed_any _ _ (by omega)).mono ?_; rintro e w' ⟨rfl, rfl⟩)
      go_loop [4, 34] (fun m i => ∃ k : Nat, k ≤ l1 - 1 ∧ i = .int .i64 k ∧ m = .int .i64 (val z1 k)) (fun _ i => 5 - (intOf i).toNat)
      case atStart => exact ⟨0, by omega, rfl, by rw [V0.out]⟩
      case round =>
        obtain ⟨k, hk, rfl, rfl⟩ := hrel
        have hv := val_bd hby k (by omega)
        by_cases hlt : k < l1 - 1
        · have cx := HC.out (k + 1) (by omega)
          rw [show off + (k + 1) = off + 1 + k from by omega] at cx
          have bx := hby.at (k + 1)
          have e : val z1 (k + 1) = val z1 k * 256 + z1.getD (k + 1) 0 := rfl
          have ho := or_byte (val z1 k) (z1.getD (k + 1) 0) (by omega) bx
          rw [← e] at ho
          have HO := hide ho
          clear ho e
          generalize z1.getD (k + 1) 0 = y at *
          generalize val z1 k = v at *
          go_wp2
          go_round
          case rel => exact ⟨k + 1, by omega, by go_num, by rw [HO.out]⟩
          case measure => simp [intOf]; omega
        · have hk' : k = l1 - 1 := by omega
          subst hk'
          go_wp2
          go_ret2
          exact ⟨ret_two (by rw [HN.out]) (by rw [HN.out]), rfl⟩
  · obtain rfl : l1 = 1 := by omega
    have HN := hide (EY.out (fun h => by have := h.1; omega))
    clear EN EY
    generalize z1.getD 0 0 = x0 at *
    by_cases hcc : c1 = 1
    all_goals
      go_enter Tryz.func75, Tryz.ntmps75
      go_wp2_with (go_at_call 97; refine (signed_any _ _ (by omega)).mono ?_; rintro e w' ⟨rfl, rfl⟩)
      go_loop [4, 34] (fun m i => i = .int .i64 0 ∧ m = .int .i64 (val z1 0)) (fun _ _ => 0)
      case atStart => exact ⟨rfl, by rw [V0.out]⟩
      case round =>
        obtain ⟨rfl, rfl⟩ := hrel
        go_wp2
        go_ret2
        exact ⟨ret_two (by rw [HN.out]) (by rw [HN.out]), rfl⟩

theorem sgn_mod (v : Int) (h : -128 ≤ v ∧ v ≤ 127) : sgn (v % 256) = v := by unfold sgn; split <;> omega

/-- A number comes back of its bytes. -/
theorem int_back (n : Int) : getInt (putInt n) = (clip n, true) := by
  have hc := clip_bd n
  have e : putInt n = ints 3 (clip n) [clip n % 256] := rfl
  rw [e]
  generalize clip n = v at *
  have hv : val (ints 3 v [v % 256]) ((ints 3 v [v % 256]).length - 1) = v ∧ 1 ≤ (ints 3 v [v % 256]).length ∧ (ints 3 v [v % 256]).length ≤ 4 := by
    by_cases k1 : v < -128 ∨ 127 < v
    · by_cases k2 : v / 256 < -128 ∨ 127 < v / 256
      · by_cases k3 : v / 256 / 256 < -128 ∨ 127 < v / 256 / 256
        · simp [ints, k1, k2, k3, val]
          rw [sgn_mod _ (by omega)]; omega
        · simp [ints, k1, k2, k3, val]
          rw [sgn_mod _ (by omega)]; omega
      · simp [ints, k1, k2, val]
        rw [sgn_mod _ (by omega)]; omega
    · simp [ints, k1, val]
      exact sgn_mod _ (by omega)
  obtain ⟨h1, h2, h3⟩ := hv
  have hp : putInt v = ints 3 v [v % 256] := by
    have : clip v = v := by unfold clip; rw [if_neg (by omega), if_neg (by omega)]
    unfold putInt; rw [this]
  unfold getInt
  rw [if_neg (by omega), h1, hp, if_pos rfl]

/-- What is read has these bytes. -/
theorem int_read (z : List Int) (hz : Byt z) (y : Int) (h : getInt z = (y, true)) : putInt y = z := by
  unfold getInt at h
  by_cases h0 : z.length = 0 ∨ 4 < z.length
  · rw [if_pos h0] at h; simp at h
  rw [if_neg h0] at h
  by_cases h1 : (putInt (val z (z.length - 1))).length = z.length
  · rw [if_pos h1] at h
    simp only [Prod.mk.injEq, and_true] at h
    subst h
    have hb := val_bd hz (z.length - 1) (by omega)
    rw [putInt_len _ hb] at h1
    have hc : ∀ v : Int, -2147483648 ≤ v ∧ v ≤ 2147483647 → putInt v = ints 3 v [v % 256] := fun v hv => by
      have : clip v = v := by unfold clip; rw [if_neg (by omega), if_neg (by omega)]
      unfold putInt; rw [this]
    rw [hc _ hb]
    have b0 := hz.at 0; have b1 := hz.at 1; have b2 := hz.at 2; have b3 := hz.at 3
    match z, hz, h0, h1, hb, b0, b1, b2, b3 with
    | [], _, h0, _, _, _, _, _, _ => simp at h0
    | [x0], _, _, h1, _, b0, _, _, _ =>
      simp [val] at *
      generalize hs : sgn x0 = s0 at *
      have : (s0 = x0 ∧ x0 ≤ 127) ∨ (s0 = x0 - 256 ∧ 127 < x0) := by rw [← hs]; unfold sgn; split <;> omega
      have k1 : ¬ (s0 < -128 ∨ 127 < s0) := by omega
      simp [ints, k1]; omega
    | [x0, x1], _, _, h1, _, b0, b1, _, _ =>
      simp [val] at *
      generalize hs : sgn x0 = s0 at *
      have : (s0 = x0 ∧ x0 ≤ 127) ∨ (s0 = x0 - 256 ∧ 127 < x0) := by rw [← hs]; unfold sgn; split <;> omega
      have k0 : ¬ (-128 ≤ s0 * 256 + x1 ∧ s0 * 256 + x1 ≤ 127) := by intro h; rw [if_pos h] at h1; omega
      have k1 : s0 * 256 + x1 < -128 ∨ 127 < s0 * 256 + x1 := by omega
      have k2 : ¬ ((s0 * 256 + x1) / 256 < -128 ∨ 127 < (s0 * 256 + x1) / 256) := by omega
      simp [ints, k1, k2]; omega
    | [x0, x1, x2], _, _, h1, _, b0, b1, b2, _ =>
      simp [val] at *
      generalize hs : sgn x0 = s0 at *
      have : (s0 = x0 ∧ x0 ≤ 127) ∨ (s0 = x0 - 256 ∧ 127 < x0) := by rw [← hs]; unfold sgn; split <;> omega
      generalize hv : (s0 * 256 + x1) * 256 + x2 = v at *
      have k0 : ¬ (-32768 ≤ v ∧ v ≤ 32767) := by intro h; by_cases h' : -128 ≤ v ∧ v ≤ 127 <;> simp [h, h'] at h1
      have k1 : v < -128 ∨ 127 < v := by omega
      have k2 : v / 256 < -128 ∨ 127 < v / 256 := by omega
      have k3 : ¬ (v / 256 / 256 < -128 ∨ 127 < v / 256 / 256) := by omega
      simp [ints, k1, k2, k3]; omega
    | [x0, x1, x2, x3], _, _, h1, _, b0, b1, b2, b3 =>
      simp [val] at *
      generalize hs : sgn x0 = s0 at *
      have : (s0 = x0 ∧ x0 ≤ 127) ∨ (s0 = x0 - 256 ∧ 127 < x0) := by rw [← hs]; unfold sgn; split <;> omega
      generalize hv : ((s0 * 256 + x1) * 256 + x2) * 256 + x3 = v at *
      have k0 : ¬ (-8388608 ≤ v ∧ v ≤ 8388607) := by intro h; by_cases h' : -128 ≤ v ∧ v ≤ 127 <;> by_cases h'' : -32768 ≤ v ∧ v ≤ 32767 <;> simp [h, h', h''] at h1
      have k1 : v < -128 ∨ 127 < v := by omega
      have k2 : v / 256 < -128 ∨ 127 < v / 256 := by omega
      have k3 : v / 256 / 256 < -128 ∨ 127 < v / 256 / 256 := by omega
      simp [ints, k1, k2, k3]; omega
    | x0 :: x1 :: x2 :: x3 :: x4 :: r, _, h0, _, _, _, _, _, _ => simp at h0
  · rw [if_neg h1] at h; simp at h

theorem getD_left (a b : List Int) (i : Nat) (h : i < a.length) : (a ++ b).getD i 0 = a.getD i 0 := by
  simp [List.getD_eq_getElem?_getD, List.getElem?_append_left h]
theorem getD_take (z : List Int) (k i : Nat) (h : i < k) : (z.take k).getD i 0 = z.getD i 0 := by
  simp [List.getD_eq_getElem?_getD, h]

theorem putTlv_ok (b : List Int) (tag : Int) (body : List Int) (ht : ¬ (tag < 0 ∨ 255 < tag ∨ 250 < body.length)) : putTlv b tag body = b ++ ([tag] ++ lenB body.length ++ body) := by
  unfold putTlv; rw [if_neg ht]

/-- What is put comes back. -/
theorem tlv_back (b : List Int) (tag : Int) (body : List Int) (ht : ¬ (tag < 0 ∨ 255 < tag ∨ 250 < body.length)) :
    getTlv (putTlv b tag body) b.length = (tag, body, ((putTlv b tag body).length : Int), true) := by
  rw [putTlv_ok b tag body ht]
  by_cases hn : body.length < 128
  · have el : lenB body.length = [(body.length : Int)] := by simp [lenB, hn]
    rw [el]
    have e0 : (b ++ ([tag] ++ [(body.length : Int)] ++ body)).getD b.length 0 = tag := by simp
    have e1 : (b ++ ([tag] ++ [(body.length : Int)] ++ body)).getD (b.length + 1) 0 = body.length := by simp
    have hl : (b ++ ([tag] ++ [(body.length : Int)] ++ body)).length = b.length + (body.length + 2) := by simp
    have e2 : ((b ++ ([tag] ++ [(body.length : Int)] ++ body)).drop (b.length + 2)).take body.length = body := by
      have : (b ++ ([tag] ++ [(body.length : Int)] ++ body)) = (b ++ [tag, (body.length : Int)]) ++ body := by simp
      rw [this, List.drop_left' (by simp)]; simp
    generalize hq : b ++ ([tag] ++ [(body.length : Int)] ++ body) = q at *
    rw [getTlv_yes q b.length body.length (b.length + 2) (by omega) (by rw [lenAt_short q (b.length + 1) body.length (by omega) e1 (by omega)]; rfl) (by omega), e0, e2, hl]
    simp; omega
  · have el : lenB body.length = [129, (body.length : Int)] := by simp [lenB, hn]
    rw [el]
    have e0 : (b ++ ([tag] ++ [129, (body.length : Int)] ++ body)).getD b.length 0 = tag := by simp
    have e1 : (b ++ ([tag] ++ [129, (body.length : Int)] ++ body)).getD (b.length + 1) 0 = 129 := by simp
    have e3 : (b ++ ([tag] ++ [129, (body.length : Int)] ++ body)).getD (b.length + 2) 0 = body.length := by simp
    have hl : (b ++ ([tag] ++ [129, (body.length : Int)] ++ body)).length = b.length + (body.length + 3) := by simp
    have e2 : ((b ++ ([tag] ++ [129, (body.length : Int)] ++ body)).drop (b.length + 3)).take body.length = body := by
      have : (b ++ ([tag] ++ [129, (body.length : Int)] ++ body)) = (b ++ [tag, 129, (body.length : Int)]) ++ body := by simp
      rw [this, List.drop_left' (by simp)]; simp
    generalize hq : b ++ ([tag] ++ [129, (body.length : Int)] ++ body) = q at *
    rw [getTlv_yes q b.length body.length (b.length + 3) (by omega) (by rw [lenAt_long q (b.length + 1) body.length (by omega) e1 e3, decide_eq_true (by omega), decide_eq_true (by omega)]; rfl) (by omega), e0, e2, hl]
    simp; omega

/-- Cut it does not. -/
theorem tlv_cut (b : List Int) (tag : Int) (body : List Int) (ht : ¬ (tag < 0 ∨ 255 < tag ∨ 250 < body.length)) :
    getTlv ((putTlv b tag body).take ((putTlv b tag body).length - 1)) b.length = (0, [], 0, false) := by
  rw [putTlv_ok b tag body ht]
  by_cases hn : body.length < 128
  · have el : lenB body.length = [(body.length : Int)] := by simp [lenB, hn]
    rw [el]
    have e1 : (b ++ ([tag] ++ [(body.length : Int)] ++ body)).getD (b.length + 1) 0 = body.length := by simp
    have hl : (b ++ ([tag] ++ [(body.length : Int)] ++ body)).length = b.length + (body.length + 2) := by simp
    generalize hq : b ++ ([tag] ++ [(body.length : Int)] ++ body) = q at *
    have hl2 : (q.take (q.length - 1)).length = b.length + (body.length + 1) := by simp; omega
    refine getTlv_no _ _ ?_
    by_cases h0 : body.length = 0
    · rw [lenAt_out _ _ (by omega)]; simp
    · have e3 : (q.take (q.length - 1)).getD (b.length + 1) 0 = body.length := by rw [getD_take _ _ _ (by omega)]; exact e1
      rw [lenAt_short _ _ _ (by omega) e3 (by omega), hl2]
      simp; omega
  · have el : lenB body.length = [129, (body.length : Int)] := by simp [lenB, hn]
    rw [el]
    have e1 : (b ++ ([tag] ++ [129, (body.length : Int)] ++ body)).getD (b.length + 1) 0 = 129 := by simp
    have e3 : (b ++ ([tag] ++ [129, (body.length : Int)] ++ body)).getD (b.length + 2) 0 = body.length := by simp
    have hl : (b ++ ([tag] ++ [129, (body.length : Int)] ++ body)).length = b.length + (body.length + 3) := by simp
    generalize hq : b ++ ([tag] ++ [129, (body.length : Int)] ++ body) = q at *
    have hl2 : (q.take (q.length - 1)).length = b.length + (body.length + 2) := by simp; omega
    refine getTlv_no _ _ ?_
    have f1 : (q.take (q.length - 1)).getD (b.length + 1) 0 = 129 := by rw [getD_take _ _ _ (by omega)]; exact e1
    have f3 : (q.take (q.length - 1)).getD (b.length + 2) 0 = body.length := by rw [getD_take _ _ _ (by omega)]; exact e3
    rw [lenAt_long _ _ _ (by omega) f1 f3, hl2]
    simp; omega

theorem drop_cons (z : List Int) (p : Nat) (h : p < z.length) : z.drop p = z.getD p 0 :: z.drop (p + 1) := by
  rw [List.drop_eq_getElem_cons h]; simp [h]

/-- What is read has these bytes. -/
theorem tlv_read (z : List Int) (hz : Byt z) (t k next : Int) (x : List Int) (h : getTlv z t = (k, x, next, true)) :
    ∃ p q : Nat, t = p ∧ next = q ∧ p ≤ q ∧ q ≤ z.length ∧ putTlv [] k x = (z.drop p).take (q - p) := by
  by_cases h0 : t < 0 ∨ (z.length : Int) ≤ t
  · unfold getTlv at h; rw [if_pos h0] at h; simp at h
  obtain ⟨p, rfl⟩ : ∃ p : Nat, t = p := ⟨t.toNat, by omega⟩
  by_cases hy : (lenAt z (p + 1)).2.2 = true ∧ (lenAt z (p + 1)).1 ≤ z.length - (lenAt z (p + 1)).2.1
  · obtain ⟨n, f, hl, hn, hf, hf1, hf2⟩ := lenAt_ok hz hy.1
    have hfit : (n : Int) ≤ z.length - f := by have := hy.2; rw [hl] at this; exact this
    rw [getTlv_yes z p n f (by omega) hl hfit] at h
    simp only [Prod.mk.injEq, and_true] at h
    obtain ⟨rfl, rfl, rfl⟩ := h
    have b0 := hz.at p
    have hxl : ((z.drop f).take n).length = n := by simp; omega
    refine ⟨p, f + n, rfl, by omega, by omega, by omega, ?_⟩
    rw [putTlv_ok [] _ _ (by rw [hxl]; omega), hxl, List.nil_append]
    by_cases k1 : z.getD (p + 1) 0 < 128
    · rw [lenAt_short z (p + 1) _ (by omega) rfl k1] at hl
      simp only [Prod.mk.injEq, and_true] at hl
      obtain rfl : f = p + 2 := by omega
      have el : lenB n = [(n : Int)] := by unfold lenB; rw [if_pos (by omega)]
      rw [el, drop_cons z p (by omega), drop_cons z (p + 1) (by omega), show p + 2 + n - p = n + 1 + 1 from by omega, List.take_succ_cons, List.take_succ_cons, hl.1]
      rfl
    · by_cases k2 : z.getD (p + 1) 0 = 129
      · by_cases k3 : p + 2 < z.length
        · rw [lenAt_long z (p + 1) (z.getD (p + 2) 0) (by omega) k2 rfl] at hl
          simp only [Prod.mk.injEq, Bool.and_eq_true, decide_eq_true_eq] at hl
          obtain rfl : f = p + 3 := by omega
          have el : lenB n = [129, (n : Int)] := by unfold lenB; rw [if_neg (by omega)]
          rw [el, drop_cons z p (by omega), drop_cons z (p + 1) (by omega), drop_cons z (p + 1 + 1) (by omega), show p + 3 + n - p = n + 1 + 1 + 1 from by omega, List.take_succ_cons, List.take_succ_cons, List.take_succ_cons, k2, show p + 1 + 1 = p + 2 from rfl, hl.1]
          rfl
        · rw [lenAt_cut z (p + 1) (by omega) k2 (by omega)] at hl
          simp at hl
      · by_cases k3 : p + 1 < z.length
        · rw [lenAt_other z (p + 1) _ k3 rfl k1 k2] at hl
          simp at hl
        · rw [lenAt_out z (p + 1) (by omega)] at hl
          simp at hl
  · rw [getTlv_no z p hy] at h
    simp at h

set_option maxRecDepth 100000 in
set_option maxHeartbeats 400000 in
theorem same_any (a1 : Option Addr) (l1 c1 : Nat) (z1 : List Int) (a2 : Option Addr) (l2 c2 : Nat) (z2 : List Int) (w : World) (h1 : Row w a1 l1 c1 z1) (h2 : Row w a2 l2 c2 z2) :
    Calls Tryz.prog 8 #[.slice a1 l1 c1, .slice a2 l2 c2] w fun e w' => e = .returned (.bool (decide (z1 = z2))) ∧ ∃ n, w' = w.drewN n := by
  have m1 := h1.top; have m2 := h2.top; have s1 := h1.size; have s2 := h2.size; have e1 := h1.le; have e2 := h2.le
  unfold maxLen at m1 m2
  by_cases hl : l1 = l2
  · subst hl
    by_cases h0 : l1 = 0
    · subst h0
      have hz : z1 = z2 := by rw [List.eq_nil_of_length_eq_zero s1, List.eq_nil_of_length_eq_zero s2]
      go_enter Tryz.func8, Tryz.ntmps8
      go_wp2
      go_loop [5] (fun i => i = .int .i64 0) (fun _ => 0)
      case atStart => rfl
      case round =>
        subst hrel
        go_wp2
        go_ret
        exact ⟨by simp, 0, rfl⟩
    · rcases h1.cell with h | ⟨b1, o1, rfl, g1⟩
      · exact absurd h h0
      rcases h2.cell with h | ⟨b2, o2, rfl, g2⟩
      · exact absurd h h0
      clear h1 h2
      have G1 : Hid (∀ i, i < l1 → w.cell? ⟨b1, o1 + i, none⟩ = some (.int .u8 (z1.getD i 0))) := g1
      have G2 : Hid (∀ i, i < l1 → w.cell? ⟨b2, o2 + i, none⟩ = some (.int .u8 (z2.getD i 0))) := g2
      clear g1 g2
      go_enter Tryz.func8, Tryz.ntmps8
      go_wp2
      go_loopw [5] (fun i wr => ∃ k : Nat, k ≤ l1 ∧ i = .int .i64 k ∧ z1.take k = z2.take k ∧ ∃ n, wr = w.drewN n) (fun i _ => l1 - (intOf i).toNat)
      case atStart => exact ⟨0, Nat.zero_le _, rfl, rfl, 0, rfl⟩
      case round =>
        obtain ⟨k, hk, rfl, ht, n, rfl⟩ := hrel
        have HT : Hid (z1.take k = z2.take k) := ht
        clear ht
        by_cases hlt : k < l1
        · have c1 := G1.out k hlt
          have c2 := G2.out k hlt
          generalize hx : z1.getD k 0 = x at c1
          generalize hy : z2.getD k 0 = y at c2
          have HX : Hid (z1.getD k 0 = x) := hx
          have HY : Hid (z2.getD k 0 = y) := hy
          clear hx hy
          by_cases hq : x = y
          · subst hq
            go_wp2
            go_quiet (fail)
            go_wp2
            go_roundw
            case rel => exact ⟨k + 1, by omega, by go_num, by rw [take_succ_getD _ _ (by omega), take_succ_getD _ _ (by omega), HT.out, HX.out, HY.out], _, rfl⟩
            case measure => simp [intOf]; omega
          · have hne : (x != y) = true := by simp [hq]
            go_wp2
            go_quiet (fail)
            go_wp2
            go_ret
            exact ⟨ret_bool (decide_eq_false (ne_at k (by rw [HX.out, HY.out]; exact hq))).symm, _, World.drewN_drewN _ _ _⟩
        · go_wp2
          go_ret
          have hk' : k = l1 := by omega
          exact ⟨ret_bool (decide_eq_true (eq_of_takes (by omega) (by rw [s1, ← hk']; exact HT.out))).symm, _, rfl⟩
  · have hne : ((l1 : Int) != (l2 : Int)) = true := by simp; omega
    have hz : ¬ z1 = z2 := by intro e; rw [e] at s1; omega
    go_enter Tryz.func8, Tryz.ntmps8
    go_wp2
    go_ret
    exact ⟨ret_bool (decide_eq_false hz).symm, 0, rfl⟩

theorem same_same (a1 : Option Addr) (l1 c1 : Nat) (a2 : Option Addr) (l2 c2 : Nat) (zs : List Int) (w : World) (h1 : Row w a1 l1 c1 zs) (h2 : Row w a2 l2 c2 zs) :
    Calls Tryz.prog 8 #[.slice a1 l1 c1, .slice a2 l2 c2] w fun e w' => e = .returned (.bool true) ∧ ∃ n, w' = w.drewN n := by
  refine (same_any a1 l1 c1 zs a2 l2 c2 zs w h1 h2).mono ?_
  rintro e w' ⟨rfl, n, rfl⟩
  exact ⟨by simp, n, rfl⟩

theorem big_no (a0 : Option Addr) (l0 c0 : Nat) (w : World) (h : ¬ 1048576 < l0) : Calls Tryz.prog 5 #[.slice a0 l0 c0] w fun e w' => e = .returned (.bool false) ∧ w' = w := by
  have i1 : ¬ (1048576 : Int) < l0 := by omega
  go_enter Tryz.func5, Tryz.ntmps5
  go_wp2
  go_ret
  exact ⟨rfl, rfl⟩

theorem Row.take {w : World} {ao : Option Addr} {n c : Nat} {zs : List Int} (h : Row w ao n c zs) (k : Nat) (hk : k ≤ n) : Row w ao k c (zs.take k) where
  size := by have := h.size; simp; omega
  le := by have := h.le; omega
  top := h.top
  nil := h.nil
  byte := fun z hz => h.byte z (List.mem_of_mem_take hz)
  cell := by
    rcases h.cell with h0 | ⟨b, off, ha, hc⟩
    · exact .inl (by omega)
    · exact .inr ⟨b, off, ha, fun i hi => by rw [hc i (by omega)]; simp [List.getD_eq_getElem?_getD, hi]⟩

/-- A part's bytes. -/
def tlvB (tag : Int) (body : List Int) : List Int := [tag] ++ lenB body.length ++ body

def TlvOk (tag : Int) (body : List Int) : Prop := ¬ (tag < 0 ∨ 255 < tag ∨ 250 < body.length)

theorem put_part {tag : Int} {body : List Int} (h : TlvOk tag body) (b : List Int) : putTlv b tag body = b ++ tlvB tag body := putTlv_ok b tag body h

/-- A part with whatever behind it. -/
theorem tlv_mid (b : List Int) (tag : Int) (body r : List Int) (ht : TlvOk tag body) :
    getTlv (b ++ (tlvB tag body ++ r)) b.length = (tag, body, ((b.length + (tlvB tag body).length : Nat) : Int), true) := by
  unfold TlvOk at ht
  unfold tlvB
  by_cases hn : body.length < 128
  · have el : lenB body.length = [(body.length : Int)] := by simp [lenB, hn]
    rw [el]
    have e0 : (b ++ ([tag] ++ [(body.length : Int)] ++ body ++ r)).getD b.length 0 = tag := by simp
    have e1 : (b ++ ([tag] ++ [(body.length : Int)] ++ body ++ r)).getD (b.length + 1) 0 = body.length := by simp
    have hl : (b ++ ([tag] ++ [(body.length : Int)] ++ body ++ r)).length = b.length + (body.length + 2) + r.length := by simp; omega
    have e2 : ((b ++ ([tag] ++ [(body.length : Int)] ++ body ++ r)).drop (b.length + 2)).take body.length = body := by
      have : (b ++ ([tag] ++ [(body.length : Int)] ++ body ++ r)) = (b ++ [tag, (body.length : Int)]) ++ (body ++ r) := by simp
      rw [this, List.drop_left' (by simp)]; simp
    generalize hq : b ++ ([tag] ++ [(body.length : Int)] ++ body ++ r) = q at *
    rw [getTlv_yes q b.length body.length (b.length + 2) (by omega) (by rw [lenAt_short q (b.length + 1) body.length (by omega) e1 (by omega)]; rfl) (by omega), e0, e2]
    simp; omega
  · have el : lenB body.length = [129, (body.length : Int)] := by simp [lenB, hn]
    rw [el]
    have e0 : (b ++ ([tag] ++ [129, (body.length : Int)] ++ body ++ r)).getD b.length 0 = tag := by simp
    have e1 : (b ++ ([tag] ++ [129, (body.length : Int)] ++ body ++ r)).getD (b.length + 1) 0 = 129 := by simp
    have e3 : (b ++ ([tag] ++ [129, (body.length : Int)] ++ body ++ r)).getD (b.length + 2) 0 = body.length := by simp
    have hl : (b ++ ([tag] ++ [129, (body.length : Int)] ++ body ++ r)).length = b.length + (body.length + 3) + r.length := by simp; omega
    have e2 : ((b ++ ([tag] ++ [129, (body.length : Int)] ++ body ++ r)).drop (b.length + 3)).take body.length = body := by
      have : (b ++ ([tag] ++ [129, (body.length : Int)] ++ body ++ r)) = (b ++ [tag, 129, (body.length : Int)]) ++ (body ++ r) := by simp
      rw [this, List.drop_left' (by simp)]; simp
    generalize hq : b ++ ([tag] ++ [129, (body.length : Int)] ++ body ++ r) = q at *
    rw [getTlv_yes q b.length body.length (b.length + 3) (by omega) (by rw [lenAt_long q (b.length + 1) body.length (by omega) e1 e3, decide_eq_true (by omega), decide_eq_true (by omega)]; rfl) (by omega), e0, e2]
    simp; omega

theorem take_drop_split (z : List Int) (p q : Nat) (h : p ≤ q) : z.drop p = (z.drop p).take (q - p) ++ z.drop q := by
  have : z.drop q = (z.drop p).drop (q - p) := by rw [List.drop_drop]; congr 1; omega
  rw [this, List.take_append_drop]

/-- What is read at a place lies there. -/
theorem tlv_lies {z : List Int} (hz : Byt z) {t k next : Int} {x : List Int} (h : getTlv z t = (k, x, next, true)) :
    ∃ p q : Nat, t = p ∧ next = q ∧ p < q ∧ q ≤ z.length ∧ TlvOk k x ∧ z.drop p = tlvB k x ++ z.drop q := by
  obtain ⟨p, q, rfl, rfl, h1, h2, h3⟩ := tlv_read z hz t k next x h
  have hp : p < z.length := by
    by_cases hp : p < z.length
    · exact hp
    · unfold getTlv at h; rw [if_pos (.inr (by omega))] at h; simp at h
  have hT : TlvOk k x := by
    intro hbad
    have hnil : putTlv [] k x = [] := by unfold putTlv; rw [if_pos hbad]
    rw [hnil] at h3
    have hl : ((z.drop p).take (q - p)).length = 0 := by rw [← h3]; rfl
    simp at hl
    have hpq : p = q := by omega
    subst hpq
    unfold getTlv at h
    rw [if_neg (by omega)] at h
    simp only [Int.toNat_natCast] at h
    split at h
    · rename_i hy
      obtain ⟨n, f, hl', hn, hf, hf1, hf2⟩ := lenAt_ok hz hy.1
      rw [hl'] at h
      simp only [Prod.mk.injEq] at h
      omega
    · cases h
  have h4 : tlvB k x = (z.drop p).take (q - p) := by rw [← h3, put_part hT]; rfl
  have hlt : p < q := by
    have : 0 < (tlvB k x).length := by simp [tlvB]
    rw [h4] at this
    simp at this
    omega
  exact ⟨p, q, rfl, rfl, hlt, h2, hT, by rw [h4]; exact take_drop_split z p q h1⟩

def numB (n : Int) : List Int := tlvB 2 (putInt n)

/-- The next part, which must have this tag: its bytes, the place behind it. -/
def partM (zs : List Int) (t tag : Int) : Option (List Int × Int) :=
  if (getTlv zs t).2.2.2 = true ∧ (getTlv zs t).1 = tag then some ((getTlv zs t).2.1, (getTlv zs t).2.2.1) else none

def numM (zs : List Int) (t : Int) : Option (Int × Int) :=
  match partM zs t 2 with
  | some (b, nx) => if (getInt b).2 = true then some ((getInt b).1, nx) else none
  | none => none

theorem part_some {zs : List Int} {t tag : Int} {b : List Int} {nx : Int} (h : partM zs t tag = some (b, nx)) : getTlv zs t = (tag, b, nx, true) := by
  unfold partM at h
  split at h
  · rename_i hc
    simp only [Option.some.injEq, Prod.mk.injEq] at h
    rcases hg : getTlv zs t with ⟨k, x, n, ok⟩
    rw [hg] at h hc
    obtain ⟨rfl, rfl⟩ := h
    obtain ⟨h1, h2⟩ := hc
    simp at h1 h2
    rw [h1, h2]
  · cases h

theorem part_of {zs : List Int} {t tag : Int} {b : List Int} {nx : Int} (h : getTlv zs t = (tag, b, nx, true)) : partM zs t tag = some (b, nx) := by
  unfold partM; rw [h]; simp

theorem tlvB_len (tag : Int) (body : List Int) : 2 ≤ (tlvB tag body).length := by unfold tlvB lenB; split <;> simp <;> omega

theorem lenB_le (n : Nat) : (lenB n).length ≤ 2 := lenB_length n

theorem byt_of_part {z : List Int} (hz : Byt z) {t k nx : Int} {x : List Int} {ok : Bool} (h : getTlv z t = (k, x, nx, ok)) : Byt x := by
  have := getTlv_byte z t hz; rw [h] at this; exact this

theorem numM_back (pre r : List Int) (n : Int) : numM (pre ++ (numB n ++ r)) pre.length = some (clip n, ((pre.length + (numB n).length : Nat) : Int)) := by
  have h1 := tlv_mid pre 2 (putInt n) r (by have := putInt_length n; unfold TlvOk; omega)
  unfold numM
  rw [show pre ++ (numB n ++ r) = pre ++ (tlvB 2 (putInt n) ++ r) from rfl, part_of h1]
  simp [int_back, numB]

theorem numM_read {z : List Int} (hz : Byt z) {t n nx : Int} (h : numM z t = some (n, nx)) :
    ∃ p q : Nat, t = p ∧ nx = q ∧ p < q ∧ q ≤ z.length ∧ z.drop p = numB n ++ z.drop q := by
  unfold numM at h
  split at h
  · rename_i b nx' hp
    split at h
    · rename_i hi
      simp only [Option.some.injEq, Prod.mk.injEq] at h
      obtain ⟨rfl, rfl⟩ := h
      have hT := part_some hp
      obtain ⟨p, q, rfl, rfl, hpq, hql, hok, hlie⟩ := tlv_lies hz hT
      refine ⟨p, q, rfl, rfl, hpq, hql, ?_⟩
      have hi' : getInt b = ((getInt b).1, true) := Prod.ext rfl hi
      unfold numB
      rw [int_read b (byt_of_part hz hT) _ hi']
      exact hlie
    · cases h
  · cases h

theorem numB_ok (n : Int) : TlvOk 2 (putInt n) := by have := putInt_length n; unfold TlvOk; omega

theorem clip_in {n : Int} (h : -2147483648 ≤ n ∧ n ≤ 2147483647) : clip n = n := by unfold clip; rw [if_neg (by omega), if_neg (by omega)]

theorem numM_some {zs : List Int} {t m nx : Int} (h : numM zs t = some (m, nx)) : ∃ b, getTlv zs t = (2, b, nx, true) ∧ getInt b = (m, true) := by
  unfold numM at h
  split at h
  · rename_i b nx' hp
    split at h
    · rename_i hi
      simp only [Option.some.injEq, Prod.mk.injEq] at h
      obtain ⟨rfl, rfl⟩ := h
      exact ⟨b, part_some hp, Prod.ext rfl hi⟩
    · cases h
  · cases h

theorem numM_none {zs : List Int} {t : Int} (h : numM zs t = none) : partM zs t 2 = none ∨ ∃ b nx m, getTlv zs t = (2, b, nx, true) ∧ getInt b = (m, false) := by
  unfold numM at h
  split at h
  · rename_i b nx' hp
    split at h
    · cases h
    · rename_i hi
      exact .inr ⟨b, nx', (getInt b).1, part_some hp, Prod.ext rfl (by simpa using hi)⟩
  · exact .inl (by assumption)

theorem tlv_short {zs : List Int} (hz : Byt zs) {t k nx : Int} {b : List Int} (h : getTlv zs t = (k, b, nx, true)) : b.length ≤ 250 := by
  obtain ⟨_, _, _, _, _, _, hT, _⟩ := tlv_lies hz h
  unfold TlvOk at hT
  omega

end Go.Proofs.YtamglfhnhjgdjaaGreatDoor
