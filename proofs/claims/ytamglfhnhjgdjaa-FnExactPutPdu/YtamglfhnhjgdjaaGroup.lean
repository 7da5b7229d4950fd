/-
  A number in groups of seven bits, by contracts: the specification's and the program's.
-/
import Derived.Test.YtamglfhnhjgdjaaPieces
import Derived.Test.YtamglfhnhjgdjaaOidMath
namespace Go.Proofs.Ytamglfhnhjgdjaa
open Go.RowKit

theorem and127 (x : Int) : bits .and .i64 x 127 = x % 128 := by
  have e1 : (BitVec.ofInt 64 x).toNat = (x % 18446744073709551616).toNat := by
    rw [BitVec.toNat_ofInt]
    have : ((2 ^ 64 : Nat) : Int) = 18446744073709551616 := by decide
    rw [this]
  have e2 : (BitVec.ofInt 64 127).toNat = 2 ^ 7 - 1 := by decide
  have e3 : ((BitVec.ofInt 64 x) &&& (BitVec.ofInt 64 127)).toNat = (x % 18446744073709551616).toNat % 2 ^ 7 := by
    rw [BitVec.toNat_and, e1, e2, Nat.and_two_pow_sub_one_eq_mod]
  show IntKind.i64.wrap (((BitVec.ofInt 64 x) &&& (BitVec.ofInt 64 127)).toNat : Int) = _
  rw [e3, IntKind.wrap_i64]
  simp only [Nat.reducePow]
  omega

theorem and127b (x : Int) (h : 0 ≤ x ∧ x ≤ 255) : bits .and .u8 x 127 = x % 128 := by
  have e1 : (BitVec.ofInt 8 x).toNat = x.toNat := by
    rw [BitVec.toNat_ofInt]
    have : ((2 ^ 8 : Nat) : Int) = 256 := by decide
    rw [this]; omega
  have e2 : (BitVec.ofInt 8 127).toNat = 2 ^ 7 - 1 := by decide
  have e3 : ((BitVec.ofInt 8 x) &&& (BitVec.ofInt 8 127)).toNat = x.toNat % 2 ^ 7 := by
    rw [BitVec.toNat_and, e1, e2, Nat.and_two_pow_sub_one_eq_mod]
  show IntKind.u8.wrap (((BitVec.ofInt 8 x) &&& (BitVec.ofInt 8 127)).toNat : Int) = _
  rw [e3]
  simp only [Nat.reducePow, IntKind.wrap, IntKind.bits, IntKind.signed]
  simp
  omega

theorem or128 (x : Int) (h : 0 ≤ x ∧ x < 128) : bits .or .i64 x 128 = x + 128 := by
  have e1 : (BitVec.ofInt 64 x).toNat = x.toNat := by
    rw [BitVec.toNat_ofInt]
    have : ((2 ^ 64 : Nat) : Int) = 18446744073709551616 := by decide
    rw [this]; omega
  have e2 : (BitVec.ofInt 64 128).toNat = 2 ^ 7 * 1 := by decide
  have e3 : ((BitVec.ofInt 64 x) ||| (BitVec.ofInt 64 128)).toNat = 2 ^ 7 * 1 + x.toNat := by
    rw [BitVec.toNat_or, e1, e2, Nat.or_comm, Nat.two_pow_add_eq_or_of_lt (by omega)]
  show IntKind.i64.wrap (((BitVec.ofInt 64 x) ||| (BitVec.ofInt 64 128)).toNat : Int) = _
  rw [e3, IntKind.wrap_i64]
  simp only [Nat.reducePow]
  omega

theorem or_group (n x : Int) (hn : 0 ≤ n ∧ n ≤ 36028797018963967) (hx : 0 ≤ x ∧ x < 128) : bits .or .i64 (n * 128) x = n * 128 + x := by
  have e1 : (BitVec.ofInt 64 (n * 128)).toNat = 2 ^ 7 * n.toNat := by
    rw [BitVec.toNat_ofInt]
    have : ((2 ^ 64 : Nat) : Int) = 18446744073709551616 := by decide
    rw [this]; omega
  have e2 : (BitVec.ofInt 64 x).toNat = x.toNat := by
    rw [BitVec.toNat_ofInt]
    have : ((2 ^ 64 : Nat) : Int) = 18446744073709551616 := by decide
    rw [this]; omega
  have e3 : ((BitVec.ofInt 64 (n * 128)) ||| (BitVec.ofInt 64 x)).toNat = 2 ^ 7 * n.toNat + x.toNat := by
    rw [BitVec.toNat_or, e1, e2, Nat.two_pow_add_eq_or_of_lt (by omega)]
  show IntKind.i64.wrap (((BitVec.ofInt 64 (n * 128)) ||| (BitVec.ofInt 64 x)).toNat : Int) = _
  rw [e3, IntKind.wrap_i64]
  simp only [Nat.reducePow]
  omega

/-- What is laid of a number's groups, and what is left of it: x. -/
def Laid (x : Int) (zs R : List Int) : Prop := more x.toNat ++ zs = R

theorem laid_start (n : Int) (h : 0 ≤ n) : Laid n [n % 128] (groups n.toNat) := by
  have : ((n.toNat % 128 : Nat) : Int) = n % 128 := by omega
  simp only [Laid, groups, this]

theorem laid_step {x : Int} {zs R : List Int} (h : Laid x zs R) (h1 : 127 < x) : Laid (x / 128) ((x / 128 % 128 + 128) :: zs) R := by
  unfold Laid at *
  rw [← h, more_ge (n := x.toNat) (by omega), List.append_assoc]
  have e1 : (x / 128).toNat = x.toNat / 128 := by omega
  have e2 : ((x.toNat / 128 % 128 + 128 : Nat) : Int) = x / 128 % 128 + 128 := by omega
  rw [e1, e2]
  rfl

theorem laid_end {x : Int} {zs R : List Int} (h : Laid x zs R) (h1 : ¬ 127 < x) : zs = R := by
  unfold Laid at h
  rw [more_lt (by omega)] at h
  simpa using h

theorem byte_group (x : Int) : Byt [x % 128] := by
  intro z hz; simp at hz; subst hz; omega

theorem gbyte_cons {x : Int} {zs : List Int} (h : 0 ≤ x ∧ x ≤ 255) (hz : Byt zs) : Byt (x :: zs) := by
  intro z h2
  rcases List.mem_cons.1 h2 with rfl | h2
  · exact h
  · exact hz z h2

theorem grow_one (w : World) (b : Int) (h : 0 ≤ b ∧ b ≤ 255) : Row (w.alloc (.cells #[.int .u8 b] 5)) (some ⟨w.heap.size, 0, none⟩) 1 1 [b] where
  size := rfl
  le := Nat.le_refl _
  top := by unfold maxLen; omega
  nil := by intro h; cases h
  byte := by intro z hz; simp at hz; subst hz; exact h
  cell := .inr ⟨w.heap.size, 0, rfl, fun i hi => by
    obtain rfl : i = 0 := by omega
    simp⟩

set_option maxRecDepth 100000 in
set_option maxHeartbeats 400000 in
theorem specGroup_any (n : Int) (w : World) (h0 : 0 ≤ n) (h1 : n < 268435456) : Calls Try.prog 73 #[.int .i64 n] w fun e w' => ∃ v, e = .returned v ∧
    w'.ownsRow w.heap.size 5 1 v (groups n.toNat).length (cB (groups n.toNat)) ∧ Below w.heap.size w w' := by
  obtain ⟨i0, hi, hz0, hz1, hz2⟩ := info_parts Try.infoU8
  have hst := laid_start n h0
  have hL := groups_four (n := n.toNat) (by omega)
  generalize hR : groups n.toNat = R at hst hL
  have HST := hide hst
  clear hst hR
  have a1 := and127 n
  go_enter Try.func73, Try.ntmps73
  go_wp2
  go_loopw [0, 3] (fun m v wr => ∃ (x : Int) (zs : List Int), 0 ≤ x ∧ x < 268435456 ∧ m = .int .i64 x ∧ Laid x zs R ∧ Byt zs ∧ 1 ≤ zs.length ∧ zs.length ≤ R.length ∧ wr.ownsRow w.heap.size 5 1 v zs.length (cB zs) ∧ Below w.heap.size w wr) (fun m _ _ => (intOf m).natAbs)
  case atStart => exact ⟨n, _, h0, h1, rfl, HST.out, byte_group _, by simp, by have := HST.out; unfold Laid at this; rw [← this]; simp, World.ownsRow_lit w #[.int .u8 (n % 128)] 1 (Nat.le_refl _) (by unfold maxLen; omega) rfl, (Below.refl _ _).alloc (Nat.le_refl _) _⟩
  case round =>
    obtain ⟨x, zs, hx1, hx2, rfl, hr, hby, hl1, hlen, how, hb⟩ := hrel
    clear a1
    obtain ⟨ao, cp, rfl, hrow⟩ := row_of_own how hby
    rcases hrow.cell with h0 | ⟨b, off, rfl, hc0⟩
    · omega
    by_cases hc : 127 < x
    · have hbw := hb.size
      have HG := hide (laid_step hr hc)
      have hlen2 : ((x / 128 % 128 + 128) :: zs).length ≤ R.length := by have := HG.out; unfold Laid at this; rw [← this]; simp
      have a1 := and127 (x / 128)
      have a2 := or128 (x / 128 % 128) (by omega)
      clear hr HST
      go_wp2_with (at_builtin; refine wpList_append_own _ rfl _ _ 37 rfl w.heap.size 5 i0 (.int .u8 0) 1 1 Try.underlying37 hi hz0 hz1 hz2 rfl (by decide) _ 1 _ rfl (World.ownsRow_lit wr #[_] 1 (by omega) (by unfold maxLen; omega) rfl) ⟨b, off, none⟩ zs.length cp (cB zs) rfl ?c0b ?c1b ?c2b ?c3b ?c4b ?c5b ?_)
      case c0b => rw [cB_length]; omega
      case c1b => exact fun j u hu => (hrow.below ((Below.refl _ _).alloc (Nat.le_refl _) _)).news _ rfl j u hu
      case c2b => exact cB_oneCell zs
      case c3b => unfold maxLen; omega
      case c4b => omega
      case c5b => simp; omega
      intro v1 w1 how1 hgr1 _
      have hb1 : Below w.heap.size w w1 := (hb.alloc hbw _).grown hgr1 (by simp; omega) (by intro k hk; cases hk; exact hbw)
      have how2 : w1.ownsRow w.heap.size 5 1 v1 ((x / 128 % 128 + 128) :: zs).length (cB ((x / 128 % 128 + 128) :: zs)) := by
        rw [List.length_cons, Nat.add_comm]; exact how1
      clear how1 hgr1 how hb hrow hc0
      go_wp2
      go_roundw
      case rel => exact ⟨x / 128, _, by omega, by omega, rfl, HG.out, gbyte_cons (by omega) hby, by simp, hlen2, how2, hb1⟩
      case measure => simp [intOf]; omega
    · have hz := laid_end hr hc
      subst hz
      clear hr HST
      go_wp2
      go_ret
      exact ⟨_, rfl, how, hb⟩

set_option maxRecDepth 100000 in
set_option maxHeartbeats 400000 in
theorem implGroup_any (n : Int) (w : World) (h0 : 0 ≤ n) (h1 : n < 268435456) : Calls Try.prog 70 #[.int .i64 n] w fun e w' => ∃ v, e = .returned v ∧
    w'.ownsRow w.heap.size 5 1 v (groups n.toNat).length (cB (groups n.toNat)) ∧ Below w.heap.size w w' := by
  have hst := laid_start n h0
  have hL := groups_four (n := n.toNat) (by omega)
  generalize hR : groups n.toNat = R at hst hL
  have HST := hide hst
  clear hst hR
  have a1 := and127 n
  go_enter Try.func70, Try.ntmps70
  go_wp2
  go_loopw [0, 3] (fun m v wr => ∃ (x : Int) (zs : List Int), 0 ≤ x ∧ x < 268435456 ∧ m = .int .i64 (x / 128) ∧ Laid x zs R ∧ Byt zs ∧ 1 ≤ zs.length ∧ zs.length ≤ R.length ∧ wr.ownsRow w.heap.size 5 1 v zs.length (cB zs) ∧ Below w.heap.size w wr) (fun m _ _ => (intOf m).natAbs)
  case atStart => exact ⟨n, _, h0, h1, rfl, HST.out, byte_group _, by simp, by have := HST.out; unfold Laid at this; rw [← this]; simp, World.ownsRow_lit w #[.int .u8 (n % 128)] 1 (Nat.le_refl _) (by unfold maxLen; omega) rfl, (Below.refl _ _).alloc (Nat.le_refl _) _⟩
  case round =>
    obtain ⟨x, zs, hx1, hx2, rfl, hr, hby, hl1, hlen, how, hb⟩ := hrel
    clear a1
    obtain ⟨ao, cp, rfl, hrow⟩ := row_of_own how hby
    by_cases hc : 127 < x
    · have hbw := hb.size
      have HG := hide (laid_step hr hc)
      have hlen2 : ((x / 128 % 128 + 128) :: zs).length ≤ R.length := by have := HG.out; unfold Laid at this; rw [← this]; simp
      have a1 := and127 (x / 128)
      have a2 := or128 (x / 128 % 128) (by omega)
      have hpos : 0 < x / 128 := by omega
      clear hr HST
      go_wp2_with fail
      refine (pieces_any _ _ _ [x / 128 % 128 + 128] _ _ _ [⟨ao, zs.length, cp, zs⟩] _ ?_ ?_ ?_).mono ?_
      · exact (grow_one wr _ (by omega)).below ((Below.refl _ _).alloc (Nat.le_refl _) _)
      · exact pieces_lit _ _ [⟨ao, zs.length, cp, zs⟩] 1 _ (by simp) rfl (by omega) (fun i hi => by obtain rfl : i = 0 := by omega
                                                                                                    exact hrow.below ((Below.refl _ _).alloc (Nat.le_refl _) _))
      · simp [tot]; omega
      rintro e w1 ⟨rfl, how1, hb1⟩
      have hbn : Below w.heap.size w w1 := ((hb.alloc hbw _).alloc (by simp; omega) _).trans (hb1.mono (by simp; omega))
      have how2 : w1.ownsRow w.heap.size 5 1 (.slice (some ⟨wr.heap.size + 1 + 1, 0, none⟩) (1 + zs.length) (1 + zs.length)) ((x / 128 % 128 + 128) :: zs).length (cB ((x / 128 % 128 + 128) :: zs)) := by
        have := own_lt how1 (base' := w.heap.size) (by simp; omega)
        simpa [tot, flat, Nat.add_comm] using this
      clear how1 hb1 how hb hrow
      go_wp2
      go_roundw
      case rel => exact ⟨x / 128, _, by omega, by omega, rfl, HG.out, gbyte_cons (by omega) hby, by simp, hlen2, how2, hbn⟩
      case measure => simp [intOf]; omega
    · have hz := laid_end hr hc
      subst hz
      have hpos : ¬ 0 < x / 128 := by omega
      clear hr HST
      go_wp2
      go_ret
      exact ⟨_, rfl, how, hb⟩

theorem groups_byt (n : Nat) : Byt (groups n) := groups_byte n

theorem specGroup_made (n : Int) (P : List Int) (hP : groups n.toNat = P) (w : World) (h0 : 0 ≤ n) (h1 : n < 268435456) : Calls Try.prog 73 #[.int .i64 n] w fun e w' => ∃ ao cap, e = .returned (.slice ao P.length cap) ∧
    w'.ownsRow w.heap.size 5 1 (.slice ao P.length cap) P.length (cB P) ∧ Row w' ao P.length cap P ∧ Below w.heap.size w w' := by
  subst hP
  refine (specGroup_any n w h0 h1).mono ?_
  rintro e w' ⟨v, rfl, ho, hb⟩
  obtain ⟨ao, cap, rfl, hr⟩ := row_of_own ho (groups_byt _)
  exact ⟨ao, cap, rfl, ho, hr, hb⟩

theorem implGroup_made (n : Int) (P : List Int) (hP : groups n.toNat = P) (w : World) (h0 : 0 ≤ n) (h1 : n < 268435456) : Calls Try.prog 70 #[.int .i64 n] w fun e w' => ∃ ao cap, e = .returned (.slice ao P.length cap) ∧
    w'.ownsRow w.heap.size 5 1 (.slice ao P.length cap) P.length (cB P) ∧ Row w' ao P.length cap P ∧ Below w.heap.size w w' := by
  subst hP
  refine (implGroup_any n w h0 h1).mono ?_
  rintro e w' ⟨v, rfl, ho, hb⟩
  obtain ⟨ao, cap, rfl, hr⟩ := row_of_own ho (groups_byt _)
  exact ⟨ao, cap, rfl, ho, hr, hb⟩

end Go.Proofs.Ytamglfhnhjgdjaa
