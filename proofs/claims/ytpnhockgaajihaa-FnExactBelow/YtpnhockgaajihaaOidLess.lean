/-
  The order of names, by contracts: the specification's, the library's slices.Compare at ints, the program's; and what is below a name.
-/
import Derived.Test.YtpnhockgaajihaaOidSame
import Derived.Test.YtpnhockgaajihaaOidMath
namespace Go.Proofs.Ytpnhockgaajihaa
open Go.RowKit

theorem IRow.take {w : World} {ao : Option Addr} {n c : Nat} {zs : List Int} (h : IRow w ao n c zs) (k : Nat) (hk : k ≤ n) : IRow w ao k c (zs.take k) where
  size := by have := h.size; simp; omega
  le := by have := h.le; omega
  top := h.top
  nil := h.nil
  byte := fun z hz => h.byte z (List.mem_of_mem_take hz)
  cell := by
    rcases h.cell with h0 | ⟨b, off, ha, hc⟩
    · exact .inl (by omega)
    · exact .inr ⟨b, off, ha, fun i hi => by rw [hc i (by omega)]; simp [List.getD_eq_getElem?_getD, hi]⟩

theorem nan_any (x : Int) (w : World) :
    Calls Try.prog 42 #[.int .i64 x] w fun e w' => e = .returned (.bool false) ∧ w' = w := by
  go_enter Try.func42, Try.ntmps42
  go_wp2
  go_ret
  exact ⟨by simp, rfl⟩

theorem cmp_lt (x y : Int) (w : World) (h : x < y) :
    Calls Try.prog 38 #[.int .i64 x, .int .i64 y] w fun e w' => e = .returned (.int .i64 (-1)) ∧ w' = w := by
  go_enter Try.func38, Try.ntmps38
  go_wp2_with fail
  refine (nan_any x _).mono ?_
  rintro e w1 ⟨rfl, rfl⟩
  go_wp2_with fail
  refine (nan_any y _).mono ?_
  rintro e w1 ⟨rfl, rfl⟩
  go_wp2
  go_ret
  exact ⟨rfl, rfl⟩

theorem cmp_gt (x y : Int) (w : World) (h : y < x) :
    Calls Try.prog 38 #[.int .i64 x, .int .i64 y] w fun e w' => e = .returned (.int .i64 1) ∧ w' = w := by
  have h' : ¬ x < y := by omega
  go_enter Try.func38, Try.ntmps38
  go_wp2_with fail
  refine (nan_any x _).mono ?_
  rintro e w1 ⟨rfl, rfl⟩
  go_wp2_with fail
  refine (nan_any y _).mono ?_
  rintro e w1 ⟨rfl, rfl⟩
  go_wp2
  go_ret
  exact ⟨rfl, rfl⟩

theorem cmp_eq (x : Int) (w : World) :
    Calls Try.prog 38 #[.int .i64 x, .int .i64 x] w fun e w' => e = .returned (.int .i64 0) ∧ w' = w := by
  go_enter Try.func38, Try.ntmps38
  go_wp2_with fail
  refine (nan_any x _).mono ?_
  rintro e w1 ⟨rfl, rfl⟩
  go_wp2_with fail
  refine (nan_any x _).mono ?_
  rintro e w1 ⟨rfl, rfl⟩
  go_wp2
  go_ret
  exact ⟨rfl, rfl⟩

set_option maxRecDepth 100000 in
set_option maxHeartbeats 1000000 in
theorem compare_any (a1 : Option Addr) (l1 c1 : Nat) (z1 : List Int) (a2 : Option Addr) (l2 c2 : Nat) (z2 : List Int) (w : World) (h1 : IRow w a1 l1 c1 z1) (h2 : IRow w a2 l2 c2 z2) :
    Calls Try.prog 28 #[.slice a1 l1 c1, .slice a2 l2 c2] w fun e w' => ∃ c : Int, e = .returned (.int .i64 c) ∧ lessL z1 z2 = decide (c < 0) ∧ w' = w := by
  have m1 := h1.top; have m2 := h2.top; have s1 := h1.size; have s2 := h2.size; have e1 := h1.le; have e2 := h2.le
  unfold maxLen at m1 m2
  have hc1 := h1.cell
  have hc2 := h2.cell
  clear h1 h2
  go_enter Try.func28, Try.ntmps28
  go_wp2
  go_loop [11] (fun i => ∃ k : Nat, k ≤ l1 ∧ k ≤ l2 ∧ i = .int .i64 k ∧ z1.take k = z2.take k) (fun i => l1 - (intOf i).toNat)
  case atStart => exact ⟨0, Nat.zero_le _, Nat.zero_le _, rfl, rfl⟩
  case round =>
    obtain ⟨k, hk, hk2, rfl, ht⟩ := hrel
    have HT := hide ht
    clear ht
    by_cases hlt : k < l1
    · rcases hc1 with h0 | ⟨b, off, rfl, hc⟩
      · omega
      have cx := hc k hlt
      clear hc
      by_cases hl2 : k < l2
      · rcases hc2 with h0 | ⟨b2, off2, rfl, hc⟩
        · omega
        have cy := hc k hl2
        clear hc
        generalize hx : z1.getD k 0 = x at cx
        generalize hy : z2.getD k 0 = y at cy
        have HX := hide hx
        have HY := hide hy
        clear hx hy
        by_cases hq : x = y
        · subst hq
          go_wp2_with fail
          refine (cmp_eq x _).mono ?_
          rintro e w1 ⟨rfl, rfl⟩
          go_wp2
          go_round
          case rel => exact ⟨k + 1, by omega, by omega, by go_num, by rw [take_succ_getD _ _ (by omega), take_succ_getD _ _ (by omega), HT.out, HX.out, HY.out]⟩
          case measure => simp [intOf]; omega
        · have HL : Hid (lessL z1 z2 = decide (x < y)) := by
            rw [← HX.out, ← HY.out]
            exact less_at k z1 z2 HT.out (by omega) (by omega) (by rw [HX.out, HY.out]; exact hq)
          by_cases hq2 : x < y
          · go_wp2_with fail
            refine (cmp_lt x y _ hq2).mono ?_
            rintro e w1 ⟨rfl, rfl⟩
            go_wp2
            go_ret
            exact ⟨-1, rfl, by rw [HL.out, decide_eq_true hq2]; rfl, rfl⟩
          · go_wp2_with fail
            refine (cmp_gt x y _ (by omega)).mono ?_
            rintro e w1 ⟨rfl, rfl⟩
            go_wp2
            go_ret
            exact ⟨1, rfl, by rw [HL.out, decide_eq_false (by omega)]; rfl, rfl⟩
      · go_wp2
        go_ret
        exact ⟨1, rfl, by rw [less_end k z1 z2 HT.out (by omega) (by omega) (.inr (by omega)), decide_eq_false (by omega)]; rfl, rfl⟩
    · have HL : Hid (lessL z1 z2 = decide (l1 < l2)) := by
        have := less_end k z1 z2 HT.out (by omega) (by omega) (.inl (by omega))
        rw [s1, s2] at this
        exact this
      by_cases hq : l1 < l2
      · go_wp2
        go_ret
        exact ⟨-1, rfl, by rw [HL.out, decide_eq_true hq]; rfl, rfl⟩
      · go_wp2
        go_ret
        exact ⟨0, rfl, by rw [HL.out, decide_eq_false hq]; rfl, rfl⟩

set_option maxRecDepth 100000 in
set_option maxHeartbeats 400000 in
theorem implLess_any (a1 : Option Addr) (l1 c1 : Nat) (z1 : List Int) (a2 : Option Addr) (l2 c2 : Nat) (z2 : List Int) (w : World) (h1 : IRow w a1 l1 c1 z1) (h2 : IRow w a2 l2 c2 z2) :
    Calls Try.prog 10 #[.slice a1 l1 c1, .slice a2 l2 c2] w fun e w' => e = .returned (.bool (lessL z1 z2)) ∧ w' = w := by
  go_enter Try.func10, Try.ntmps10
  go_wp2_with fail
  refine (compare_any _ _ _ z1 _ _ _ z2 _ h1 h2).mono ?_
  rintro e w1 ⟨c, rfl, hc, rfl⟩
  have HC := hide hc
  clear hc
  go_wp2
  go_ret
  exact ⟨ret_bool HC.out.symm, rfl⟩

set_option maxRecDepth 100000 in
set_option maxHeartbeats 1000000 in
theorem specLess_any (a1 : Option Addr) (l1 c1 : Nat) (z1 : List Int) (a2 : Option Addr) (l2 c2 : Nat) (z2 : List Int) (w : World) (h1 : IRow w a1 l1 c1 z1) (h2 : IRow w a2 l2 c2 z2) :
    Calls Try.prog 20 #[.slice a1 l1 c1, .slice a2 l2 c2] w fun e w' => e = .returned (.bool (lessL z1 z2)) ∧ ∃ n, w' = w.drewN n := by
  have m1 := h1.top; have m2 := h2.top; have s1 := h1.size; have s2 := h2.size; have e1 := h1.le; have e2 := h2.le
  unfold maxLen at m1 m2
  have hc1 := h1.cell
  have hc2 := h2.cell
  clear h1 h2
  go_enter Try.func20, Try.ntmps20
  go_wp2
  go_loopw [5] (fun i wr => ∃ k : Nat, k ≤ l1 ∧ k ≤ l2 ∧ i = .int .i64 k ∧ z1.take k = z2.take k ∧ ∃ n, wr = w.drewN n) (fun i _ => l1 - (intOf i).toNat)
  case atStart => exact ⟨0, Nat.zero_le _, Nat.zero_le _, rfl, rfl, 0, rfl⟩
  case round =>
    obtain ⟨k, hk, hk2, rfl, ht, n, rfl⟩ := hrel
    have HT := hide ht
    clear ht
    by_cases hlt : k < l1
    · rcases hc1 with h0 | ⟨b, off, rfl, hc⟩
      · omega
      have cx := hc k hlt
      clear hc
      by_cases hl2 : k < l2
      · rcases hc2 with h0 | ⟨b2, off2, rfl, hc⟩
        · omega
        have cy := hc k hl2
        clear hc
        generalize hx : z1.getD k 0 = x at cx
        generalize hy : z2.getD k 0 = y at cy
        have HX := hide hx
        have HY := hide hy
        clear hx hy
        by_cases hq : x = y
        · subst hq
          go_wp2
          go_quiet (fail)
          go_wp2
          go_roundw
          case rel => exact ⟨k + 1, by omega, by omega, by go_num, by rw [take_succ_getD _ _ (by omega), take_succ_getD _ _ (by omega), HT.out, HX.out, HY.out], _, rfl⟩
          case measure => simp [intOf]; omega
        · have HL : Hid (lessL z1 z2 = decide (x < y)) := by
            rw [← HX.out, ← HY.out]
            exact less_at k z1 z2 HT.out (by omega) (by omega) (by rw [HX.out, HY.out]; exact hq)
          have hne : (x != y) = true := by simp [hq]
          go_wp2
          go_quiet (fail)
          go_wp2
          go_quiet (fail)
          go_wp2
          go_ret
          exact ⟨ret_bool HL.out.symm, _, by rw [World.drewN_drewN, World.drewN_drewN]⟩
      · go_wp2
        go_ret
        exact ⟨ret_bool (by rw [less_end k z1 z2 HT.out (by omega) (by omega) (.inr (by omega)), s1, s2, Bool.eq_iff_iff]), _, rfl⟩
    · go_wp2
      go_ret
      exact ⟨ret_bool (by rw [less_end k z1 z2 HT.out (by omega) (by omega) (.inl (by omega)), s1, s2, Bool.eq_iff_iff]), _, rfl⟩

theorem below_no {z1 z2 : List Int} (h : ¬ z2.length < z1.length) : belowL z1 z2 = false := by simp [belowL]; omega
theorem below_is {z1 z2 : List Int} (h : z2.length < z1.length) : belowL z1 z2 = decide (z1.take z2.length = z2) := by simp [belowL, h]

set_option maxRecDepth 100000 in
set_option maxHeartbeats 400000 in
theorem implBelow_any (a1 : Option Addr) (l1 c1 : Nat) (z1 : List Int) (a2 : Option Addr) (l2 c2 : Nat) (z2 : List Int) (w : World) (h1 : IRow w a1 l1 c1 z1) (h2 : IRow w a2 l2 c2 z2) :
    Calls Try.prog 13 #[.slice a1 l1 c1, .slice a2 l2 c2] w fun e w' => e = .returned (.bool (belowL z1 z2)) ∧ ∃ n, w' = w.drewN n := by
  have s1 := h1.size; have s2 := h2.size; have e1 := h1.le; have m1 := h1.top
  unfold maxLen at m1
  by_cases hl : l2 < l1
  · have ht := h1.take l2 (by omega)
    have hq := below_is (z1 := z1) (z2 := z2) (by omega)
    rw [s2] at hq
    have HQ := hide hq
    clear hq
    rcases h1.cell with h0 | ⟨b, off, rfl, hc⟩
    · omega
    clear hc h1
    go_enter Try.func13, Try.ntmps13
    go_wp2_with fail
    refine (implSame_any _ _ _ (z1.take l2) _ _ _ z2 _ ht h2).mono ?_
    rintro e w1 ⟨rfl, n, rfl⟩
    go_wp2
    go_ret
    exact ⟨ret_bool HQ.out.symm, n, rfl⟩
  · have HQ := hide (below_no (z1 := z1) (z2 := z2) (by omega))
    go_enter Try.func13, Try.ntmps13
    go_wp2
    go_ret
    exact ⟨ret_bool HQ.out.symm, 0, rfl⟩

set_option maxRecDepth 100000 in
set_option maxHeartbeats 400000 in
theorem specBelow_any (a1 : Option Addr) (l1 c1 : Nat) (z1 : List Int) (a2 : Option Addr) (l2 c2 : Nat) (z2 : List Int) (w : World) (h1 : IRow w a1 l1 c1 z1) (h2 : IRow w a2 l2 c2 z2) :
    Calls Try.prog 15 #[.slice a1 l1 c1, .slice a2 l2 c2] w fun e w' => e = .returned (.bool (belowL z1 z2)) ∧ ∃ n, w' = w.drewN n := by
  have s1 := h1.size; have s2 := h2.size; have e1 := h1.le; have m1 := h1.top
  unfold maxLen at m1
  by_cases hl : l2 < l1
  · have ht := h1.take l2 (by omega)
    have hq := below_is (z1 := z1) (z2 := z2) (by omega)
    rw [s2] at hq
    have HQ := hide hq
    clear hq
    rcases h1.cell with h0 | ⟨b, off, rfl, hc⟩
    · omega
    clear hc h1
    go_enter Try.func15, Try.ntmps15
    go_wp2_with fail
    refine (specSame_any _ _ _ (z1.take l2) _ _ _ z2 _ ht h2).mono ?_
    rintro e w1 ⟨rfl, n, rfl⟩
    go_wp2
    go_ret
    exact ⟨ret_bool HQ.out.symm, n, rfl⟩
  · have HQ := hide (below_no (z1 := z1) (z2 := z2) (by omega))
    go_enter Try.func15, Try.ntmps15
    go_wp2
    go_ret
    exact ⟨ret_bool HQ.out.symm, 0, rfl⟩

end Go.Proofs.Ytpnhockgaajihaa
