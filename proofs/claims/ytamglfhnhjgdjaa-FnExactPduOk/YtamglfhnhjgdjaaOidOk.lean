/-
  Whether a name is right, by contracts: the specification's and the program's.
-/
import Derived.Test.YtamglfhnhjgdjaaIHelp
import Derived.Test.YtamglfhnhjgdjaaOidMath
namespace Go.Proofs.Ytamglfhnhjgdjaa
open Go.RowKit

set_option maxRecDepth 100000 in
set_option maxHeartbeats 400000 in
theorem in_any (x lo hi : Int) (w : World) :
    Calls Try.prog 26 #[.int .i64 x, .int .i64 lo, .int .i64 hi] w fun e w' => e = .returned (.bool (decide (lo ≤ x) && decide (x ≤ hi))) ∧ w' = w := by
  by_cases h1 : lo ≤ x
  · go_enter Try.func26, Try.ntmps26
    go_wp2
    go_ret
    exact ⟨ret_bool (by simp [h1]), rfl⟩
  · go_enter Try.func26, Try.ntmps26
    go_wp2
    go_ret
    exact ⟨ret_bool (by rw [decide_eq_false (show ¬ lo ≤ x by omega)]; rfl), rfl⟩

theorem all_succ (zs : List Int) (k : Nat) (h : k < zs.length) (hk : (zs.take k).all okN = true) (hz : okN (zs.getD k 0) = true) : (zs.take (k + 1)).all okN = true := by
  rw [take_succ_getD _ _ h, List.all_append, hk]; simpa using hz

theorem ok_no {zs : List Int} {k : Nat} (h : k < zs.length) (hz : okN (zs.getD k 0) = false) : oidOk zs = false := by
  have hm : zs.getD k 0 ∈ zs := by rw [List.getD_eq_getElem?_getD, List.getElem?_eq_getElem h]; exact List.getElem_mem h
  have : zs.all okN = false := by
    rw [Bool.eq_false_iff]
    intro ha
    rw [List.all_eq_true] at ha
    rw [ha _ hm] at hz
    cases hz
  simp [oidOk, this]

theorem ok_end {zs : List Int} {k : Nat} (h : k = zs.length) (hk : (zs.take k).all okN = true) : oidOk zs = decide (1 ≤ zs.length ∧ zs.length ≤ 10) := by
  subst h; rw [List.take_length] at hk; simp [oidOk, hk]

set_option maxRecDepth 100000 in
set_option maxHeartbeats 400000 in
theorem specOk_any (a1 : Option Addr) (l1 c1 : Nat) (z1 : List Int) (w : World) (h1 : IRow w a1 l1 c1 z1) :
    Calls Try.prog 22 #[.slice a1 l1 c1] w fun e w' => e = .returned (.bool (oidOk z1)) ∧ w' = w := by
  have m1 := h1.top; have s1 := h1.size; have e1 := h1.le
  unfold maxLen at m1
  have hcell := h1.cell
  clear h1
  go_enter Try.func22, Try.ntmps22
  go_wp2
  go_loop [3] (fun i => ∃ k : Nat, k ≤ l1 ∧ i = .int .i64 k ∧ (z1.take k).all okN = true) (fun i => l1 - (intOf i).toNat)
  case atStart => exact ⟨0, Nat.zero_le _, rfl, rfl⟩
  case round =>
    obtain ⟨k, hk, rfl, ht⟩ := hrel
    have HT := hide ht
    clear ht
    by_cases hlt : k < l1
    · rcases hcell with h0 | ⟨b, off, rfl, hc⟩
      · omega
      have cx := hc k hlt
      generalize hx : z1.getD k 0 = x at cx
      have HX := hide hx
      clear hx hc
      by_cases hq : 0 ≤ x ∧ x ≤ 100000
      · go_wp2_with fail
        refine (in_any x 0 100000 _).mono ?_
        rintro e w1 ⟨rfl, rfl⟩
        rw [decide_eq_true hq.1, decide_eq_true hq.2]
        go_wp2
        go_round
        case rel => exact ⟨k + 1, by omega, by go_num, all_succ _ _ (by omega) HT.out (by rw [HX.out]; unfold okN; exact decide_eq_true hq)⟩
        case measure => simp [intOf]; omega
      · go_wp2_with fail
        refine (in_any x 0 100000 _).mono ?_
        rintro e w1 ⟨rfl, rfl⟩
        rw [show (decide ((0 : Int) ≤ x) && decide (x ≤ 100000)) = false by rw [← Bool.decide_and]; exact decide_eq_false hq]
        go_wp2
        go_ret
        exact ⟨ret_bool (ok_no (k := k) (by omega) (by rw [HX.out]; unfold okN; exact decide_eq_false hq)).symm, rfl⟩
    · go_wp2_with fail
      refine (in_any l1 1 10 _).mono ?_
      rintro e w1 ⟨rfl, rfl⟩
      go_wp2
      go_ret
      refine ⟨ret_bool ?_, rfl⟩
      rw [ok_end (k := k) (by omega) HT.out, s1, Bool.eq_iff_iff]
      simp
      omega

set_option maxRecDepth 100000 in
set_option maxHeartbeats 400000 in
theorem implOk_any (a1 : Option Addr) (l1 c1 : Nat) (z1 : List Int) (w : World) (h1 : IRow w a1 l1 c1 z1) :
    Calls Try.prog 63 #[.slice a1 l1 c1] w fun e w' => e = .returned (.bool (oidOk z1)) ∧ w' = w := by
  have m1 := h1.top; have s1 := h1.size; have e1 := h1.le
  unfold maxLen at m1
  have hcell := h1.cell
  clear h1
  go_enter Try.func63, Try.ntmps63
  go_wp2
  go_loop [7] (fun i => ∃ k : Nat, k ≤ l1 ∧ i = .int .i64 k ∧ (z1.take k).all okN = true) (fun i => l1 - (intOf i).toNat)
  case atStart => exact ⟨0, Nat.zero_le _, rfl, rfl⟩
  case round =>
    obtain ⟨k, hk, rfl, ht⟩ := hrel
    have HT := hide ht
    clear ht
    by_cases hlt : k < l1
    · rcases hcell with h0 | ⟨b, off, rfl, hc⟩
      · omega
      have cx := hc k hlt
      generalize hx : z1.getD k 0 = x at cx
      have HX := hide hx
      clear hx hc
      by_cases hn : x < 0
      · go_wp2
        go_ret
        exact ⟨ret_bool (ok_no (k := k) (by omega) (by rw [HX.out]; unfold okN; exact decide_eq_false (by omega))).symm, rfl⟩
      · by_cases hg : 100000 < x
        · go_wp2
          go_ret
          exact ⟨ret_bool (ok_no (k := k) (by omega) (by rw [HX.out]; unfold okN; exact decide_eq_false (by omega))).symm, rfl⟩
        · go_wp2
          go_round
          case rel => exact ⟨k + 1, by omega, by go_num, all_succ _ _ (by omega) HT.out (by rw [HX.out]; unfold okN; exact decide_eq_true (by omega))⟩
          case measure => simp [intOf]; omega
    · by_cases hq : 1 ≤ l1
      · go_wp2
        go_ret
        refine ⟨ret_bool ?_, rfl⟩
        rw [ok_end (k := k) (by omega) HT.out, s1, Bool.eq_iff_iff]
        simp
        omega
      · go_wp2
        go_ret
        refine ⟨ret_bool ?_, rfl⟩
        rw [ok_end (k := k) (by omega) HT.out, s1, Bool.eq_iff_iff]
        simp
        omega

end Go.Proofs.Ytamglfhnhjgdjaa
