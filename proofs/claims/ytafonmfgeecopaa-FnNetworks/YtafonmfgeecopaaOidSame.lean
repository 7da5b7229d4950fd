/-
  Whether two names are the same, by contracts: the specification's, the library's slices.Equal at ints, the law file's sameInts.
-/
import Derived.Test.YtafonmfgeecopaaIHelp
namespace Go.Proofs.Ytafonmfgeecopaa
open Go.RowKit

set_option maxRecDepth 100000 in
set_option maxHeartbeats 400000 in
theorem sameInts_any (a1 : Option Addr) (l1 c1 : Nat) (z1 : List Int) (a2 : Option Addr) (l2 c2 : Nat) (z2 : List Int) (w : World) (h1 : IRow w a1 l1 c1 z1) (h2 : IRow w a2 l2 c2 z2) :
    Calls Try.prog 57 #[.slice a1 l1 c1, .slice a2 l2 c2] w fun e w' => e = .returned (.bool (decide (z1 = z2))) ∧ ∃ n, w' = w.drewN n := by
  have m1 := h1.top; have m2 := h2.top; have s1 := h1.size; have s2 := h2.size; have e1 := h1.le; have e2 := h2.le
  unfold maxLen at m1 m2
  by_cases hl : l1 = l2
  · subst hl
    by_cases h0 : l1 = 0
    · subst h0
      have hz : z1 = z2 := by rw [List.eq_nil_of_length_eq_zero s1, List.eq_nil_of_length_eq_zero s2]
      go_enter Try.func57, Try.ntmps57
      go_wp2
      go_loop [5] (fun i => i = .int .i64 0) (fun _ => 0)
      case atStart => rfl
      case round =>
        subst hrel
        go_wp2
        go_ret
        exact ⟨by simp, 0, rfl⟩
    · rcases h1.cell with h | ⟨b1, o1, rfl, g1⟩
      · exact absurd h h0
      rcases h2.cell with h | ⟨b2, o2, rfl, g2⟩
      · exact absurd h h0
      clear h1 h2
      have G1 : Hid (∀ i, i < l1 → w.cell? ⟨b1, o1 + i, none⟩ = some (.int .i64 (z1.getD i 0))) := g1
      have G2 : Hid (∀ i, i < l1 → w.cell? ⟨b2, o2 + i, none⟩ = some (.int .i64 (z2.getD i 0))) := g2
      clear g1 g2
      go_enter Try.func57, Try.ntmps57
      go_wp2
      go_loopw [5] (fun i wr => ∃ k : Nat, k ≤ l1 ∧ i = .int .i64 k ∧ z1.take k = z2.take k ∧ ∃ n, wr = w.drewN n) (fun i _ => l1 - (intOf i).toNat)
      case atStart => exact ⟨0, Nat.zero_le _, rfl, rfl, 0, rfl⟩
      case round =>
        obtain ⟨k, hk, rfl, ht, n, rfl⟩ := hrel
        have HT : Hid (z1.take k = z2.take k) := ht
        clear ht
        by_cases hlt : k < l1
        · have c1 := G1.out k hlt
          have c2 := G2.out k hlt
          generalize hx : z1.getD k 0 = x at c1
          generalize hy : z2.getD k 0 = y at c2
          have HX : Hid (z1.getD k 0 = x) := hx
          have HY : Hid (z2.getD k 0 = y) := hy
          clear hx hy
          by_cases hq : x = y
          · subst hq
            go_wp2
            go_quiet (fail)
            go_wp2
            go_roundw
            case rel => exact ⟨k + 1, by omega, by go_num, by rw [take_succ_getD _ _ (by omega), take_succ_getD _ _ (by omega), HT.out, HX.out, HY.out], _, rfl⟩
            case measure => simp [intOf]; omega
          · have hne : (x != y) = true := by simp [hq]
            go_wp2
            go_quiet (fail)
            go_wp2
            go_ret
            exact ⟨ret_bool (decide_eq_false (ne_at k (by rw [HX.out, HY.out]; exact hq))).symm, _, World.drewN_drewN _ _ _⟩
        · go_wp2
          go_ret
          have hk' : k = l1 := by omega
          exact ⟨ret_bool (decide_eq_true (eq_of_takes (by omega) (by rw [s1, ← hk']; exact HT.out))).symm, _, rfl⟩
  · have hne : ((l1 : Int) != (l2 : Int)) = true := by simp; omega
    have hz : ¬ z1 = z2 := by intro e; rw [e] at s1; omega
    go_enter Try.func57, Try.ntmps57
    go_wp2
    go_ret
    exact ⟨ret_bool (decide_eq_false hz).symm, 0, rfl⟩

end Go.Proofs.Ytafonmfgeecopaa
