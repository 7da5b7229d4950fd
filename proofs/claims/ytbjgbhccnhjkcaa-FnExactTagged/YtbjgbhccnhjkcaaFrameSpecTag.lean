/-
  A frame with another tag: the specification's function by its contract.
-/
import Derived.Test.YtbjgbhccnhjkcaaFrameHelp
namespace Go.Proofs.Ytbjgbhccnhjkcaa
open Go.RowKit

set_option maxRecDepth 100000 in
set_option maxHeartbeats 1000000 in
theorem specCopy_made (K N S : Int) (a1 : Option Addr) (l1 c1 : Nat) (z1 : List Int) (w : World) (h1 : Row w a1 l1 c1 z1) (hs : l1 ≤ 16000000) :
    Calls Try.prog 53 #[.agg #[.int .i64 K, .int .i64 N, .int .i64 S, .slice a1 l1 c1]] w fun e w' => ∃ ao cap, e = .returned (.agg #[.int .i64 K, .int .i64 N, .int .i64 S, .slice ao l1 cap]) ∧
      w'.ownsRow w.heap.size 5 1 (.slice ao l1 cap) l1 (cB z1) ∧ Row w' ao l1 cap z1 ∧ Below w.heap.size w w' := by
  have hn : (((w.alloc (.cells #[.int .i64 K, .int .i64 N, .int .i64 S, .slice a1 l1 c1] 25)).alloc (.cells #[.int .i64 0, .int .i64 0, .int .i64 0, .slice none 0 0] 25)).alloc (.cells #[.int .i64 K, .int .i64 N, .int .i64 S, .slice a1 l1 c1] 25)).heap.size = w.heap.size + 1 + 1 + 1 := by simp
  have lit := World.ownsRow_lit (base := w.heap.size + 1 + 1 + 1) (e := 5) (size := 1) (((w.alloc (.cells #[.int .i64 K, .int .i64 N, .int .i64 S, .slice a1 l1 c1] 25)).alloc (.cells #[.int .i64 0, .int .i64 0, .int .i64 0, .slice none 0 0] 25)).alloc (.cells #[.int .i64 K, .int .i64 N, .int .i64 S, .slice a1 l1 c1] 25)) #[] 0 (by rw [hn]; exact Nat.le_refl _) (Nat.zero_le _) rfl
  rw [hn] at lit
  have LIT := hide lit
  clear lit hn
  go_enter Try.func53, Try.ntmps53
  go_wp2_with (at_builtin; refine wpList_append_row _ rfl _ _ 22 rfl (w.heap.size + 1 + 1 + 1) Try.underlying22 Try.infoU8 _ 0 [] rfl LIT.out (by intro z hz; cases hz) a1 l1 c1 z1 rfl (h1.below (gr_alloc (below_three _ _ _ _) _)) (by omega) (by simp) ?_)
  intro ao1 cp1 w1 how1 row1 hb1
  have how1 : w1.ownsRow (w.heap.size + 1 + 1 + 1) 5 1 (.slice ao1 l1 cp1) l1 (cB z1) := by simpa using how1
  have hb : Below (((w.alloc (.cells #[.int .i64 K, .int .i64 N, .int .i64 S, .slice a1 l1 c1] 25)).alloc (.cells #[.int .i64 0, .int .i64 0, .int .i64 0, .slice none 0 0] 25)).alloc (.cells #[.int .i64 K, .int .i64 N, .int .i64 S, .slice a1 l1 c1] 25)).heap.size (((w.alloc (.cells #[.int .i64 K, .int .i64 N, .int .i64 S, .slice a1 l1 c1] 25)).alloc (.cells #[.int .i64 0, .int .i64 0, .int .i64 0, .slice none 0 0] 25)).alloc (.cells #[.int .i64 K, .int .i64 N, .int .i64 S, .slice a1 l1 c1] 25)) w1 := (below_one _ _).trans (hb1.mono (by simp))
  obtain ⟨k0, k1, k2⟩ := kept_three hb
  obtain ⟨⟨p0, p1, p2, p3⟩, f0, f1, f2, f3⟩ := cells4 k1
  obtain ⟨⟨q0, q1, q2, q3⟩, g0, g1, g2, g3⟩ := cells4 k2
  have b1 : Below w.heap.size w w1 := (below_three w _ _ _).trans (hb.mono (below_three w _ _ _).size)
  have hby := h1.byte
  have HB := hide b1
  have HO := hide how1
  clear k0 k1 k2 hb hb1 how1 b1 row1 h1 LIT
  go_wp2
  have o5 := own_set (own_set (own_set (own_set (own_set HO.out (g := w.heap.size + 1 + 1) (j := 3) (u := .slice ao1 l1 cp1) (by omega)) (g := w.heap.size + 1) (j := 0) (u := .int .i64 K) (by omega)) (g := w.heap.size + 1) (j := 1) (u := .int .i64 N) (by omega)) (g := w.heap.size + 1) (j := 2) (u := .int .i64 S) (by omega)) (g := w.heap.size + 1) (j := 3) (u := .slice ao1 l1 cp1) (by omega)
  refine bodyPost_ret (v := .agg #[.int .i64 K, .int .i64 N, .int .i64 S, .slice ao1 l1 cp1]) (by simp [results, Try.results53, go_sem, *]) rfl ⟨_, _, rfl, own_lt o5 (by omega), row_own o5 hby, ?_⟩
  exact below_set (below_set (below_set (below_set (below_set HB.out (by omega) _ _) (by omega) _ _) (by omega) _ _) (by omega) _ _) (by omega) _ _

set_option maxRecDepth 100000 in
set_option maxHeartbeats 1000000 in
theorem specTagged_made (K N S : Int) (a1 : Option Addr) (l1 c1 : Nat) (z1 : List Int) (g : Int) (w : World) (h1 : Row w a1 l1 c1 z1) (hs : l1 ≤ 16000000) :
    Calls Try.prog 32 #[.agg #[.int .i64 K, .int .i64 N, .int .i64 S, .slice a1 l1 c1], .int .i64 g] w fun e w' => ∃ ao cap, e = .returned (.agg #[.int .i64 K, .int .i64 N, .int .i64 g, .slice ao l1 cap]) ∧
      w'.ownsRow w.heap.size 5 1 (.slice ao l1 cap) l1 (cB z1) ∧ Row w' ao l1 cap z1 ∧ Below w.heap.size w w' := by
  go_enter Try.func32, Try.ntmps32
  go_wp2_with fail
  refine (specCopy_made K N S a1 l1 c1 z1 _ (h1.below (below_two _ _ _)) hs).mono ?_
  rintro e w1 ⟨ao1, cp1, rfl, ho, r1, hb⟩
  obtain ⟨k0, k1⟩ := kept_two hb
  obtain ⟨⟨q0, q1, q2, q3⟩, g0, g1, g2, g3⟩ := cells4 (kept_block k1 (below_one w1 (.cells #[.int .i64 K, .int .i64 N, .int .i64 g, .slice ao1 l1 cp1] 25)))
  have b1 : Below w.heap.size w w1 := (below_two w _ _).trans (hb.mono (below_two w _ _).size)
  have ho' := own_lt ho (base' := w.heap.size + 1 + 1) (by simp)
  have hby := h1.byte
  have HB := hide (b1.trans ((below_one w1 (.cells #[.int .i64 K, .int .i64 N, .int .i64 g, .slice ao1 l1 cp1] 25)).mono b1.size))
  have HO := hide (own_below ho' (below_one w1 (.cells #[.int .i64 K, .int .i64 N, .int .i64 g, .slice ao1 l1 cp1] 25)))
  clear k0 k1 hb ho ho' b1 h1
  go_wp2
  have o5 := own_set4 HO.out (g := w.heap.size + 1) (by omega) (.int .i64 K) (.int .i64 N) (.int .i64 g) (.slice ao1 l1 cp1)
  refine bodyPost_ret (v := .agg #[.int .i64 K, .int .i64 N, .int .i64 g, .slice ao1 l1 cp1]) (by simp [results, Try.results32, go_sem, *]) rfl ⟨_, _, rfl, own_lt o5 (by omega), row_own o5 hby, ?_⟩
  exact below_set4 HB.out (by omega) _ _ _ _

end Go.Proofs.Ytbjgbhccnhjkcaa
