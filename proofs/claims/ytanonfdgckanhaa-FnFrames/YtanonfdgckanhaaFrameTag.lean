/-
  A frame with another tag: the program's function by its contract.
-/
import Derived.Test.YtanonfdgckanhaaFrameHelp
import Derived.Test.YtanonfdgckanhaaTlv
namespace Go.Proofs.Ytanonfdgckanhaa
open Go.RowKit

theorem pieces0_made (a1 : Option Addr) (l1 c1 : Nat) (z1 : List Int) (w : World) (h1 : Row w a1 l1 c1 z1) (hs : l1 ≤ 16000000) :
    Calls Try.prog 55 #[.slice a1 l1 c1, .slice none 0 0] w fun e w' => ∃ ao cap, e = .returned (.slice ao l1 cap) ∧ w'.ownsRow w.heap.size 5 1 (.slice ao l1 cap) l1 (cB z1) ∧ Below w.heap.size w w' := by
  refine (pieces_any a1 l1 c1 z1 _ _ _ [] _ h1 (pieces_none _) (by simp [tot]; omega)).mono ?_
  rintro e w1 ⟨rfl, ho, hb⟩
  have et : tot [] 0 = 0 := by simp [tot]
  have ef : flat [] 0 = [] := by simp [flat]
  rw [et, ef, List.append_nil, Nat.add_zero] at ho
  rw [et, Nat.add_zero]
  exact ⟨_, _, rfl, ho, hb⟩

set_option maxRecDepth 100000 in
set_option maxHeartbeats 1000000 in
theorem implTagged_made (K N S : Int) (a1 : Option Addr) (l1 c1 : Nat) (z1 : List Int) (g : Int) (w : World) (h1 : Row w a1 l1 c1 z1) (hs : l1 ≤ 16000000) :
    Calls Try.prog 16 #[.agg #[.int .i64 K, .int .i64 N, .int .i64 S, .slice a1 l1 c1], .int .i64 g] w fun e w' => ∃ ao cap, e = .returned (.agg #[.int .i64 K, .int .i64 N, .int .i64 g, .slice ao l1 cap]) ∧
      w'.ownsRow w.heap.size 5 1 (.slice ao l1 cap) l1 (cB z1) ∧ Row w' ao l1 cap z1 ∧ Below w.heap.size w w' := by
  go_enter Try.func16, Try.ntmps16
  go_wp2_with fail
  refine (pieces0_made a1 l1 c1 z1 _ (h1.below (below_two _ _ _)) hs).mono ?_
  rintro e w1 ⟨ao1, cp1, rfl, ho, hb⟩
  obtain ⟨k0, k1⟩ := kept_two hb
  obtain ⟨⟨p0, p1, p2, p3⟩, f0, f1, f2, f3⟩ := cells4 k0
  obtain ⟨⟨q0, q1, q2, q3⟩, g0, g1, g2, g3⟩ := cells4 k1
  have b1 : Below w.heap.size w w1 := (below_two w _ _).trans (hb.mono (below_two w _ _).size)
  have ho' := own_lt ho (base' := w.heap.size + 1 + 1) (by simp)
  have hby := h1.byte
  have HB := hide b1
  have HO := hide ho'
  clear k0 k1 hb ho ho' b1 h1
  go_wp2
  have o5 := own_set (own_set (own_set (own_set (own_set HO.out (g := w.heap.size) (j := 3) (u := .slice ao1 l1 cp1) (by omega)) (g := w.heap.size + 1) (j := 0) (u := .int .i64 K) (by omega)) (g := w.heap.size + 1) (j := 1) (u := .int .i64 N) (by omega)) (g := w.heap.size + 1) (j := 2) (u := .int .i64 g) (by omega)) (g := w.heap.size + 1) (j := 3) (u := .slice ao1 l1 cp1) (by omega)
  refine bodyPost_ret (v := .agg #[.int .i64 K, .int .i64 N, .int .i64 g, .slice ao1 l1 cp1]) (by simp [results, Try.results16, go_sem, *]) rfl ⟨_, _, rfl, own_lt o5 (by omega), row_own o5 hby, ?_⟩
  exact below_set (below_set (below_set (below_set (below_set HB.out (by omega) _ _) (by omega) _ _) (by omega) _ _) (by omega) _ _) (by omega) _ _

end Go.Proofs.Ytanonfdgckanhaa
