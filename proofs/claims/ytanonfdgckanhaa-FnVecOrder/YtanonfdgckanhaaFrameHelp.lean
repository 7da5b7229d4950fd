/-
  The law file's own helpers on frames by their contracts: a copy, whether two are the same, their size, the marks that are put and read again.
-/
import Derived.Test.YtanonfdgckanhaaMem
import Derived.Test.YtanonfdgckanhaaCopy
namespace Go.Proofs.Ytanonfdgckanhaa
open Go.RowKit

set_option maxRecDepth 100000 in
set_option maxHeartbeats 400000 in
theorem within_any (x lo hi : Int) (w : World) :
    Calls Try.prog 57 #[.int .i64 x, .int .i64 lo, .int .i64 hi] w fun e w' => e = .returned (.bool (decide (lo ≤ x) && decide (x ≤ hi))) ∧ w' = w := by
  by_cases h1 : lo ≤ x
  · go_enter Try.func57, Try.ntmps57
    go_wp2
    go_ret
    exact ⟨ret_bool (by simp [h1]), rfl⟩
  · go_enter Try.func57, Try.ntmps57
    go_wp2
    go_ret
    exact ⟨ret_bool (by rw [decide_eq_false (show ¬ lo ≤ x by omega)]; rfl), rfl⟩

/-- A box that was laid is there in every later world. -/
theorem box_cells {w : World} {t : TypeId} {c0 c1 c2 c3 : Value} (W : World) (h : Below (w.alloc (.cells #[c0, c1, c2, c3] t)).heap.size (w.alloc (.cells #[c0, c1, c2, c3] t)) W) :
    W.cell? ⟨w.heap.size, 0, none⟩ = some c0 ∧ W.cell? ⟨w.heap.size, 1, none⟩ = some c1 ∧ W.cell? ⟨w.heap.size, 2, none⟩ = some c2 ∧ W.cell? ⟨w.heap.size, 3, none⟩ = some c3 :=
  (cells4 (kept_block (block_last w _) h)).1

theorem box2_cells {w : World} {t u : TypeId} {c0 c1 c2 c3 d0 d1 d2 d3 : Value} (W : World) (h : Below ((w.alloc (.cells #[c0, c1, c2, c3] t)).alloc (.cells #[d0, d1, d2, d3] u)).heap.size ((w.alloc (.cells #[c0, c1, c2, c3] t)).alloc (.cells #[d0, d1, d2, d3] u)) W) :
    (W.cell? ⟨w.heap.size, 0, none⟩ = some c0 ∧ W.cell? ⟨w.heap.size, 1, none⟩ = some c1 ∧ W.cell? ⟨w.heap.size, 2, none⟩ = some c2 ∧ W.cell? ⟨w.heap.size, 3, none⟩ = some c3) ∧
    (W.cell? ⟨w.heap.size + 1, 0, none⟩ = some d0 ∧ W.cell? ⟨w.heap.size + 1, 1, none⟩ = some d1 ∧ W.cell? ⟨w.heap.size + 1, 2, none⟩ = some d2 ∧ W.cell? ⟨w.heap.size + 1, 3, none⟩ = some d3) :=
  ⟨(cells4 (kept_two h).1).1, (cells4 (kept_two h).2).1⟩

/-- Two frames are the same, part by part. -/
def sameF (K N S : Int) (z : List Int) (K' N' S' : Int) (z' : List Int) : Bool := (K == K') && ((N == N') && ((S == S') && decide (z = z')))

theorem sameF_self (K N S : Int) (z : List Int) : sameF K N S z K N S z = true := by simp [sameF]

theorem fsame_noK {K N S : Int} {z : List Int} {K' N' S' : Int} {z' : List Int} (h : (K != K') = true) : false = sameF K N S z K' N' S' z' := by
  simp at h; simp [sameF, h]
theorem fsame_noN {K N S : Int} {z : List Int} {K' N' S' : Int} {z' : List Int} (h : (N != N') = true) : false = sameF K N S z K' N' S' z' := by
  simp at h; simp [sameF, h]
theorem fsame_noS {K N S : Int} {z : List Int} {K' N' S' : Int} {z' : List Int} (h : (S != S') = true) : false = sameF K N S z K' N' S' z' := by
  simp at h; simp [sameF, h]
theorem fsame_noO {K N S : Int} {z : List Int} {K' N' S' : Int} {z' : List Int} (h : decide (z = z') = false) : false = sameF K N S z K' N' S' z' := by
  simp at h; simp [sameF, h]
theorem fsame_yes {K N S : Int} {z : List Int} {K' N' S' : Int} {z' : List Int} (h1 : (K != K') = false) (h2 : (N != N') = false) (h3 : (S != S') = false) (h4 : decide (z = z') = true) : true = sameF K N S z K' N' S' z' := by
  simp at h1 h2 h3 h4; simp [sameF, h1, h2, h3, h4]

set_option maxRecDepth 100000 in
set_option maxHeartbeats 400000 in
theorem eqFrame_any (K N S : Int) (a1 : Option Addr) (l1 c1 : Nat) (z1 : List Int) (K' N' S' : Int) (a2 : Option Addr) (l2 c2 : Nat) (z2 : List Int) (w : World) (h1 : Row w a1 l1 c1 z1) (h2 : Row w a2 l2 c2 z2) :
    Calls Try.prog 35 #[.agg #[.int .i64 K, .int .i64 N, .int .i64 S, .slice a1 l1 c1], .agg #[.int .i64 K', .int .i64 N', .int .i64 S', .slice a2 l2 c2]] w fun e w' => e = .returned (.bool (sameF K N S z1 K' N' S' z2)) ∧ Below w.heap.size w w' := by
  generalize hP : sameF K N S z1 K' N' S' z2 = P
  have HP := hide hP
  clear hP
  go_enter Try.func35, Try.ntmps35
  go_wp2_with fail
  · go_ret
    exact ⟨ret_bool ((fsame_noK ‹_›).trans HP.out), below_two _ _ _⟩
  · go_ret
    exact ⟨ret_bool ((fsame_noN ‹_›).trans HP.out), below_two _ _ _⟩
  · go_ret
    exact ⟨ret_bool ((fsame_noS ‹_›).trans HP.out), below_two _ _ _⟩
  · have t1 := ‹(K != K') = false›
    have t2 := ‹(N != N') = false›
    have t3 := ‹(S != S') = false›
    cases hD : decide (z1 = z2)
    · refine (eq_any a1 l1 c1 z1 a2 l2 c2 z2 _ (h1.below (below_two _ _ _)) (h2.below (below_two _ _ _))).mono ?_
      rintro e w1 ⟨rfl, n, rfl⟩
      rw [hD]
      have HD := hide hD
      clear hD
      go_wp2
      go_ret
      exact ⟨ret_bool ((fsame_noO HD.out).trans HP.out), below_drewN (below_two _ _ _) n⟩
    · refine (eq_any a1 l1 c1 z1 a2 l2 c2 z2 _ (h1.below (below_two _ _ _)) (h2.below (below_two _ _ _))).mono ?_
      rintro e w1 ⟨rfl, n, rfl⟩
      rw [hD]
      have HD := hide hD
      clear hD
      go_wp2
      go_ret
      exact ⟨ret_bool ((fsame_yes t1 t2 t3 HD.out).trans HP.out), below_drewN (below_two _ _ _) n⟩

theorem eqFrame_same (K N S : Int) (a1 : Option Addr) (l1 c1 : Nat) (a2 : Option Addr) (l2 c2 : Nat) (zs : List Int) (w : World) (h1 : Row w a1 l1 c1 zs) (h2 : Row w a2 l2 c2 zs) :
    Calls Try.prog 35 #[.agg #[.int .i64 K, .int .i64 N, .int .i64 S, .slice a1 l1 c1], .agg #[.int .i64 K, .int .i64 N, .int .i64 S, .slice a2 l2 c2]] w fun e w' => e = .returned (.bool true) ∧ Below w.heap.size w w' := by
  refine (eqFrame_any K N S a1 l1 c1 zs K N S a2 l2 c2 zs w h1 h2).mono ?_
  rintro e w' ⟨rfl, hb⟩
  exact ⟨by rw [sameF_self], hb⟩

set_option maxRecDepth 100000 in
set_option maxHeartbeats 400000 in
theorem markFrame_grown (K N S : Int) (base : Nat) (ao : Option Addr) (n cap : Nat) (zs : List Int) (k : Int) (w : World) (hown : w.ownsRow base 5 1 (.slice ao n cap) n (cB zs)) (hn : n ≤ 16777216) (hk0 : 0 ≤ k) (hk1 : k ≤ 1099511627776) :
    Calls Try.prog 38 #[.agg #[.int .i64 K, .int .i64 N, .int .i64 S, .slice ao n cap], .int .i64 k] w fun e w' => e = .returned (.int .i64 (k + n)) ∧
      w'.ownsRow base 5 1 (.slice ao n cap) n (cB (marks k n)) ∧ w.grownBy w' (Value.slice ao n cap).ownBlock := by
  go_enter Try.func38, Try.ntmps38
  go_wp2_with fail
  refine (mark_grown base ao n cap zs k _ (own_below hown (below_one _ _)) hn hk0 hk1).mono ?_
  rintro e w1 ⟨rfl, ho, hg⟩
  go_wp2
  go_ret
  exact ⟨rfl, ho, grown_below (below_one _ _) hg⟩

set_option maxRecDepth 100000 in
set_option maxHeartbeats 400000 in
theorem heldFrame_any (K N S : Int) (ao : Option Addr) (n cap : Nat) (k : Int) (w : World) (h1 : Row w ao n cap (marks k n)) (hn : n ≤ 16777216) (hk0 : 0 ≤ k) (hk1 : k ≤ 1099511627776) :
    Calls Try.prog 39 #[.agg #[.int .i64 K, .int .i64 N, .int .i64 S, .slice ao n cap], .int .i64 k] w fun e w' => e = .returned (.int .i64 (k + n)) ∧ Below w.heap.size w w' := by
  go_enter Try.func39, Try.ntmps39
  go_wp2_with fail
  refine (held_any ao n cap k _ (h1.below (below_one _ _)) hn hk0 hk1).mono ?_
  rintro e w1 ⟨rfl, rfl⟩
  go_wp2
  go_ret
  exact ⟨rfl, below_one _ _⟩

end Go.Proofs.Ytanonfdgckanhaa
