/-
  The law file's own helpers on frames by their contracts: a copy, whether two are the same, their size, the marks that are put and read again.
-/
import Derived.Test.YtmlcjdfnoipihaaMem
import Derived.Test.YtmlcjdfnoipihaaCopy
namespace Go.Proofs.Ytmlcjdfnoipihaa
open Go.RowKit

set_option maxRecDepth 100000 in
set_option maxHeartbeats 400000 in
theorem within_any (x lo hi : Int) (w : World) :
    Calls Try.prog 37 #[.int .i64 x, .int .i64 lo, .int .i64 hi] w fun e w' => e = .returned (.bool (decide (lo ≤ x) && decide (x ≤ hi))) ∧ w' = w := by
  by_cases h1 : lo ≤ x
  · go_enter Try.func37, Try.ntmps37
    go_wp2
    go_ret
    exact ⟨ret_bool (by simp [h1]), rfl⟩
  · go_enter Try.func37, Try.ntmps37
    go_wp2
    go_ret
    exact ⟨ret_bool (by rw [decide_eq_false (show ¬ lo ≤ x by omega)]; rfl), rfl⟩

/-- A box that was laid is there in every later world. -/
theorem box_cells {w : World} {t : TypeId} {c0 c1 c2 c3 : Value} (W : World) (h : Below (w.alloc (.cells #[c0, c1, c2, c3] t)).heap.size (w.alloc (.cells #[c0, c1, c2, c3] t)) W) :
    W.cell? ⟨w.heap.size, 0, none⟩ = some c0 ∧ W.cell? ⟨w.heap.size, 1, none⟩ = some c1 ∧ W.cell? ⟨w.heap.size, 2, none⟩ = some c2 ∧ W.cell? ⟨w.heap.size, 3, none⟩ = some c3 :=
  (cells4 (kept_block (block_last w _) h)).1

theorem box2_cells {w : World} {t u : TypeId} {c0 c1 c2 c3 d0 d1 d2 d3 : Value} (W : World) (h : Below ((w.alloc (.cells #[c0, c1, c2, c3] t)).alloc (.cells #[d0, d1, d2, d3] u)).heap.size ((w.alloc (.cells #[c0, c1, c2, c3] t)).alloc (.cells #[d0, d1, d2, d3] u)) W) :
    (W.cell? ⟨w.heap.size, 0, none⟩ = some c0 ∧ W.cell? ⟨w.heap.size, 1, none⟩ = some c1 ∧ W.cell? ⟨w.heap.size, 2, none⟩ = some c2 ∧ W.cell? ⟨w.heap.size, 3, none⟩ = some c3) ∧
    (W.cell? ⟨w.heap.size + 1, 0, none⟩ = some d0 ∧ W.cell? ⟨w.heap.size + 1, 1, none⟩ = some d1 ∧ W.cell? ⟨w.heap.size + 1, 2, none⟩ = some d2 ∧ W.cell? ⟨w.heap.size + 1, 3, none⟩ = some d3) :=
  ⟨(cells4 (kept_two h).1).1, (cells4 (kept_two h).2).1⟩

/-- Two frames are the same, part by part. -/
def sameF (K N S : Int) (z : List Int) (K' N' S' : Int) (z' : List Int) : Bool := (K == K') && ((N == N') && ((S == S') && decide (z = z')))

theorem sameF_self (K N S : Int) (z : List Int) : sameF K N S z K N S z = true := by simp [sameF]

theorem fsame_noK {K N S : Int} {z : List Int} {K' N' S' : Int} {z' : List Int} (h : (K != K') = true) : false = sameF K N S z K' N' S' z' := by
  simp at h; simp [sameF, h]
theorem fsame_noN {K N S : Int} {z : List Int} {K' N' S' : Int} {z' : List Int} (h : (N != N') = true) : false = sameF K N S z K' N' S' z' := by
  simp at h; simp [sameF, h]
theorem fsame_noS {K N S : Int} {z : List Int} {K' N' S' : Int} {z' : List Int} (h : (S != S') = true) : false = sameF K N S z K' N' S' z' := by
  simp at h; simp [sameF, h]
theorem fsame_noO {K N S : Int} {z : List Int} {K' N' S' : Int} {z' : List Int} (h : decide (z = z') = false) : false = sameF K N S z K' N' S' z' := by
  simp at h; simp [sameF, h]
theorem fsame_yes {K N S : Int} {z : List Int} {K' N' S' : Int} {z' : List Int} (h1 : (K != K') = false) (h2 : (N != N') = false) (h3 : (S != S') = false) (h4 : decide (z = z') = true) : true = sameF K N S z K' N' S' z' := by
  simp at h1 h2 h3 h4; simp [sameF, h1, h2, h3, h4]

end Go.Proofs.Ytmlcjdfnoipihaa
