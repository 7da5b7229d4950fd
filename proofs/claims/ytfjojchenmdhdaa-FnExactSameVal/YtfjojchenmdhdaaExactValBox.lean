/-
  Two boxes that were laid one behind the other are there in every later world.
-/
import Derived.Test.YtfjojchenmdhdaaValOk
namespace Go.Proofs.Ytfjojchenmdhdaa
open Go.RowKit

theorem box2_cells {w : World} {t u : TypeId} {c0 c1 c2 c3 d0 d1 d2 d3 : Value} (W : World) (h : Below ((w.alloc (.cells #[c0, c1, c2, c3] t)).alloc (.cells #[d0, d1, d2, d3] u)).heap.size ((w.alloc (.cells #[c0, c1, c2, c3] t)).alloc (.cells #[d0, d1, d2, d3] u)) W) :
    (W.cell? ⟨w.heap.size, 0, none⟩ = some c0 ∧ W.cell? ⟨w.heap.size, 1, none⟩ = some c1 ∧ W.cell? ⟨w.heap.size, 2, none⟩ = some c2 ∧ W.cell? ⟨w.heap.size, 3, none⟩ = some c3) ∧
    (W.cell? ⟨w.heap.size + 1, 0, none⟩ = some d0 ∧ W.cell? ⟨w.heap.size + 1, 1, none⟩ = some d1 ∧ W.cell? ⟨w.heap.size + 1, 2, none⟩ = some d2 ∧ W.cell? ⟨w.heap.size + 1, 3, none⟩ = some d3) :=
  ⟨(cells4 (kept_two h).1).1, (cells4 (kept_two h).2).1⟩

end Go.Proofs.Ytfjojchenmdhdaa
