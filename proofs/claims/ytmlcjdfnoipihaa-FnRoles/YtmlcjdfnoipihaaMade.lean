/-
  A block that was just made, as the next world has it.
-/
import Derived.Test.YtmlcjdfnoipihaaMem
namespace Go.Proofs.Ytmlcjdfnoipihaa
open Go.RowKit

theorem made_new {K : World → Prop} {W : World} {o : Obj} (h : ∀ wx, wx.heap[W.heap.size]? = some o → Below W.heap.size W wx → K wx) : K (W.alloc o) := h _ (block_last W o) (below_one W o)

theorem made_drew {K : World → Prop} {W : World} {o : Obj} (h : ∀ wx, wx.heap[W.heap.size]? = some o → Below W.drew.heap.size W.drew wx → K wx) : K (W.alloc o).drew := h _ (block_last W o) (below_one W.drew o)

end Go.Proofs.Ytmlcjdfnoipihaa
