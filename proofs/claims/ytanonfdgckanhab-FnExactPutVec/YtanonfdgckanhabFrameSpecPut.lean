/-
  The bytes of a frame as the specification has them.
-/
import Derived.Test.YtanonfdgckanhabFrameSpec
namespace Go.Proofs.Ytanonfdgckanhab
open Go.RowKit

theorem empty_row (w : World) (b : Nat) : Row w (some ⟨b, 0, none⟩) 0 0 [] := ⟨rfl, Nat.le_refl _, Nat.zero_le _, (by intro h; cases h), byte_nil, .inl rfl⟩

theorem made_nil (w w' : World) (b : Nat) (h : w'.heap[b]? = some (.cells #[] 5)) (hb : w.heap.size ≤ b) : w'.ownsRow w.heap.size 5 1 (.slice (some ⟨b, 0, none⟩) 0 0) 0 (cB []) :=
  ⟨rfl, .inr ⟨b, 0, #[], rfl, hb, h, Nat.le_refl _, Nat.zero_le _, rfl, rfl⟩⟩

end Go.Proofs.Ytanonfdgckanhab
