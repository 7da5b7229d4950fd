/-
  Whether a table is right, as the specification has it.
-/
import Derived.Test.YtnichegfadgpdaaPUK01
namespace Go.Proofs.Ytnichegfadgpdaa
open Go.RowKit

theorem box_two {w w1 wr : World} {s t : Value} {T : TypeId} (hw1 : w.alloc (Obj.cells #[s, t] T) = w1) (hb : Below w1.heap.size w1 wr) : wr.cell? ⟨w.heap.size, 0, none⟩ = some s ∧ wr.cell? ⟨w.heap.size, 1, none⟩ = some t := by
 subst hw1
 have hk := kept_one hb
 constructor <;> simp [World.cell?, hk]

end Go.Proofs.Ytnichegfadgpdaa
