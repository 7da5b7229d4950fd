/-
  Whether a table is right, as the specification has it.
-/
import Derived.Test.YtfefhilolhdonaaPAK01
namespace Go.Proofs.Ytfefhilolhdonaa
open Go.RowKit

theorem vall_is (p : Nat) (h1 : 1 ≤ (p : Int)) (h2 : (p : Int) ≤ 6) : wrap64 (wrap64 (2 ^ p) - 1) = allOf p := by
 have h : p = 1 ∨ p = 2 ∨ p = 3 ∨ p = 4 ∨ p = 5 ∨ p = 6 := by omega
 rcases h with rfl | rfl | rfl | rfl | rfl | rfl <;> simp [wrap64, allOf]

theorem box_two {w w1 wr : World} {s t : Value} {T : TypeId} (hw1 : w.alloc (Obj.cells #[s, t] T) = w1) (hb : Below w1.heap.size w1 wr) : wr.cell? ⟨w.heap.size, 0, none⟩ = some s ∧ wr.cell? ⟨w.heap.size, 1, none⟩ = some t := by
 subst hw1
 have hk := kept_one hb
 constructor <;> simp [World.cell?, hk]

end Go.Proofs.Ytfefhilolhdonaa
