/-
  Whether a bridge is right, as the specification has it.
-/
import Derived.Test.YtfknffdlmcckkaaGreatPBFdbOkS
import Derived.Test.YtfknffdlmcckkaaGreatPBK01
import Derived.Test.YtfknffdlmcckkaaGreatPBK02
import Derived.Test.YtfknffdlmcckkaaGreatPBVtabOkS
namespace Go.Proofs.YtfknffdlmcckkaaGreat
open Go.RowKit

theorem cells11 {w : World} {g : Nat} {T : TypeId} {c0 c1 c2 c3 c4 c5 c6 c7 c8 c9 c10 : Value} (h : w.heap[g]? = some (.cells #[c0, c1, c2, c3, c4, c5, c6, c7, c8, c9, c10] T)) :
  w.cell? ⟨g, 0, none⟩ = some c0 ∧ w.cell? ⟨g, 1, none⟩ = some c1 ∧ w.cell? ⟨g, 2, none⟩ = some c2 ∧ w.cell? ⟨g, 3, none⟩ = some c3 ∧ w.cell? ⟨g, 4, none⟩ = some c4 ∧ w.cell? ⟨g, 5, none⟩ = some c5 ∧ w.cell? ⟨g, 6, none⟩ = some c6 ∧ w.cell? ⟨g, 7, none⟩ = some c7 ∧ w.cell? ⟨g, 8, none⟩ = some c8 ∧ w.cell? ⟨g, 9, none⟩ = some c9 ∧ w.cell? ⟨g, 10, none⟩ = some c10 := by
 simp [World.cell?, h]

theorem pall_no {l : List PT} {k : Nat} {x : PT} (hx : l[k]? = some x) (h : ptOk x = false) : l.all ptOk = false := by
 rw [List.all_eq_false]
 exact ⟨x, List.mem_of_getElem? hx, by rw [h]; decide⟩

theorem pall_yes {l : List PT} (h : ∀ (i : Nat) (y : PT), l[i]? = some y → ptOk y = true) : l.all ptOk = true := by
 rw [List.all_eq_true]
 intro x hx
 obtain ⟨i, hi⟩ := List.getElem?_of_mem hx
 exact h i x hi

end Go.Proofs.YtfknffdlmcckkaaGreat
