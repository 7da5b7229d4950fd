/-
  Whether a port is right, as the specification has it.
-/
import Derived.Test.YtmlcjdfnoipihabPtMem
import Derived.Test.YtmlcjdfnoipihabVecEql
namespace Go.Proofs.Ytmlcjdfnoipihab
open Go.RowKit

/-- A port's box. -/
def ptBox (x : PT) : Obj := .cells #[.bool x.up, .int .i64 x.k, .bool x.has, .int .i64 x.v.r, .int .i64 x.v.c, .int .i64 x.v.h, .int .i64 x.v.b, .int .i64 x.v.p] 34

theorem cells8 {w : World} {g : Nat} {T : TypeId} {c0 c1 c2 c3 c4 c5 c6 c7 : Value} (h : w.heap[g]? = some (.cells #[c0, c1, c2, c3, c4, c5, c6, c7] T)) :
    w.cell? ⟨g, 0, none⟩ = some c0 ∧ w.cell? ⟨g, 1, none⟩ = some c1 ∧ w.cell? ⟨g, 2, none⟩ = some c2 ∧ w.cell? ⟨g, 3, none⟩ = some c3 ∧ w.cell? ⟨g, 4, none⟩ = some c4 ∧ w.cell? ⟨g, 5, none⟩ = some c5 ∧ w.cell? ⟨g, 6, none⟩ = some c6 ∧ w.cell? ⟨g, 7, none⟩ = some c7 := by
  simp [World.cell?, h]

end Go.Proofs.Ytmlcjdfnoipihab
