/-
  Rows of networks as they lie in memory: three cells each.
-/
import Derived.Test.YtmlcjdfnoipihaaFlatOwn
import Derived.Test.YtmlcjdfnoipihaaVtabMath
import Derived.Test.YtmlcjdfnoipihaaIHelp
namespace Go.Proofs.Ytmlcjdfnoipihaa
open Go.RowKit

def vrowF : Flat VR where
  k := 3
  cs := fun e => [.int .i64 e.i, .int .i64 e.m, .int .i64 e.b]
  len := fun _ => rfl
  pos := by decide
  one := fun _ v hv => by
    simp only [List.mem_cons, List.not_mem_nil, or_false] at hv
    rcases hv with rfl | rfl | rfl <;> rfl

theorem vrow_at {w : World} {ao : Option Addr} {len cap : Nat} {l : List VR} (h : GRow vrowF w ao len cap l) (i : Nat) (hi : i < len) : ∃ (x : VR) (b off : Nat), l[i]? = some x ∧ ao = some ⟨b, off, none⟩ ∧
    w.cell? ⟨b, off + i * 3, none⟩ = some (.int .i64 x.i) ∧ w.cell? ⟨b, off + i * 3 + 1, none⟩ = some (.int .i64 x.m) ∧ w.cell? ⟨b, off + i * 3 + 2, none⟩ = some (.int .i64 x.b) := by
  obtain ⟨x, b, off, hx, ha, hc⟩ := h.at i hi
  exact ⟨x, b, off, hx, ha, hc 0 _ rfl, hc 1 _ rfl, hc 2 _ rfl⟩

/-- A table as a value: two slices. -/
def vtV (a : Option Addr) (n c : Nat) (o : Option Addr) (p q : Nat) : Value := .agg #[.slice a n c, .slice o p q]

/-- A table that can be read. -/
structure VTab (w : World) (a : Option Addr) (n c : Nat) (o : Option Addr) (p q : Nat) (v : VT) : Prop where
  rows : GRow vrowF w a n c v.rows
  own : IRow w o p q v.own

theorem VTab.below {w w' : World} {a : Option Addr} {n c : Nat} {o : Option Addr} {p q : Nat} {v : VT} (h : VTab w a n c o p q v) (hb : Below w.heap.size w w') : VTab w' a n c o p q v :=
  ⟨h.rows.below hb, h.own.below hb⟩

end Go.Proofs.Ytmlcjdfnoipihaa
