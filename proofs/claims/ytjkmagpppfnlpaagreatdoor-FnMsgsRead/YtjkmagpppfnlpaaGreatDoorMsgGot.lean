/-
  What is answered of bytes that should hold a message.
-/
import Derived.Test.YtjkmagpppfnlpaaGreatDoorBunF
import Derived.Test.YtjkmagpppfnlpaaGreatDoorBunD
namespace Go.Proofs.YtjkmagpppfnlpaaGreatDoor
open Go.RowKit

/-- What is answered: the request that was read, or an empty one, and the code. -/
def GotM (g : Int × Option PD) (w : World) (e : Ending) (w' : World) : Prop :=
  ∃ k id a b ys lo cap, e = .returned (.tuple #[.agg #[.int .i64 k, .int .i64 id, .int .i64 a, .int .i64 b, .slice lo ys.length cap], .int .i64 g.1]) ∧ BOwns w' w.heap.size lo ys.length cap ys ∧ g.2.getD ⟨0, 0, 0, 0, []⟩ = ⟨k, id, a, b, ys.map BI.d⟩

theorem gotM_at {c : Int} {r : Option PD} {K I A B : Int} {L : List BD} (hr : r.getD ⟨0, 0, 0, 0, []⟩ = ⟨K, I, A, B, L⟩) {w : World} {e : Ending} {w' : World} (h : GotM (c, r) w e w') :
    ∃ ys lo cap, e = .returned (.tuple #[.agg #[.int .i64 K, .int .i64 I, .int .i64 A, .int .i64 B, .slice lo ys.length cap], .int .i64 c]) ∧ BOwns w' w.heap.size lo ys.length cap ys ∧ ys.map BI.d = L := by
  obtain ⟨k, id, a, b', ys, lo, cap, he, hbo, hg⟩ := h
  simp only at hg
  rw [hr] at hg
  simp only [PD.mk.injEq] at hg
  obtain ⟨rfl, rfl, rfl, rfl, rfl⟩ := hg
  exact ⟨ys, lo, cap, he, hbo, rfl⟩

theorem below_set5 {B : Nat} {a w : World} (h : Below B a w) {g : Nat} (hB : B ≤ g) (c0 c1 c2 c3 c4 : Value) : Below B a (((((w.setCell ⟨g, 0, none⟩ c0).setCell ⟨g, 1, none⟩ c1).setCell ⟨g, 2, none⟩ c2).setCell ⟨g, 3, none⟩ c3).setCell ⟨g, 4, none⟩ c4) :=
  below_set (below_set (below_set (below_set (below_set h hB 0 c0) hB 1 c1) hB 2 c2) hB 3 c3) hB 4 c4

/-- The library's handle of the type 'error', as start-up lays it. -/
def Hnd (w : World) : Prop := w.cell? ⟨0, 0, none⟩ = some (.iface 129 (.agg #[.pointer (some ⟨1, 52, none⟩)]))
theorem Hnd.below {w w' : World} (h : Hnd w) (hb : Below w.heap.size w w') : Hnd w' := (hb.cell (block_lt h)).trans h

end Go.Proofs.YtjkmagpppfnlpaaGreatDoor
