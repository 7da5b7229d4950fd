/-
  What is answered of bytes that should hold a message.
-/
import Derived.Test.YtamglfhnhjgdjaaGreatDoorQG
import Derived.Test.YtamglfhnhjgdjaaGreatDoorValHelp
namespace Go.Proofs.YtamglfhnhjgdjaaGreatDoor
open Go.RowKit

/-- What is answered: the request that was read, or an empty one, and the code. -/
def GotM (g : Int × Option PD) (w : World) (e : Ending) (w' : World) : Prop :=
  ∃ k id a b ys lo cap, e = .returned (.tuple #[.agg #[.int .i64 k, .int .i64 id, .int .i64 a, .int .i64 b, .slice lo ys.length cap], .int .i64 g.1]) ∧ BOwns w' w.heap.size lo ys.length cap ys ∧ g.2.getD ⟨0, 0, 0, 0, []⟩ = ⟨k, id, a, b, ys.map BI.d⟩

theorem gotM_at {c : Int} {r : Option PD} {K I A B : Int} {L : List BD} (hr : r.getD ⟨0, 0, 0, 0, []⟩ = ⟨K, I, A, B, L⟩) {w : World} {e : Ending} {w' : World} (h : GotM (c, r) w e w') :
    ∃ ys lo cap, e = .returned (.tuple #[.agg #[.int .i64 K, .int .i64 I, .int .i64 A, .int .i64 B, .slice lo ys.length cap], .int .i64 c]) ∧ BOwns w' w.heap.size lo ys.length cap ys ∧ ys.map BI.d = L := by
  obtain ⟨k, id, a, b', ys, lo, cap, he, hbo, hg⟩ := h
  simp only at hg
  rw [hr] at hg
  simp only [PD.mk.injEq] at hg
  obtain ⟨rfl, rfl, rfl, rfl, rfl⟩ := hg
  exact ⟨ys, lo, cap, he, hbo, rfl⟩

/-- The library's handle of the type 'error', as start-up lays it. -/
def Hnd (w : World) : Prop := w.cell? ⟨0, 0, none⟩ = some (.iface 123 (.agg #[.pointer (some ⟨1, 49, none⟩)]))
theorem Hnd.below {w w' : World} (h : Hnd w) (hb : Below w.heap.size w w') : Hnd w' := (hb.cell (block_lt h)).trans h

end Go.Proofs.YtamglfhnhjgdjaaGreatDoor
