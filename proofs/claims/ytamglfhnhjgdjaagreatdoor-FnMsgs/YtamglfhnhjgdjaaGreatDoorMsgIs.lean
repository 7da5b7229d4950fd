/-
  What the program's GetMsg is held to.
-/
import Derived.Test.YtamglfhnhjgdjaaGreatDoorMsgGot
import Derived.Test.YtamglfhnhjgdjaaGreatDoorQL
namespace Go.Proofs.YtamglfhnhjgdjaaGreatDoor
open Go.RowKit

/-- The program's GetMsg answers as the document's mathematics has it. -/
def ImplIs : Prop := ∀ (W : ByteArray) (ao : Option Addr) (n c : Nat) (z : List Int) (g : Int × Option PD), getM (strB W) z = g → ∀ (w : World), Row w ao n c z → n ≤ 1048576 → Hnd w →
    Calls Tryz.prog 10 #[.string W, .slice ao n c] w fun e w' => GotM g w e w' ∧ Below w.heap.size w w'

theorem gotM_len {c : Int} {r : Option PD} {K I A B : Int} {L : List BD} (hr : r.getD ⟨0, 0, 0, 0, []⟩ = ⟨K, I, A, B, L⟩) {w : World} {e : Ending} {w' : World} (h : GotM (c, r) w e w') :
    ∃ ys lo cap, e = .returned (.tuple #[.agg #[.int .i64 K, .int .i64 I, .int .i64 A, .int .i64 B, .slice lo L.length cap], .int .i64 c]) ∧ BOwns w' w.heap.size lo L.length cap ys ∧ ys.map BI.d = L := by
  obtain ⟨ys, lo, cap, he, hbo, rfl⟩ := gotM_at hr h
  exact ⟨ys, lo, cap, by simpa using he, by simpa using hbo, rfl⟩

end Go.Proofs.YtamglfhnhjgdjaaGreatDoor
