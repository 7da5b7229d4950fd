/-
  A copy of bytes, its value written out.
-/
import Derived.Test.YtfjojchenmdhdaaHelp
namespace Go.Proofs.Ytfjojchenmdhdaa
open Go.RowKit

theorem copy_made (a1 : Option Addr) (l1 c1 : Nat) (z1 : List Int) (w : World) (h1 : Row w a1 l1 c1 z1) (hs : l1 ≤ 16777216) :
    Calls Try.prog 24 #[.slice a1 l1 c1] w fun e w' => ∃ ao cap, e = .returned (.slice ao l1 cap) ∧
      w'.ownsRow w.heap.size 5 1 (.slice ao l1 cap) l1 (cB z1) ∧ Row w' ao l1 cap z1 ∧ Below w.heap.size w w' := by
  refine (copy_any a1 l1 c1 z1 w h1 hs).mono ?_
  rintro e w' ⟨rfl, ho, hb⟩
  exact ⟨_, _, rfl, ho, row_own ho h1.byte, hb⟩

end Go.Proofs.Ytfjojchenmdhdaa
