/-
  The specification's GetTlv by its contract where a part is there whole.
-/
import Derived.Test.YtmlcjdfnoipihaaSpecGet
namespace Go.Proofs.Ytmlcjdfnoipihaa
open Go.RowKit

theorem wrap_in (x : Int) (h : -9223372036854775808 ≤ x ∧ x ≤ 9223372036854775807) : IntKind.i64.wrap x = x := by
  rw [IntKind.wrap_i64]; omega

end Go.Proofs.Ytmlcjdfnoipihaa
