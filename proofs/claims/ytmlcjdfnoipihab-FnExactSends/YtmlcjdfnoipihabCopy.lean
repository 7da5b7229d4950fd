/-
  A copy of bytes, its value written out.
-/
import Derived.Test.YtmlcjdfnoipihabHelp
namespace Go.Proofs.Ytmlcjdfnoipihab
open Go.RowKit

end Go.Proofs.Ytmlcjdfnoipihab
