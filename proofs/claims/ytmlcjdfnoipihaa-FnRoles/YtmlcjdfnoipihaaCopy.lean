/-
  A copy of bytes, its value written out.
-/
import Derived.Test.YtmlcjdfnoipihaaHelp
namespace Go.Proofs.Ytmlcjdfnoipihaa
open Go.RowKit

end Go.Proofs.Ytmlcjdfnoipihaa
