/-
  The specification's GetTlv by its contract where a part with a long length is there whole; and at all arguments.
-/
import Derived.Test.YtmlcjdfnoipihaaSpecGetb
namespace Go.Proofs.Ytmlcjdfnoipihaa
open Go.RowKit

end Go.Proofs.Ytmlcjdfnoipihaa
