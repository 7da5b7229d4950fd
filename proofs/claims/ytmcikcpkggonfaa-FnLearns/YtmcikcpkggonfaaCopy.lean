/-
  A copy of bytes, its value written out.
-/
import Derived.Test.YtmcikcpkggonfaaHelp
namespace Go.Proofs.Ytmcikcpkggonfaa
open Go.RowKit

end Go.Proofs.Ytmcikcpkggonfaa
