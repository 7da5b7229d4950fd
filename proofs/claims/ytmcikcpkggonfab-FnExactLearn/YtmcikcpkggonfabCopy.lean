/-
  A copy of bytes, its value written out.
-/
import Derived.Test.YtmcikcpkggonfabHelp
namespace Go.Proofs.Ytmcikcpkggonfab
open Go.RowKit

end Go.Proofs.Ytmcikcpkggonfab
