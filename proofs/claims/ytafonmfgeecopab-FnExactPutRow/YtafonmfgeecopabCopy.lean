/-
  A copy of bytes, its value written out.
-/
import Derived.Test.YtafonmfgeecopabHelp
namespace Go.Proofs.Ytafonmfgeecopab
open Go.RowKit

end Go.Proofs.Ytafonmfgeecopab
