/-
  A copy of bytes, its value written out.
-/
import Derived.Test.YtafonmfgeecopaaHelp
namespace Go.Proofs.Ytafonmfgeecopaa
open Go.RowKit

end Go.Proofs.Ytafonmfgeecopaa
