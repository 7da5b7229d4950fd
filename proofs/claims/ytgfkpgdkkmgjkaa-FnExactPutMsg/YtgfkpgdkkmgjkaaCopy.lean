/-
  A copy of bytes, its value written out.
-/
import Derived.Test.YtgfkpgdkkmgjkaaHelp
namespace Go.Proofs.Ytgfkpgdkkmgjkaa
open Go.RowKit

end Go.Proofs.Ytgfkpgdkkmgjkaa
