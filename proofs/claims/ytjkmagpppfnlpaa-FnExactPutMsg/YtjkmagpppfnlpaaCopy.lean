/-
  A copy of bytes, its value written out.
-/
import Derived.Test.YtjkmagpppfnlpaaHelp
namespace Go.Proofs.Ytjkmagpppfnlpaa
open Go.RowKit

end Go.Proofs.Ytjkmagpppfnlpaa
