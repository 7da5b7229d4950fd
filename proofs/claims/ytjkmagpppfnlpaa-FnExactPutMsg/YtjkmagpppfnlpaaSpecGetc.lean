/-
  The specification's GetTlv by its contract where a part with a long length is there whole; and at all arguments.
-/
import Derived.Test.YtjkmagpppfnlpaaSpecGetb
namespace Go.Proofs.Ytjkmagpppfnlpaa
open Go.RowKit

end Go.Proofs.Ytjkmagpppfnlpaa
