/-
  The specification's GetTlv by its contract where a part with a long length is there whole; and at all arguments.
-/
import Derived.Test.YtgfkpgdkkmgjkaaSpecGetb
namespace Go.Proofs.Ytgfkpgdkkmgjkaa
open Go.RowKit

end Go.Proofs.Ytgfkpgdkkmgjkaa
