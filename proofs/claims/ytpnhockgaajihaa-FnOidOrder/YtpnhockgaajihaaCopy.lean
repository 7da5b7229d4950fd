/-
  A copy of bytes, its value written out.
-/
import Derived.Test.YtpnhockgaajihaaHelp
namespace Go.Proofs.Ytpnhockgaajihaa
open Go.RowKit

end Go.Proofs.Ytpnhockgaajihaa
