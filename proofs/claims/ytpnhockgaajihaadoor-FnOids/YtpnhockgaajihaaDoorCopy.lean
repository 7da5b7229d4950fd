/-
  A copy of bytes, its value written out.
-/
import Derived.Test.YtpnhockgaajihaaDoorHelp
namespace Go.Proofs.YtpnhockgaajihaaDoor
open Go.RowKit

end Go.Proofs.YtpnhockgaajihaaDoor
