/-
  A copy of bytes, its value written out.
-/
import Derived.Test.YtodipecgophpaaaDoorHelp
namespace Go.Proofs.YtodipecgophpaaaDoor
open Go.RowKit

end Go.Proofs.YtodipecgophpaaaDoor
