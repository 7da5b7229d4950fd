/-
  A copy of bytes, its value written out.
-/
import Derived.Test.YtodipecgophpaaaHelp
namespace Go.Proofs.Ytodipecgophpaaa
open Go.RowKit

end Go.Proofs.Ytodipecgophpaaa
