/-
  A copy of bytes, its value written out.
-/
import Derived.Test.YtamglfhnhjgdjaaHelp
namespace Go.Proofs.Ytamglfhnhjgdjaa
open Go.RowKit

end Go.Proofs.Ytamglfhnhjgdjaa
