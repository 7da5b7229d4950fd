/-
  The program's GetMsg answers as the document's mathematics has it.
-/
import Derived.Test.YtamglfhnhjgdjaaGreatDoorMsgGet
import Derived.Test.YtamglfhnhjgdjaaGreatDoorMsgIs
namespace Go.Proofs.YtamglfhnhjgdjaaGreatDoor
open Go.RowKit

theorem implIs : ImplIs := fun W ao n c z g hG w hr hs hg => implGetMsg_any W ao n c z g ((getJ_is (strB W) z).trans hG) w hr hs hg

end Go.Proofs.YtamglfhnhjgdjaaGreatDoor
