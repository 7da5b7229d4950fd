/-
  The law file's own helpers on entries by their contracts: a copy, whether two lists are the same, their size, the marks that are put and read again. (Typed ahead of the landing: not built yet.)
-/
import Derived.Test.YtkoekkjfcaiagaaGreatPSK01
import Derived.Test.YtkoekkjfcaiagaaGreatPSK02
import Derived.Deep.RegionHeld3
namespace Go.Proofs.YtkoekkjfcaiagaaGreat
set_option maxRecDepth 100000
set_option maxHeartbeats 16000000
open Go.RowKit

def FE.zero:FE:=⟨0,0,0,0,false⟩

end Go.Proofs.YtkoekkjfcaiagaaGreat
