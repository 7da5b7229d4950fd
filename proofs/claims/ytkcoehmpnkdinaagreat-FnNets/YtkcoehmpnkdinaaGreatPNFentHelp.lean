/-
  The law file's own helpers on entries by their contracts: a copy, whether two lists are the same, their size, the marks that are put and read again. (Typed ahead of the landing: not built yet.)
-/
import Derived.Test.YtkcoehmpnkdinaaGreatPNK02
namespace Go.Proofs.YtkcoehmpnkdinaaGreat
set_option maxRecDepth 100000
set_option maxHeartbeats 16000000
open Go.RowKit

def FE.zero:FE:=⟨0,0,0,0,false⟩

end Go.Proofs.YtkcoehmpnkdinaaGreat
