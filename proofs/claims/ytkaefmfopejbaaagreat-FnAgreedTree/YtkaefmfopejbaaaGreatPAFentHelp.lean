/-
  The law file's own helpers on entries by their contracts: a copy, whether two lists are the same, their size, the marks that are put and read again. (Typed ahead of the landing: not built yet.)
-/
import Derived.Test.YtkaefmfopejbaaaGreatPAK02
namespace Go.Proofs.YtkaefmfopejbaaaGreat
set_option maxRecDepth 100000
set_option maxHeartbeats 16000000
open Go.RowKit

def markE (k:Int):FE:=⟨k,k+1,k+1+1,k+1+1+1,(k+1+1+1+1) % 3 == 0⟩
def znD (k:Int) (n:Nat):List FE:=(List.range n).map fun (i:Nat)=>markE (k+5*i)

end Go.Proofs.YtkaefmfopejbaaaGreat
