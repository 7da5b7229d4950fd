/-
  What is left when a row is dropped: as the specification has it.
-/
import Derived.Test.YtafonmfgeecopaaVtabSet
namespace Go.Proofs.Ytafonmfgeecopaa
open Go.RowKit

def dropRow (v : VT) (id : Int) : VT × Bool := match rowIdx v.rows id with
  | none => (v, false)
  | some k => if vtabOk v v.own.length then orV ⟨v.rows.take k ++ v.rows.drop (k + 1), v.own⟩ v else (v, false)

end Go.Proofs.Ytafonmfgeecopaa
