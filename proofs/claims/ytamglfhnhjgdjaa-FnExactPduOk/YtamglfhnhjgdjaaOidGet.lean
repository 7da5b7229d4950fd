/-
  GetOid, the specification's and the program's, with what they answer written out.
-/
import Derived.Test.YtamglfhnhjgdjaaGetIter
import Derived.Test.YtamglfhnhjgdjaaOidSpecGet
namespace Go.Proofs.Ytamglfhnhjgdjaa
open Go.RowKit

theorem getO_range (z : List Int) : I64s ((getO z).getD []) ∧ ((getO z).getD []).length ≤ 10 := by
  cases h : getO z with
  | none => exact ⟨(by intro y hy; cases hy), (by simp)⟩
  | some o =>
    obtain ⟨h1, h2, h3⟩ := ok_all (getO_is h).1
    exact ⟨fun y hy => by have := h1 y hy; omega, h3⟩

end Go.Proofs.Ytamglfhnhjgdjaa
