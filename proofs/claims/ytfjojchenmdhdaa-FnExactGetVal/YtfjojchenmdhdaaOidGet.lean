/-
  GetOid, the specification's and the program's, with what they answer written out.
-/
import Derived.Test.YtfjojchenmdhdaaGetIter
import Derived.Test.YtfjojchenmdhdaaOidSpecGet
namespace Go.Proofs.Ytfjojchenmdhdaa
open Go.RowKit

theorem getO_range (z : List Int) : I64s ((getO z).getD []) ∧ ((getO z).getD []).length ≤ 10 := by
  cases h : getO z with
  | none => exact ⟨(by intro y hy; cases hy), (by simp)⟩
  | some o =>
    obtain ⟨h1, h2, h3⟩ := ok_all (getO_is h).1
    exact ⟨fun y hy => by have := h1 y hy; omega, h3⟩

theorem implGet_row (a1 : Option Addr) (l1 c1 : Nat) (z1 O : List Int) (ok : Bool) (hO : (getO z1).getD [] = O) (hok : (getO z1).isSome = ok) (w : World) (h1 : Row w a1 l1 c1 z1) (hs : l1 ≤ 1048576) :
    Calls Try.prog 74 #[.slice a1 l1 c1] w fun e w' => ∃ ao cap, e = .returned (.tuple #[.slice ao O.length cap, .bool ok]) ∧
      w'.ownsRow w.heap.size 3 1 (.slice ao O.length cap) O.length (cI O) ∧ IRow w' ao O.length cap O ∧ Below w.heap.size w w' := by
  subst hO
  subst hok
  refine (implGetO_made a1 l1 c1 z1 _ rfl w h1 hs).mono ?_
  rintro e w' ⟨ao, cap, rfl, ho, hb⟩
  exact ⟨ao, cap, rfl, ho, irow_own ho (getO_range z1).1, hb⟩

theorem specGet_row (a1 : Option Addr) (l1 c1 : Nat) (z1 O : List Int) (ok : Bool) (hO : (getO z1).getD [] = O) (hok : (getO z1).isSome = ok) (w : World) (h1 : Row w a1 l1 c1 z1) (hs : l1 ≤ 1048576) :
    Calls Try.prog 45 #[.slice a1 l1 c1] w fun e w' => ∃ ao cap, e = .returned (.tuple #[.slice ao O.length cap, .bool ok]) ∧
      w'.ownsRow w.heap.size 3 1 (.slice ao O.length cap) O.length (cI O) ∧ IRow w' ao O.length cap O ∧ Below w.heap.size w w' := by
  subst hO
  subst hok
  refine (specGetO_made a1 l1 c1 z1 _ rfl w h1 hs).mono ?_
  rintro e w' ⟨ao, cap, rfl, ho, hb⟩
  exact ⟨ao, cap, rfl, ho, irow_own ho (getO_range z1).1, hb⟩

end Go.Proofs.Ytfjojchenmdhdaa
