/-
  ParseOid, the specification's and the program's, with what they answer written out.
-/
import Derived.Test.YtpnhockgaajihaaDoorParseIter
import Derived.Test.YtpnhockgaajihaaDoorTextSpec
namespace Go.Proofs.YtpnhockgaajihaaDoor
open Go.RowKit

theorem getT_range (t : List UInt8) : I64s ((getT t).getD []) ∧ ((getT t).getD []).length ≤ 10 := by
  unfold getT
  split
  · rename_i h
    obtain ⟨h1, h2, h3⟩ := ok_all h
    exact ⟨fun y hy => (by have := h1 y hy; omega), h3⟩
  · exact ⟨(by intro y hy; cases hy), (by simp)⟩

theorem implParse_row (s : ByteArray) (O : List Int) (ok : Bool) (hO : (getT s.data.toList).getD [] = O) (hok : (getT s.data.toList).isSome = ok) (w : World) (hs : s.size ≤ 1048576) :
    Calls Tryd.prog 12 #[.string s] w fun e w' => ∃ ao cap, e = .returned (.tuple #[.slice ao O.length cap, .bool ok]) ∧
      w'.ownsRow w.heap.size 3 1 (.slice ao O.length cap) O.length (cI O) ∧ IRow w' ao O.length cap O ∧ Below w.heap.size w w' := by
  subst hO
  subst hok
  refine (implParse_made s _ rfl w hs).mono ?_
  rintro e w' ⟨ao, cap, rfl, ho, hb⟩
  exact ⟨ao, cap, rfl, ho, irow_own ho (getT_range _).1, hb⟩

theorem specParse_row (s : ByteArray) (O : List Int) (ok : Bool) (hO : (getT s.data.toList).getD [] = O) (hok : (getT s.data.toList).isSome = ok) (w : World) (hs : s.size ≤ 1048576) :
    Calls Tryd.prog 13 #[.string s] w fun e w' => ∃ ao cap, e = .returned (.tuple #[.slice ao O.length cap, .bool ok]) ∧
      w'.ownsRow w.heap.size 3 1 (.slice ao O.length cap) O.length (cI O) ∧ IRow w' ao O.length cap O ∧ Below w.heap.size w w' := by
  subst hO
  subst hok
  refine (specParse_made s _ rfl w hs).mono ?_
  rintro e w' ⟨ao, cap, rfl, ho, hb⟩
  exact ⟨ao, cap, rfl, ho, irow_own ho (getT_range _).1, hb⟩

end Go.Proofs.YtpnhockgaajihaaDoor
