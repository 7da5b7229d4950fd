/-
  What is not too great to be drawn of; the head of a slice of bytes.
-/
import Derived.Test.YtmlcjdfnoipihaaHelp
namespace Go.Proofs.Ytmlcjdfnoipihaa
open Go.RowKit

theorem big_no (a0 : Option Addr) (l0 c0 : Nat) (w : World) (h : ¬ 1048576 < l0) : Calls Try.prog 9 #[.slice a0 l0 c0] w fun e w' => e = .returned (.bool false) ∧ w' = w := by
  have i1 : ¬ (1048576 : Int) < l0 := by omega
  go_enter Try.func9, Try.ntmps9
  go_wp2
  go_ret
  exact ⟨rfl, rfl⟩

theorem Row.take {w : World} {ao : Option Addr} {n c : Nat} {zs : List Int} (h : Row w ao n c zs) (k : Nat) (hk : k ≤ n) : Row w ao k c (zs.take k) where
  size := by have := h.size; simp; omega
  le := by have := h.le; omega
  top := h.top
  nil := h.nil
  byte := fun z hz => h.byte z (List.mem_of_mem_take hz)
  cell := by
    rcases h.cell with h0 | ⟨b, off, ha, hc⟩
    · exact .inl (by omega)
    · exact .inr ⟨b, off, ha, fun i hi => by rw [hc i (by omega)]; simp [List.getD_eq_getElem?_getD, hi]⟩

end Go.Proofs.Ytmlcjdfnoipihaa
