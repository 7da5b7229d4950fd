/-
  Both GetTlv by their contracts, their values written out.
-/
import Derived.Test.YtmlcjdfnoipihaaSpecGetc
namespace Go.Proofs.Ytmlcjdfnoipihaa
open Go.RowKit

theorem getTlv_byte (z : List Int) (t : Int) (hz : Byt z) : Byt (getTlv z t).2.1 := by
  unfold getTlv
  split
  · exact byte_nil
  · split
    · exact fun x hx => hz x (List.mem_of_mem_drop (List.mem_of_mem_take hx))
    · exact byte_nil
theorem getTlv_length (z : List Int) (t : Int) : (getTlv z t).2.1.length ≤ z.length := by
  unfold getTlv
  split
  · simp
  · split
    · simp; omega
    · simp

theorem madeT_of {w w' : World} {e : Ending} {r1 r3 : Int} {r4 : Bool} {P : List Int} (hP : Byt P) (h : ∃ ao n cap, e = .returned (.tuple #[.int .i64 r1, .slice ao n cap, .int .i64 r3, .bool r4]) ∧ w'.ownsRow w.heap.size 5 1 (.slice ao n cap) n (cB P) ∧ Below w.heap.size w w') :
    ∃ ao cap, e = .returned (.tuple #[.int .i64 r1, .slice ao P.length cap, .int .i64 r3, .bool r4]) ∧ w'.ownsRow w.heap.size 5 1 (.slice ao P.length cap) P.length (cB P) ∧ Row w' ao P.length cap P ∧ Below w.heap.size w w' := by
  obtain ⟨ao, n, cap, rfl, ho, hb⟩ := h
  have hn : P.length = n := by have := ho.1; simpa [cB] using this
  subst hn
  exact ⟨ao, cap, rfl, ho, row_own ho hP, hb⟩

end Go.Proofs.Ytmlcjdfnoipihaa
