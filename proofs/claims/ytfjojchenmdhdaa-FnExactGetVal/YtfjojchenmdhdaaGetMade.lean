/-
  Both GetTlv by their contracts, their values written out.
-/
import Derived.Test.YtfjojchenmdhdaaSpecGetc
namespace Go.Proofs.Ytfjojchenmdhdaa
open Go.RowKit

theorem getTlv_byte (z : List Int) (t : Int) (hz : Byt z) : Byt (getTlv z t).2.1 := by
  unfold getTlv
  split
  · exact byte_nil
  · split
    · exact fun x hx => hz x (List.mem_of_mem_drop (List.mem_of_mem_take hx))
    · exact byte_nil
theorem getTlv_length (z : List Int) (t : Int) : (getTlv z t).2.1.length ≤ z.length := by
  unfold getTlv
  split
  · simp
  · split
    · simp; omega
    · simp

theorem madeT_of {w w' : World} {e : Ending} {r1 r3 : Int} {r4 : Bool} {P : List Int} (hP : Byt P) (h : ∃ ao n cap, e = .returned (.tuple #[.int .i64 r1, .slice ao n cap, .int .i64 r3, .bool r4]) ∧ w'.ownsRow w.heap.size 5 1 (.slice ao n cap) n (cB P) ∧ Below w.heap.size w w') :
    ∃ ao cap, e = .returned (.tuple #[.int .i64 r1, .slice ao P.length cap, .int .i64 r3, .bool r4]) ∧ w'.ownsRow w.heap.size 5 1 (.slice ao P.length cap) P.length (cB P) ∧ Row w' ao P.length cap P ∧ Below w.heap.size w w' := by
  obtain ⟨ao, n, cap, rfl, ho, hb⟩ := h
  have hn : P.length = n := by have := ho.1; simpa [cB] using this
  subst hn
  exact ⟨ao, cap, rfl, ho, row_own ho hP, hb⟩

theorem specGet_made (a1 : Option Addr) (l1 c1 : Nat) (z1 : List Int) (t : Int) (r1 r3 : Int) (r4 : Bool) (P : List Int) (hG : getTlv z1 t = (r1, P, r3, r4)) (w : World) (h1 : Row w a1 l1 c1 z1) (hs : l1 ≤ 3000000) :
    Calls Try.prog 43 #[.slice a1 l1 c1, .int .i64 t] w fun e w' => ∃ ao cap, e = .returned (.tuple #[.int .i64 r1, .slice ao P.length cap, .int .i64 r3, .bool r4]) ∧
      w'.ownsRow w.heap.size 5 1 (.slice ao P.length cap) P.length (cB P) ∧ Row w' ao P.length cap P ∧ Below w.heap.size w w' := by
  have hP : Byt P := by have := getTlv_byte z1 t h1.byte; rw [hG] at this; exact this
  have K := specGet_any a1 l1 c1 z1 t w h1 hs
  unfold SpecGet at K
  rw [hG] at K
  exact K.mono fun e w' h => madeT_of hP h

theorem implGet_made (a1 : Option Addr) (l1 c1 : Nat) (z1 : List Int) (t : Int) (r1 r3 : Int) (r4 : Bool) (P : List Int) (hG : getTlv z1 t = (r1, P, r3, r4)) (w : World) (h1 : Row w a1 l1 c1 z1) (hs : l1 ≤ 3000000) :
    Calls Try.prog 40 #[.slice a1 l1 c1, .int .i64 t] w fun e w' => ∃ ao cap, e = .returned (.tuple #[.int .i64 r1, .slice ao P.length cap, .int .i64 r3, .bool r4]) ∧
      w'.ownsRow w.heap.size 5 1 (.slice ao P.length cap) P.length (cB P) ∧ Row w' ao P.length cap P ∧ Below w.heap.size w w' := by
  have hP : Byt P := by have := getTlv_byte z1 t h1.byte; rw [hG] at this; exact this
  have K := implGet_any a1 l1 c1 z1 t w h1 hs
  rw [hG] at K
  exact K.mono fun e w' h => madeT_of hP h

end Go.Proofs.Ytfjojchenmdhdaa
