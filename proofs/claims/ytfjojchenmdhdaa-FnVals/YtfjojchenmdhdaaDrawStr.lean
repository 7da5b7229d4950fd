/-
  A text that is drawn out of a literal list.
-/
import Derived.Test.YtfjojchenmdhdaaDrawb
namespace Go.Proofs.Ytfjojchenmdhdaa
open Go.RowKit

def strOk : Value → Bool
  | .string S => decide (S.size ≤ 30)
  | _ => false

theorem strOk_is {v : Value} (h : strOk v = true) : ∃ S : ByteArray, v = .string S ∧ S.size ≤ 30 := by
  cases v with
  | string S => exact ⟨S, rfl, of_decide_eq_true h⟩
  | _ => cases h

set_option maxRecDepth 100000 in
set_option maxHeartbeats 400000 in
theorem pickS_any (C : Nat) (a0 : Option Addr) (l0 c0 : Nat) (z0 : List Int) (cs : Array Value) (B n : Nat) (w : World) (hc : Cur w C a0 l0 c0 z0) (hB : B = w.heap.size) (hn : cs.size = n) (hall : cs.all strOk = true) (hn0 : 0 < n) (hn1 : n ≤ 1000) :
    Calls Try.prog 70 #[.pointer (some ⟨C, 0, none⟩), .slice (some ⟨B, 0, none⟩) n n] (w.alloc (.cells cs 9)) fun e w' => ∃ S : ByteArray, S.size ≤ 30 ∧ e = .returned (.string S) ∧ Went w w' C a0 l0 c0 z0 := by
  subst hB
  have hb : Below w.heap.size w (w.alloc (.cells cs 9)) := (Below.refl _ _).alloc (Nat.le_refl _) _
  have hst := Went.start hc hb
  have hlt := hc.lt
  have hcell : ∀ j, j < n → ∃ S : ByteArray, (w.alloc (.cells cs 9)).cell? ⟨w.heap.size, j, none⟩ = some (.string S) ∧ S.size ≤ 30 := by
    intro j hj
    have hj' : j < cs.size := by omega
    have h1 : strOk cs[j] = true := (Array.all_eq_true.1 hall) j hj'
    obtain ⟨S, e, hS⟩ := strOk_is h1
    refine ⟨S, ?_, hS⟩
    have : (w.alloc (.cells cs 9)).cell? ⟨w.heap.size, j, none⟩ = cs[j]? := by simp
    rw [this, Array.getElem?_eq_getElem hj', e]
  have HC := hide hcell
  clear hcell hall
  generalize w.alloc (.cells cs 9) = w1 at *
  go_enter Try.func70, Try.ntmps70
  go_wp2_with fail
  refine (below_any C a0 l0 c0 z0 n _ hst.cur (by omega)).mono ?_
  rintro e w2 ⟨x, rfl, hx0, hx1, hx2, went⟩
  have hx1 := hx1 (by omega)
  obtain ⟨j, rfl⟩ : ∃ j : Nat, x = j := ⟨x.toNat, by omega⟩
  obtain ⟨S, hS, hSs⟩ := HC.out j (by omega)
  have cx : w2.cell? ⟨w.heap.size, j, none⟩ = some (.string S) := went.grown.cell hS (by intro e; simp at e; omega)
  clear hS
  go_wp2
  go_ret
  exact ⟨S, hSs, rfl, hst.trans went⟩

end Go.Proofs.Ytfjojchenmdhdaa
