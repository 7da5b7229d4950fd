/-
  Rows of flat records that a call owns: one record written anew, cell by cell; a row that was just made.
-/
import Derived.Test.YtmlcjdfnoipihaaFlat
namespace Go.Proofs.Ytmlcjdfnoipihaa
open Go.RowKit

variable {α : Type}

theorem Flat.all_set (F : Flat α) (pre : List α) (x x' : α) (post : List α) (j : Nat) (u : Value) (hj : j < F.k) (h : (F.cs x).set j u = F.cs x') : (F.all (pre ++ x :: post)).set (pre.length * F.k + j) u = F.all (pre ++ x' :: post) := by
  rw [F.all_append, F.all_cons, List.set_append_right _ _ (by rw [F.all_length]; omega), F.all_length, Nat.add_sub_cancel_left, List.set_append_left _ _ (by rw [F.len]; exact hj), h, F.all_append, F.all_cons]

/-- One cell of one record is written. -/
theorem flat_stored {F : Flat α} {w : World} {base g n cap : Nat} {T : TypeId} {pre post : List α} {x x' : α} (h : w.ownsRow base T F.k (.slice (some ⟨g, 0, none⟩) n cap) n (F.all (pre ++ x :: post))) (j : Nat) (u : Value) (hj : j < F.k) (hx : (F.cs x).set j u = F.cs x') :
    (w.setCell ⟨g, pre.length * F.k + j, none⟩ u).ownsRow base T F.k (.slice (some ⟨g, 0, none⟩) n cap) n (F.all (pre ++ x' :: post)) := by
  have := (h.stored (pre.length * F.k + j) u).1
  rw [F.all_set pre x x' post j u hj hx] at this
  exact this

theorem flat_made (F : Flat α) (z : α) (n : Nat) : (madeCells (F.cs z).toArray (n * F.k)).toList = F.all (List.replicate n z) := by
  have hp := F.pos
  apply List.ext_getElem?
  intro j
  by_cases hj : j < n * F.k
  · have hi : j / F.k < n := Nat.div_lt_of_lt_mul (by rw [Nat.mul_comm]; exact hj)
    have hm : j % F.k < (F.cs z).length := by rw [F.len]; exact Nat.mod_lt _ hp
    have hx : (List.replicate n z)[j / F.k]? = some z := by rw [List.getElem?_replicate, if_pos hi]
    have hv := List.getElem?_eq_getElem hm
    have ha := F.all_at _ _ _ hx _ _ hv
    rw [show j / F.k * F.k + j % F.k = j by rw [Nat.mul_comm]; exact Nat.div_add_mod j F.k] at ha
    rw [ha]
    simp only [madeCells, Array.toList_map, Array.toList_range, List.getElem?_map, List.getElem?_range hj, Option.map_some]
    simp [F.len]
    rw [hv]
    rfl
  · rw [List.getElem?_eq_none (by simp [madeCells]; omega), List.getElem?_eq_none (by rw [F.all_length]; simp; omega)]

/-- What the call owns stays while an elder block is written. -/
theorem gown_apart {w w' : World} {base k : Nat} {e : TypeId} {v : Value} {n : Nat} {xs : List Value} (h : w.ownsRow base e k v n xs) {row : Option Nat} (hg : w.grownBy w' row) (hlt : ∀ b, row = some b → b < base) : w'.ownsRow base e k v n xs := by
  refine h.kept hg ?_
  cases hv : v.ownBlock with
  | none => exact .inl rfl
  | some b =>
    refine .inr (fun e => ?_)
    have h1 := (h.lt b hv).1
    have h2 := hlt b e.symm
    omega

/-- The cells of one record of an owned row. -/
theorem flat_cells {F : Flat α} {w : World} {base g n cap : Nat} {T : TypeId} {l : List α} (h : w.ownsRow base T F.k (.slice (some ⟨g, 0, none⟩) n cap) n (F.all l)) {i : Nat} {x : α} (hx : l[i]? = some x) {j : Nat} {v : Value} (hv : (F.cs x)[j]? = some v) : w.cell? ⟨g, i * F.k + j, none⟩ = some v ∧ w.frozen? ⟨g, i * F.k + j, none⟩ = false := by
  have ha := F.all_at l i x hx j v hv
  have hlt := (List.getElem?_eq_some_iff.1 ha).1
  have h1 := h.1
  refine ⟨?_, h.frozenAt _⟩
  rw [h.cellAt _ (by rw [← h1]; exact hlt)]
  exact ha

theorem flat_addr {F : Flat α} {w : World} {base n cap : Nat} {T : TypeId} {ao : Option Addr} {l : List α} (h : w.ownsRow base T F.k (.slice ao n cap) n (F.all l)) (hn : 0 < n) : ∃ g, ao = some ⟨g, 0, none⟩ ∧ base ≤ g ∧ g < w.heap.size := by
  have hlt := h.lt
  rcases h.2 with ⟨e, h0⟩ | ⟨g, cap', cur, e, hg, _⟩
  · omega
  · cases e
    exact ⟨g, rfl, hg, (hlt g rfl).2⟩

end Go.Proofs.Ytmlcjdfnoipihaa
