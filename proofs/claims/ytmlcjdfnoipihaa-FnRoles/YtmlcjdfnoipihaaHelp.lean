/-
  The law file's own helpers by their contracts: a copy of bytes, whether two slices are the same, the marks that are put and read again.
-/
import Derived.Test.YtmlcjdfnoipihaaBase
namespace Go.Proofs.Ytmlcjdfnoipihaa
open Go.RowKit

theorem take_succ_getD (l : List Int) (k : Nat) (h : k < l.length) : l.take (k + 1) = l.take k ++ [l.getD k 0] := by
  rw [List.take_succ_eq_append_getElem h]; simp [h]

theorem eq_of_takes {a b : List Int} (hl : a.length = b.length) (h : a.take a.length = b.take a.length) : a = b := by
  rw [List.take_length, hl, List.take_length] at h; exact h

theorem ne_at {a b : List Int} (k : Nat) (h : ¬ a.getD k 0 = b.getD k 0) : ¬ a = b := by
  intro e; exact h (by rw [e])

theorem ret_bool {a b : Bool} (h : a = b) : Ending.returned (.bool a) = .returned (.bool b) := by rw [h]
theorem ret_int {k : IntKind} {a b : Int} (h : a = b) : Ending.returned (.int k a) = .returned (.int k b) := by rw [h]

/-- A copy on its way: k of n bytes are laid. -/
def half (zs : List Int) (n k : Nat) : List Value := cB (zs.take k) ++ List.replicate (n - k) (.int .u8 0)

theorem half_length (zs : List Int) (n k : Nat) (h : zs.length = n) (hk : k ≤ n) : (half zs n k).length = n := by
  simp [half, cB_length]; omega

theorem half_set (zs : List Int) (n k : Nat) (h : zs.length = n) (hk : k < n) : (half zs n k).set k (.int .u8 (zs.getD k 0)) = half zs n (k + 1) := by
  have hl : (cB (zs.take k)).length = k := by simp [cB_length]; omega
  unfold half
  rw [List.set_append_right _ _ (by omega), hl, Nat.sub_self, take_succ_getD _ _ (by omega), cB_append]
  obtain ⟨m, hm⟩ : ∃ m, n - k = m + 1 := ⟨n - k - 1, by omega⟩
  have hm' : n - (k + 1) = m := by omega
  rw [hm, hm', List.replicate_succ, List.set_cons_zero]
  simp [cB]

theorem half_all (zs : List Int) (n : Nat) (h : zs.length = n) : half zs n n = cB zs := by
  simp [half, ← h]

theorem half_none (zs : List Int) (n : Nat) : half zs n 0 = List.replicate n (.int .u8 0) := by
  simp [half, cB]

/-- The marks that are put into n bytes, from k on. -/
def marks (k : Int) (n : Nat) : List Int := (List.range n).map fun i : Nat => IntKind.u8.wrap (k + i)

theorem marks_length (k : Int) (n : Nat) : (marks k n).length = n := by simp [marks]
theorem marks_get (k : Int) (n i : Nat) (h : i < n) : (marks k n).getD i 0 = IntKind.u8.wrap (k + i) := by
  simp [marks, List.getD_eq_getElem?_getD, List.getElem?_map, List.getElem?_range h]
theorem marks_succ (k : Int) (n : Nat) : marks k (n + 1) = marks k n ++ [IntKind.u8.wrap (k + n)] := by
  simp [marks, List.range_succ]
theorem wrap_byte (x : Int) : 0 ≤ IntKind.u8.wrap x ∧ IntKind.u8.wrap x ≤ 255 := by
  simp [IntKind.wrap, IntKind.bits, IntKind.signed]; omega
theorem marks_byte (k : Int) (n : Nat) : Byt (marks k n) := by
  intro z hz
  simp only [marks, List.mem_map] at hz
  obtain ⟨i, _, rfl⟩ := hz
  exact wrap_byte _

/-- Marks on their way: j of them are put, the rest is as it was. -/
def marked (k : Int) (zs : List Int) (j : Nat) : List Int := marks k j ++ zs.drop j

theorem marked_set (k : Int) (zs : List Int) (j : Nat) (h : j < zs.length) : (cB (marked k zs j)).set j (.int .u8 (IntKind.u8.wrap (k + j))) = cB (marked k zs (j + 1)) := by
  have hl : (cB (marks k j)).length = j := by rw [cB_length, marks_length]
  unfold marked
  rw [cB_append, List.set_append_right _ _ (by omega), hl, Nat.sub_self, marks_succ, cB_append, cB_append]
  rw [List.drop_eq_getElem_cons h]
  simp only [cB, List.map_cons, List.set_cons_zero, List.map_nil, List.append_assoc, List.cons_append, List.nil_append]

theorem marked_length (k : Int) (zs : List Int) (j : Nat) (h : j ≤ zs.length) : (marked k zs j).length = zs.length := by
  simp [marked, marks_length]; omega

theorem grown_setCell {w0 w : World} {g : Nat} (h : w0.grownBy w (some g)) (j : Nat) (u : Value) : w0.grownBy (w.setCell ⟨g, j, none⟩ u) (some g) where
  os := h.os
  tape := h.tape
  output := h.output
  size := by have := h.size; simpa using this
  block := fun k hk hne => by
    rw [Below.heap_setCell _ _ _ _ (by intro e; exact hne (by rw [e]))]
    exact h.block k hk hne

/-- What the call owns can be read, its value written out. -/
theorem row_own {w : World} {base : Nat} {ao : Option Addr} {n cap : Nat} {zs : List Int} (h : w.ownsRow base 5 1 (.slice ao n cap) n (cB zs)) (hz : Byt zs) : Row w ao n cap zs := by
  obtain ⟨ao', cap', e, hr⟩ := row_of_own h hz
  cases e
  exact hr

/-- A younger row stays its owner's while an elder one is written. -/
theorem own_above {w w' : World} {base : Nat} {e : TypeId} {v : Value} {n : Nat} {xs : List Value} {row : Option Nat} (h : w.ownsRow base e 1 v n xs) (hg : w.grownBy w' row) (hr : ∀ k, row = some k → k < base) : w'.ownsRow base e 1 v n xs := by
  refine h.kept hg ?_
  cases hv : v.ownBlock with
  | none => exact .inl rfl
  | some k =>
    refine .inr ?_
    intro e
    have := hr k e.symm
    have := (h.lt k hv).1
    omega

theorem below_grown {B : Nat} {a w w' : World} {row : Option Nat} (h : Below B a w) (hg : w.grownBy w' row) (hB : B ≤ w.heap.size) (hr : ∀ k, row = some k → B ≤ k) : Below B a w' := h.grown hg hB hr

end Go.Proofs.Ytmlcjdfnoipihaa
