/-
  The law file's own helpers on ints by their contracts: a copy, whether two slices are the same, the marks that are put and read again.
-/
import Derived.Test.YtmlcjdfnoipihaaIBase
import Derived.Test.YtmlcjdfnoipihaaHelp
namespace Go.Proofs.Ytmlcjdfnoipihaa
open Go.RowKit

/-- A copy on its way: k of n bytes are laid. -/
def halfI (zs : List Int) (n k : Nat) : List Value := cI (zs.take k) ++ List.replicate (n - k) (.int .i64 0)

theorem halfI_length (zs : List Int) (n k : Nat) (h : zs.length = n) (hk : k ≤ n) : (halfI zs n k).length = n := by
  simp [halfI, cI_length]; omega

theorem halfI_set (zs : List Int) (n k : Nat) (h : zs.length = n) (hk : k < n) : (halfI zs n k).set k (.int .i64 (zs.getD k 0)) = halfI zs n (k + 1) := by
  have hl : (cI (zs.take k)).length = k := by simp [cI_length]; omega
  unfold halfI
  rw [List.set_append_right _ _ (by omega), hl, Nat.sub_self, take_succ_getD _ _ (by omega), cI_append]
  obtain ⟨m, hm⟩ : ∃ m, n - k = m + 1 := ⟨n - k - 1, by omega⟩
  have hm' : n - (k + 1) = m := by omega
  rw [hm, hm', List.replicate_succ, List.set_cons_zero]
  simp [cI]

theorem halfI_all (zs : List Int) (n : Nat) (h : zs.length = n) : halfI zs n n = cI zs := by
  simp [halfI, ← h]

theorem halfI_none (zs : List Int) (n : Nat) : halfI zs n 0 = List.replicate n (.int .i64 0) := by
  simp [halfI, cI]

/-- The marksI that are put into n bytes, from k on. -/
def marksI (k : Int) (n : Nat) : List Int := (List.range n).map fun i : Nat => (k + i)

theorem marksI_length (k : Int) (n : Nat) : (marksI k n).length = n := by simp [marksI]
theorem marksI_get (k : Int) (n i : Nat) (h : i < n) : (marksI k n).getD i 0 = (k + i) := by
  simp [marksI, List.getD_eq_getElem?_getD, List.getElem?_map, List.getElem?_range h]
theorem marksI_succ (k : Int) (n : Nat) : marksI k (n + 1) = marksI k n ++ [(k + n)] := by
  simp [marksI, List.range_succ]
theorem marksI_byte (k : Int) (n : Nat) (h0 : 0 ≤ k) (h1 : k ≤ 1099511627776) (hn : n ≤ 16777216) : I64s (marksI k n) := by
  intro z hz
  simp only [marksI, List.mem_map, List.mem_range] at hz
  obtain ⟨i, hi, rfl⟩ := hz
  omega

/-- Marks on their way: j of them are put, the rest is as it was. -/
def markedI (k : Int) (zs : List Int) (j : Nat) : List Int := marksI k j ++ zs.drop j

theorem markedI_set (k : Int) (zs : List Int) (j : Nat) (h : j < zs.length) : (cI (markedI k zs j)).set j (.int .i64 ((k + j))) = cI (markedI k zs (j + 1)) := by
  have hl : (cI (marksI k j)).length = j := by rw [cI_length, marksI_length]
  unfold markedI
  rw [cI_append, List.set_append_right _ _ (by omega), hl, Nat.sub_self, marksI_succ, cI_append, cI_append]
  rw [List.drop_eq_getElem_cons h]
  simp only [cI, List.map_cons, List.set_cons_zero, List.map_nil, List.append_assoc, List.cons_append, List.nil_append]

theorem markedI_length (k : Int) (zs : List Int) (j : Nat) (h : j ≤ zs.length) : (markedI k zs j).length = zs.length := by
  simp [markedI, marksI_length]; omega

/-- What the call owns can be read, its value written out. -/
theorem irow_own {w : World} {base : Nat} {ao : Option Addr} {n cap : Nat} {zs : List Int} (h : w.ownsRow base 3 1 (.slice ao n cap) n (cI zs)) (hz : I64s zs) : IRow w ao n cap zs := by
  obtain ⟨ao', cap', e, hr⟩ := irow_of_own h hz
  cases e
  exact hr

end Go.Proofs.Ytmlcjdfnoipihaa
