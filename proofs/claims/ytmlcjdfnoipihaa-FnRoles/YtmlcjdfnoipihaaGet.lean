/-
  A part read back: what GetTlv answers, as a plain function, and both Go functions by their contracts.
-/
import Derived.Test.YtmlcjdfnoipihaaTlv
import Derived.Deep.RegionWith
namespace Go.Proofs.Ytmlcjdfnoipihaa
open Go.RowKit

theorem wrap_small (x : Int) (h : 0 ≤ x ∧ x ≤ 255) : IntKind.i64.wrap x = x := by
  rw [IntKind.wrap_i64]; omega

/-- The length at a place: the length, the place behind it, whether it is there and said in its one form. -/
def lenAt (zs : List Int) (p : Nat) : Int × Int × Bool :=
  if zs.length ≤ p then (0, 0, false)
  else if zs.getD p 0 < 128 then (zs.getD p 0, p + 1, true)
  else if ¬ zs.getD p 0 = 129 then (0, 0, false)
  else if zs.length ≤ p + 1 then (0, 0, false)
  else (zs.getD (p + 1) 0, p + 2, decide (128 ≤ zs.getD (p + 1) 0) && decide (zs.getD (p + 1) 0 ≤ 250))

theorem ret_three {a b a' b' : Int} {c c' : Bool} (ha : a = a') (hb : b = b') (hc : c = c') : Ending.returned (.tuple #[.int .i64 a, .int .i64 b, .bool c]) = .returned (.tuple #[.int .i64 a', .int .i64 b', .bool c']) := by rw [ha, hb, hc]

theorem lenAt_ok {zs : List Int} (hz : Byt zs) {p : Nat} (h : (lenAt zs p).2.2 = true) : ∃ n f : Nat, lenAt zs p = ((n : Int), (f : Int), true) ∧ n ≤ 250 ∧ f ≤ zs.length ∧ p < f ∧ f ≤ p + 2 := by
  unfold lenAt at *
  have b1 := getD_byte hz p
  have b2 := getD_byte hz (p + 1)
  split at h
  · cases h
  split at h
  · rename_i h1 h2
    rw [if_neg h1, if_pos h2]
    exact ⟨(zs.getD p 0).toNat, p + 1, by rw [Int.toNat_of_nonneg b1.1]; rfl, by omega, by omega, by omega, by omega⟩
  split at h
  · cases h
  split at h
  · cases h
  rename_i h1 h2 h3 h4
  rw [if_neg h1, if_neg h2, if_neg h3, if_neg h4]
  simp only [Bool.and_eq_true, decide_eq_true_eq] at h
  refine ⟨(zs.getD (p + 1) 0).toNat, p + 2, ?_, by omega, by omega, by omega, by omega⟩
  rw [Int.toNat_of_nonneg b2.1]
  simp only [Prod.mk.injEq, true_and]
  exact ⟨rfl, by rw [decide_eq_true h.1, decide_eq_true h.2]; rfl⟩

/-- What is read at a place: its kind, its bytes, the place behind it, whether it is there whole. -/
def getTlv (zs : List Int) (t : Int) : Int × List Int × Int × Bool :=
  if t < 0 ∨ (zs.length : Int) ≤ t then (0, [], 0, false)
  else if (lenAt zs (t.toNat + 1)).2.2 = true ∧ (lenAt zs (t.toNat + 1)).1 ≤ zs.length - (lenAt zs (t.toNat + 1)).2.1 then
    (zs.getD t.toNat 0, (zs.drop (lenAt zs (t.toNat + 1)).2.1.toNat).take (lenAt zs (t.toNat + 1)).1.toNat, (lenAt zs (t.toNat + 1)).2.1 + (lenAt zs (t.toNat + 1)).1, true)
  else (0, [], 0, false)

/-- A cut of a row. -/
theorem Row.cut {w : World} {b off len cap : Nat} {zs : List Int} (h : Row w (some ⟨b, off, none⟩) len cap zs) (hc : ∀ i, i < len → w.cell? ⟨b, off + i, none⟩ = some (.int .u8 (zs.getD i 0))) (f n : Nat) (hf : f + n ≤ len) (ao : Option Addr) (c : Nat) (hcap : c = cap - f) (ha : 0 < n → ao = some ⟨b, off + f, none⟩) (hnn : ao = none → c = 0) :
    Row w ao n c ((zs.drop f).take n) where
  size := by have := h.size; simp; omega
  le := by have := h.le; omega
  top := by have := h.top; omega
  nil := hnn
  byte := fun z hz => h.byte z (List.mem_of_mem_drop (List.mem_of_mem_take hz))
  cell := by
    by_cases h0 : n = 0
    · exact .inl h0
    · refine .inr ⟨b, off + f, ha (by omega), fun i hi => ?_⟩
      rw [Nat.add_assoc, hc (f + i) (by omega)]
      simp [List.getD_eq_getElem?_getD, hi]

end Go.Proofs.Ytmlcjdfnoipihaa
