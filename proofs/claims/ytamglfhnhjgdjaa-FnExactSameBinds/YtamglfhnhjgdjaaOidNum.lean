/-
  numberAt by its contract: the number at a place, the place behind it, and whether it is right.
-/
import Derived.Test.YtamglfhnhjgdjaaGroup
namespace Go.Proofs.Ytamglfhnhjgdjaa
open Go.RowKit

theorem getD_drop (l : List Int) (i k : Nat) : (l.drop i).getD k 0 = l.getD (i + k) 0 := by
  simp [List.getD_eq_getElem?_getD, List.getElem?_drop]

/-- No right number begins here. -/
def NoNum (rest : List Int) : Prop := ∀ m, m ≤ 100000 → ∀ x, rest ≠ groups m ++ x

/-- What numberAt says of the bytes from a place on. -/
structure Num (z : List Int) (p : Nat) (n q : Int) (ok : Bool) : Prop where
  lo : 0 ≤ n
  hi : n ≤ 12800127
  yes : ok = true → n ≤ 100000 ∧ ∃ j : Nat, 1 ≤ j ∧ p + j ≤ z.length ∧ q = ((p + j : Nat) : Int) ∧ z.drop p = groups n.toNat ++ z.drop (p + j)
  no : ok = false → NoNum (z.drop p)

/-- What numberAt answers. -/
def NumAns (z : List Int) (p : Nat) (e : Ending) : Prop := ∃ n q ok, e = .returned (.tuple #[.int .i64 n, .int .i64 q, .bool ok]) ∧ Num z p n q ok

theorem num_bad {z : List Int} {p : Nat} (h : NoNum (z.drop p)) : Num z p 0 0 false := ⟨by omega, by omega, (by intro h; cases h), fun _ => h⟩

theorem head_drop {z : List Int} {p : Nat} (h : p < z.length) : (z.drop p).head? = some (z.getD p 0) := by
  rw [List.head?_drop, List.getElem?_eq_getElem h]; simp [h]

theorem num_128 {z : List Int} {p : Nat} (h : p < z.length) (h1 : z.getD p 0 = 128) : NoNum (z.drop p) := by
  intro m _ x e
  rw [drop_at h, h1] at e
  exact groups_head m x _ e.symm

theorem num_last {z : List Int} {p k : Nat} {x y : Int} (hr : Rd (z.drop p) k x.toNat) (h : p + k < z.length) (hx : 0 ≤ x ∧ x ≤ 100000) (hy : z.getD (p + k) 0 = y) (h0 : 0 ≤ y) (h1 : y < 128) (hh : (z.drop p).head? ≠ some 128) :
    Num z p (x * 128 + y) ((p + k + 1 : Nat) : Int) (decide (x * 128 + y ≤ 100000)) := by
  have hk : k < (z.drop p).length := by simp; omega
  have hz : (z.drop p).getD k 0 = y := by rw [getD_drop]; exact hy
  obtain ⟨e1, _, e3⟩ := rd_last hr hk hz h0 h1
  have ev : x.toNat * 128 + y.toNat = (x * 128 + y).toNat := by omega
  rw [ev] at e1 e3
  refine ⟨by omega, by omega, ?_, ?_⟩
  · intro hq
    have hq' := of_decide_eq_true hq
    refine ⟨hq', k + 1, by omega, by omega, by rw [Nat.add_assoc], ?_⟩
    have := e3 hh
    rw [List.drop_drop] at this
    exact this
  · intro hq
    have hq' := of_decide_eq_false hq
    exact bad_great' e1 (by omega)

theorem num_more {z : List Int} {p k : Nat} {x y : Int} (hr : Rd (z.drop p) k x.toNat) (h : p + k < z.length) (hx : 0 ≤ x) (hy : z.getD (p + k) 0 = y) (h0 : 128 ≤ y) (h1 : y ≤ 255) : Rd (z.drop p) (k + 1) (x * 128 + y % 128).toNat := by
  have hk : k < (z.drop p).length := by simp; omega
  have hz : (z.drop p).getD k 0 = y := by rw [getD_drop]; exact hy
  have := rd_more hr hk hz h0 h1
  have ev : x.toNat * 128 + (y.toNat - 128) = (x * 128 + y % 128).toNat := by omega
  rw [ev] at this
  exact this

theorem num_end {z : List Int} {p k : Nat} {n : Nat} (hr : Rd (z.drop p) k n) (h : p + k = z.length) : NoNum (z.drop p) := by
  intro m _ x
  refine no_end ?_ m x
  have : (z.drop p).take k = z.drop p := List.take_of_length_le (by simp; omega)
  have h2 := hr.2.1
  rw [this] at h2
  exact h2

theorem num_great {z : List Int} {p k : Nat} {n : Nat} (hr : Rd (z.drop p) k n) (h : 100000 < n) : NoNum (z.drop p) := bad_great hr.1 h

end Go.Proofs.Ytamglfhnhjgdjaa
