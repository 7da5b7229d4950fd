/-
  The specification's GetOid by its contract.
-/
import Derived.Test.YtamglfhnhjgdjaaOidNum
import Derived.Test.YtamglfhnhjgdjaaOidOk
import Derived.Test.YtamglfhnhjgdjaaIHelp
namespace Go.Proofs.Ytamglfhnhjgdjaa
open Go.RowKit

/-- What is read of a number when k groups are behind it, and whether it goes on. -/
structure Inn (z : List Int) (p k : Nat) (x : Int) (mo : Bool) : Prop where
  k4 : k ≤ 4
  le : p + k ≤ z.length
  lo : 0 ≤ x
  hi : x.toNat < 128 ^ k
  go : mo = true → Rd (z.drop p) k x.toNat
  done : mo = false → 1 ≤ k ∧ dec 0 (z.drop p) = (x.toNat, z.drop (p + k)) ∧ ((groups x.toNat).length = k → z.drop p = groups x.toNat ++ z.drop (p + k))

/-- The four variables of the inner loop. -/
def Inner (z : List Int) (p : Nat) (t5 t6 t7 t8 : Value) : Prop := ∃ (k : Nat) (x : Int) (mo : Bool), t5 = .int .i64 ((p + k : Nat) : Int) ∧ t6 = .int .i64 x ∧ t7 = .int .i64 (k : Int) ∧ t8 = .bool mo ∧ Inn z p k x mo

theorem Inn.start {z : List Int} {p : Nat} (h : p ≤ z.length) : Inn z p 0 0 true := ⟨by omega, by omega, by omega, by simp, fun _ => rd_start _, by intro h; cases h⟩

theorem Inn.small {z : List Int} {p k : Nat} {x : Int} {mo : Bool} (h : Inn z p k x mo) : x < 268435456 := by
  have h1 := h.hi
  have h2 : 128 ^ k ≤ 128 ^ 4 := Nat.pow_le_pow_right (by omega) h.k4
  have h3 := h.lo
  omega

theorem Inn.small3 {z : List Int} {p k : Nat} {x : Int} {mo : Bool} (h : Inn z p k x mo) (hk : k < 4) : x < 2097152 := by
  have h1 := h.hi
  have h2 : 128 ^ k ≤ 128 ^ 3 := Nat.pow_le_pow_right (by omega) (by omega)
  have h3 := h.lo
  omega

theorem Inn.more {z : List Int} {p k : Nat} {x y : Int} (h : Inn z p k x true) (hk : k < 4) (hl : p + k < z.length) (hy : z.getD (p + k) 0 = y) (h0 : 127 < y) (h1 : y ≤ 255) : Inn z p (k + 1) (x * 128 + y % 128) true where
  k4 := by omega
  le := by omega
  lo := by have := h.lo; omega
  hi := by have := h.hi; have := h.lo; rw [Nat.pow_succ]; omega
  go := fun _ => num_more (h.go rfl) hl h.lo hy (by omega) h1
  done := by intro h; cases h

theorem Inn.last {z : List Int} {p k : Nat} {x y : Int} (h : Inn z p k x true) (hk : k < 4) (hl : p + k < z.length) (hy : z.getD (p + k) 0 = y) (h0 : 0 ≤ y) (h1 : y ≤ 127) : Inn z p (k + 1) (x * 128 + y) false where
  k4 := by omega
  le := by omega
  lo := by have := h.lo; omega
  hi := by have := h.hi; have := h.lo; rw [Nat.pow_succ]; omega
  go := by intro h; cases h
  done := by
    intro _
    have hk : k < (z.drop p).length := by simp; omega
    have hz : (z.drop p).getD k 0 = y := by rw [getD_drop]; exact hy
    obtain ⟨e1, e2, _⟩ := rd_last (h.go rfl) hk hz h0 (by omega)
    have ev : x.toNat * 128 + y.toNat = (x * 128 + y).toNat := by have := h.lo; omega
    rw [ev, List.drop_drop] at e1 e2
    exact ⟨by omega, e1, e2⟩

theorem Inn.bad {z : List Int} {p k : Nat} {x : Int} (h : Inn z p k x true) (he : ¬ p + k < z.length ∨ ¬ k < 4) : NoNum (z.drop p) := by
  rcases he with he | he
  · exact num_end (h.go rfl) (by have := h.le; omega)
  · obtain rfl : k = 4 := by have := h.k4; omega
    intro m hm y
    exact no_end4 (h.go rfl).2.1 hm y

theorem Inn.bad_size {z : List Int} {p k : Nat} {x : Int} (h : Inn z p k x false) (hl : (groups x.toNat).length ≠ k) : NoNum (z.drop p) := by
  obtain ⟨_, e1, _⟩ := h.done rfl
  rw [← List.drop_drop] at e1
  exact Go.Proofs.Ytamglfhnhjgdjaa.bad_size e1 (by have := h.le; simp; omega) hl

/-- What is read of a name. -/
structure Out (z : List Int) (p : Nat) (o : List Int) : Prop where
  le : p ≤ z.length
  len : o.length ≤ 11
  rng : ∀ x ∈ o, 0 ≤ x ∧ x < 268435456
  is : flatO o ++ z.drop p = z

theorem Out.start (z : List Int) : Out z 0 [] := ⟨Nat.zero_le _, by simp, by simp, by simp [flatO]⟩
theorem Out.none {z : List Int} {p : Nat} {o : List Int} (h : Out z p o) (hp : p < z.length) (hn : NoNum (z.drop p)) : getO z = none :=
  getO_none (none_bad h.is (fun x hx => (h.rng x hx).1) (by intro e; have := congrArg List.length e; simp at this; omega) hn)
theorem Out.more {z : List Int} {p k : Nat} {o : List Int} {x : Int} (h : Out z p o) (ho : o.length ≤ 10) (hi : Inn z p k x false) (hl : (groups x.toNat).length = k) : Out z (p + k) (o ++ [x]) where
  le := hi.le
  len := by simp; omega
  rng := by
    intro y hy
    rcases List.mem_append.1 hy with h1 | h1
    · exact h.rng y h1
    · simp at h1; rw [h1]; exact ⟨hi.lo, hi.small⟩
  is := by
    obtain ⟨_, _, e2⟩ := hi.done rfl
    rw [flat_snoc, List.append_assoc, ← e2 hl]; exact h.is
theorem Out.long {z : List Int} {p : Nat} {o : List Int} (h : Out z p o) (ho : 10 < o.length) : getO z = Option.none :=
  getO_none (none_long h.is (fun x hx => (h.rng x hx).1) (.inl ho))
theorem Out.end {z : List Int} {o : List Int} (h : Out z z.length o) : getO z = if oidOk o = true then some o else Option.none := by
  have hf : flatO o = z := by have := h.is; simpa using this
  by_cases hok : oidOk o = true
  · rw [if_pos hok]; exact getO_some hok hf
  · rw [if_neg hok]; exact getO_none (none_not hf (fun x hx => (h.rng x hx).1) hok)

end Go.Proofs.Ytamglfhnhjgdjaa
