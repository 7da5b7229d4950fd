/-
  The iterator over a name's bytes by its contract, and the program's GetOid.
-/
import Derived.Test.YtamglfhnhjgdjaaOidNum
import Derived.Test.YtamglfhnhjgdjaaGather
namespace Go.Proofs.Ytamglfhnhjgdjaa
open Go.RowKit Go.Shelf

attribute [local go_sem] Oper.semAt_some

/-- All that is handed out of the bytes z. -/
def Came (z : List Int) (ys : List (Int × Bool)) : Prop := (∀ x ∈ ys, 0 ≤ x.1 ∧ x.1 ≤ 12800127) ∧ (((∀ x ∈ ys, x.2 = true) ∧ flatO (nums ys) = z) ∨ ((∃ x ∈ ys, x.2 = false) ∧ NoOid z))
/-- A part of it. -/
def Prt (z : List Int) (ys : List (Int × Bool)) : Prop := (∀ x ∈ ys, 0 ≤ x.1 ∧ x.1 ≤ 12800127) ∧ (((∀ x ∈ ys, x.2 = true) ∧ ∃ rest, flatO (nums ys) ++ rest = z) ∨ NoOid z)

theorem nums_pos {ys : List (Int × Bool)} (h : ∀ x ∈ ys, 0 ≤ x.1 ∧ x.1 ≤ 12800127) : ∀ z ∈ nums ys, 0 ≤ z := by
  intro z hz
  simp only [nums, List.mem_map] at hz
  obtain ⟨y, hy, rfl⟩ := hz
  exact (h y hy).1

theorem came_is {z : List Int} {ys : List (Int × Bool)} (h : Came z ys) (ha : ∀ x ∈ ys, x.2 = true) : getO z = if oidOk (nums ys) = true then some (nums ys) else none := by
  obtain ⟨hr, ⟨_, hf⟩ | ⟨⟨x, hx, h0⟩, _⟩⟩ := h
  · by_cases hok : oidOk (nums ys) = true
    · rw [if_pos hok]; exact getO_some hok hf
    · rw [if_neg hok]; exact getO_none (none_not hf (nums_pos hr) hok)
  · rw [ha x hx] at h0; cases h0

theorem prt_is {z : List Int} {pre : List (Int × Bool)} (h : Prt z pre) (hb : Bad pre) : getO z = none := by
  obtain ⟨hr, ⟨ha, rest, hf⟩ | hn⟩ := h
  · rcases hb with ⟨x, hx, h0⟩ | h0
    · rw [ha x hx] at h0; cases h0
    · exact getO_none (none_long hf (nums_pos hr) (.inl (by rw [nums_length]; exact h0)))
  · exact getO_none hn

theorem all_snoc {p : Int × Bool → Prop} {pre : List (Int × Bool)} {x : Int × Bool} (h : ∀ y ∈ pre, p y) (hx : p x) : ∀ y ∈ pre ++ [x], p y := by
  intro y hy
  rcases List.mem_append.1 hy with h1 | h1
  · exact h y h1
  · simp at h1; rw [h1]; exact hx

/-- What the iterator has handed out when it stands at a place. -/
structure At (z : List Int) (p : Nat) (pre : List (Int × Bool)) : Prop where
  le : p ≤ z.length
  len : pre.length ≤ p
  rng : ∀ x ∈ pre, 0 ≤ x.1 ∧ x.1 ≤ 12800127
  all : ∀ x ∈ pre, x.2 = true
  is : flatO (nums pre) ++ z.drop p = z

theorem At.start (z : List Int) : At z 0 [] := ⟨Nat.zero_le _, Nat.le_refl _, by simp, by simp, by simp [nums, flatO]⟩

theorem At.step {z : List Int} {p : Nat} {pre : List (Int × Bool)} {n q : Int} (h : At z p pre) (hN : Num z p n q true) : ∃ p' : Nat, q = (p' : Int) ∧ p < p' ∧ At z p' (pre ++ [(n, true)]) := by
  obtain ⟨h1, j, hj, hl, rfl, hd⟩ := hN.yes rfl
  refine ⟨p + j, rfl, by omega, hl, ?_, all_snoc h.rng ⟨hN.lo, hN.hi⟩, all_snoc h.all rfl, ?_⟩
  · have := h.len; simp; omega
  · rw [nums_snoc, flat_snoc, List.append_assoc, ← hd]; exact h.is

theorem At.none {z : List Int} {p : Nat} {pre : List (Int × Bool)} {n q : Int} (h : At z p pre) (hp : p < z.length) (hN : Num z p n q false) : NoOid z :=
  none_bad h.is (nums_pos h.rng) (by intro e; have := congrArg List.length e; simp at this; omega) (hN.no rfl)

theorem At.came {z : List Int} {pre : List (Int × Bool)} (h : At z z.length pre) : Came z pre := ⟨h.rng, .inl ⟨h.all, by have := h.is; simpa using this⟩⟩
theorem At.prt {z : List Int} {p : Nat} {pre : List (Int × Bool)} (h : At z p pre) : Prt z pre := ⟨h.rng, .inl ⟨h.all, _, h.is⟩⟩

end Go.Proofs.Ytamglfhnhjgdjaa
