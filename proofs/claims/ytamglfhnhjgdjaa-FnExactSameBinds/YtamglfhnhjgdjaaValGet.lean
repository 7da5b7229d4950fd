/-
  A value out of its bytes, by the contract of the program.
-/
import Derived.Test.YtamglfhnhjgdjaaValPut
import Derived.Test.YtamglfhnhjgdjaaGetMade
import Derived.Test.YtamglfhnhjgdjaaGetNum
import Derived.Test.YtamglfhnhjgdjaaOidGet
import Derived.Laws.IdiomStrings
namespace Go.Proofs.Ytamglfhnhjgdjaa
open Go.RowKit

/-- What a kind's bytes say. -/
def getBody (k : Int) (body : List Int) : Option (Int × Int × ByteArray × List Int) :=
  if k = 2 then (if (getInt body).2 = true then some (2, (getInt body).1, ⟨#[]⟩, []) else none)
  else if k = 4 then (if body.length ≤ 20 then some (4, 0, byB body, []) else none)
  else if k = 6 then (getO body).map (fun o => (6, 0, ⟨#[]⟩, o))
  else if (k = 5 ∨ k = 128 ∨ k = 130) ∧ body.length = 0 then some (k, 0, ⟨#[]⟩, []) else none

def zeroV : Int × Int × ByteArray × List Int × Int × Bool := (0, 0, ⟨#[]⟩, [], 0, false)

def getV (zs : List Int) (t : Int) : Int × Int × ByteArray × List Int × Int × Bool :=
  if (getTlv zs t).2.2.2 = true then
    match getBody (getTlv zs t).1 (getTlv zs t).2.1 with
    | some (K, N, S, z) => (K, N, S, z, (getTlv zs t).2.2.1, true)
    | none => zeroV
  else zeroV

theorem Wor.v_iface (x : Wor) : ∃ t v, x.v = .iface t v := by cases x using Wor.byCase <;> exact ⟨_, _, rfl⟩

theorem bare_some {k : Int} (h : k = 5 ∨ k = 128 ∨ k = 130) : ∃ x, bareOf k = some x ∧ x.kind = k ∧ x.num = 0 ∧ x.str = ⟨#[]⟩ ∧ x.sl = .slice none 0 0 := by
  rcases h with rfl | rfl | rfl
  · exact ⟨.null, rfl, rfl, rfl, rfl, rfl⟩
  · exact ⟨.none, rfl, rfl, rfl, rfl, rfl⟩
  · exact ⟨.last, rfl, rfl, rfl, rfl, rfl⟩

theorem bare_is {k : Int} (h : (bareOf k).isSome = true) : k = 5 ∨ k = 128 ∨ k = 130 := by
  unfold bareOf at h
  repeat' split at h
  · exact .inl ‹_›
  · exact .inr (.inl ‹_›)
  · exact .inr (.inr ‹_›)
  · cases h

/-- All ways of a value that is read. -/
theorem getV_ways {z1 : List Int} {t K N : Int} {S : ByteArray} {O : List Int} {next : Int} {ok : Bool} (hG : getV z1 t = (K, N, S, O, next, ok)) {k : Int} {body : List Int} {nx : Int} {okT : Bool} (hT : getTlv z1 t = (k, body, nx, okT)) :
    (okT = false ∧ (K, N, S, O, next, ok) = zeroV) ∨
    (okT = true ∧ k = 2 ∧ (getInt body).2 = true ∧ (K, N, S, O, next, ok) = (2, (getInt body).1, ⟨#[]⟩, [], nx, true)) ∨
    (okT = true ∧ k = 2 ∧ (getInt body).2 = false ∧ (K, N, S, O, next, ok) = zeroV) ∨
    (okT = true ∧ k = 4 ∧ body.length ≤ 20 ∧ (K, N, S, O, next, ok) = (4, 0, byB body, [], nx, true)) ∨
    (okT = true ∧ k = 4 ∧ ¬ body.length ≤ 20 ∧ (K, N, S, O, next, ok) = zeroV) ∨
    (okT = true ∧ k = 6 ∧ ∃ o, getO body = some o ∧ (K, N, S, O, next, ok) = (6, 0, ⟨#[]⟩, o, nx, true)) ∨
    (okT = true ∧ k = 6 ∧ getO body = none ∧ (K, N, S, O, next, ok) = zeroV) ∨
    (okT = true ∧ (¬ k = 2 ∧ ¬ k = 4 ∧ ¬ k = 6) ∧ (k = 5 ∨ k = 128 ∨ k = 130) ∧ body.length = 0 ∧ (K, N, S, O, next, ok) = (k, 0, ⟨#[]⟩, [], nx, true)) ∨
    (okT = true ∧ (¬ k = 2 ∧ ¬ k = 4 ∧ ¬ k = 6) ∧ ((bareOf k).isSome && ((body.length : Int) == 0)) = false ∧ (K, N, S, O, next, ok) = zeroV) := by
  rw [← hG]
  cases okT
  · exact .inl ⟨rfl, by unfold getV; rw [hT]; simp⟩
  right
  have e : getV z1 t = (match getBody k body with | some (K, N, S, z) => (K, N, S, z, nx, true) | none => zeroV) := by unfold getV; rw [hT]; simp
  rw [e]
  by_cases k2 : k = 2
  · subst k2
    cases hi : (getInt body).2
    · right; left; exact ⟨rfl, rfl, rfl, by simp [getBody, hi]⟩
    · left; exact ⟨rfl, rfl, rfl, by simp [getBody, hi]⟩
  right; right
  by_cases k4 : k = 4
  · subst k4
    by_cases hl : body.length ≤ 20
    · left; exact ⟨rfl, rfl, hl, by simp [getBody, hl]⟩
    · right; left; exact ⟨rfl, rfl, hl, by simp [getBody, hl]⟩
  right; right
  by_cases k6 : k = 6
  · subst k6
    cases ho : getO body with
    | none => right; left; exact ⟨rfl, rfl, rfl, by simp [getBody, ho]⟩
    | some o => left; exact ⟨rfl, rfl, o, rfl, by simp [getBody, ho]⟩
  right; right
  by_cases hb : (k = 5 ∨ k = 128 ∨ k = 130) ∧ body.length = 0
  · left; exact ⟨rfl, ⟨k2, k4, k6⟩, hb.1, hb.2, by simp [getBody, k2, k4, k6, hb]⟩
  · right
    refine ⟨rfl, ⟨k2, k4, k6⟩, ?_, by unfold getBody; rw [if_neg k2, if_neg k4, if_neg k6, if_neg hb]⟩
    rw [Bool.eq_false_iff]
    intro h
    simp only [Bool.and_eq_true] at h
    exact hb ⟨bare_is h.1, by have := h.2; simp at this; exact List.length_eq_zero_iff.2 this⟩

end Go.Proofs.Ytamglfhnhjgdjaa
