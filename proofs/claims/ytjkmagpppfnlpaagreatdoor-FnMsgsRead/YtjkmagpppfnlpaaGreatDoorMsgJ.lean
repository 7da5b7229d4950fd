/-
  What stands ahead of the request in a message, whatever the text's length; what is told by it is what the document's mathematics tells.
-/
import Derived.Test.YtjkmagpppfnlpaaGreatDoorMsgMath
import Derived.Test.YtjkmagpppfnlpaaGreatDoorBunA
namespace Go.Proofs.YtjkmagpppfnlpaaGreatDoor
open Go.RowKit

/-- The number, the text and the bytes behind. -/
def headJ (z : List Int) : Option (Int × List Int × List Int) :=
  if (getTlv z 0).2.2.2 = true ∧ (getTlv z 0).1 = 48 ∧ (getTlv z 0).2.2.1 = z.length then
    match numM (getTlv z 0).2.1 0 with
    | none => none
    | some (n, t) =>
      match partM (getTlv z 0).2.1 t 4 with
      | none => none
      | some (s, u) => some (n, s, (getTlv z 0).2.1.drop u.toNat)
  else none

/-- What is told by it. -/
noncomputable def getJ (word z : List Int) : Int × Option PD :=
  match headJ z with
  | none => (1, none)
  | some (n, s, r) => if n = 1 then if s = word then toldM (getP r) else (3, none) else (2, none)

theorem getJ_is (word z : List Int) : getJ word z = getM word z := by
  unfold getJ headJ getM
  by_cases hc : (getTlv z 0).2.2.2 = true ∧ (getTlv z 0).1 = 48 ∧ (getTlv z 0).2.2.1 = z.length
  · rw [if_pos hc, if_pos hc]
    rcases hN : numM (getTlv z 0).2.1 0 with _ | ⟨n, t⟩
    · rfl
    · simp only
      rcases hP : partM (getTlv z 0).2.1 t 4 with _ | ⟨s, u⟩
      · rfl
      · rfl
  · rw [if_neg hc, if_neg hc]

theorem headJ_no {z : List Int} (h : headJ z = none) {k : Int} {body : List Int} {nx : Int} {ok : Bool} (hT : getTlv z 0 = (k, body, nx, ok)) :
    ¬ (ok = true ∧ k = 48 ∧ nx = z.length) ∨ (getTlv z 0 = (48, body, (z.length : Int), true) ∧ (numM body 0 = none ∨ ∃ m t, numM body 0 = some (m, t) ∧ partM body t 4 = none)) := by
  unfold headJ at h
  rw [hT] at h
  simp only at h
  by_cases hc : ok = true ∧ k = 48 ∧ nx = z.length
  · rw [if_pos hc] at h
    obtain ⟨rfl, rfl, rfl⟩ := hc
    refine .inr ⟨hT, ?_⟩
    rcases hN : numM body 0 with _ | ⟨m, t⟩
    · exact .inl rfl
    · refine .inr ⟨m, t, rfl, ?_⟩
      rw [hN] at h
      simp only at h
      rcases hp : partM body t 4 with _ | ⟨s, u⟩
      · rfl
      · rw [hp] at h
        cases h
  · exact .inl hc

theorem headJ_yes {z : List Int} {m : Int} {s r : List Int} (h : headJ z = some (m, s, r)) (hz : Byt z) :
    ∃ body t, ∃ q : Nat, getTlv z 0 = (48, body, (z.length : Int), true) ∧ numM body 0 = some (m, t) ∧ partM body t 4 = some (s, (q : Int)) ∧ s.length ≤ 250 ∧ 0 < q ∧ q ≤ body.length ∧ r = body.drop q ∧ Byt s := by
  rcases hT : getTlv z 0 with ⟨k, body, nx, ok⟩
  have hbb := getTlv_byte z 0 hz
  unfold headJ at h
  rw [hT] at h hbb
  simp only at h hbb
  split at h
  · rename_i hc
    obtain ⟨rfl, rfl, rfl⟩ := hc
    split at h
    · cases h
    · rename_i m' t hN
      split at h
      · cases h
      · rename_i s' u hP
        simp only [Option.some.injEq, Prod.mk.injEq] at h
        obtain ⟨rfl, rfl, rfl⟩ := h
        obtain ⟨p, q, hp, hq, hpq, hql, hok, -⟩ := tlv_lies hbb (part_some hP)
        subst hq
        refine ⟨body, t, q, rfl, hN, hP, ?_, by omega, hql, by simp, ?_⟩
        · unfold TlvOk at hok
          omega
        · have := getTlv_byte body t hbb
          rw [part_some hP] at this
          exact this
  · cases h

theorem headJ_small {z : List Int} {m : Int} {s r : List Int} (h : headJ z = some (m, s, r)) (hz : Byt z) : r.length ≤ z.length ∧ Byt s := by
  obtain ⟨body, t, q, hT, -, -, -, -, -, rfl, hsb⟩ := headJ_yes h hz
  refine ⟨?_, hsb⟩
  have := getTlv_length z 0
  rw [hT] at this
  simp at this ⊢
  omega

end Go.Proofs.YtjkmagpppfnlpaaGreatDoor
