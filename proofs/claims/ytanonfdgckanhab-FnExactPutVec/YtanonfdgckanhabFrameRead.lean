/-
  The specification's reader, a number of a part of a given tag; what is got of bytes that should hold a frame.
-/
import Derived.Test.YtanonfdgckanhabSRead
import Derived.Test.YtanonfdgckanhabFrameMath
namespace Go.Proofs.Ytanonfdgckanhab
open Go.RowKit

/-- What is answered: the frame that was read, or an empty one. -/
def gotF (z : List Int) : Int × Int × Int × List Int × Bool :=
  match getF z with
  | some x => (x.d, x.s, x.g, x.z, true)
  | none => (0, 0, 0, [], false)
theorem gotF_some {z : List Int} {x : FD} (h : getF z = some x) : gotF z = (x.d, x.s, x.g, x.z, true) := by unfold gotF; rw [h]
theorem gotF_none {z : List Int} (h : getF z = none) : gotF z = (0, 0, 0, [], false) := by unfold gotF; rw [h]
theorem gotF_small {z : List Int} (hz : Byt z) {K N S : Int} {O : List Int} {ok : Bool} (h : gotF z = (K, N, S, O, ok)) : O.length ≤ 20 := by
  rcases hg : getF z with _ | x
  · rw [gotF_none hg] at h
    cases h
    exact Nat.zero_le _
  · rw [gotF_some hg] at h
    cases h
    exact (okF_parts (frame_read hz hg).1).2.2.2

theorem numT_some {zs : List Int} {tag t m nx : Int} (h : numT tag zs t = some (m, nx)) : ∃ b, getTlv zs t = (tag, b, nx, true) ∧ getInt b = (m, true) := by
  unfold numT at h
  split at h
  · rename_i b nx' hp
    split at h
    · rename_i hi
      simp only [Option.some.injEq, Prod.mk.injEq] at h
      obtain ⟨rfl, rfl⟩ := h
      exact ⟨b, part_some hp, Prod.ext rfl hi⟩
    · cases h
  · cases h

theorem numT_none {zs : List Int} {tag t : Int} (h : numT tag zs t = none) : partM zs t tag = none ∨ ∃ b nx m, getTlv zs t = (tag, b, nx, true) ∧ getInt b = (m, false) := by
  unfold numT at h
  split at h
  · rename_i b nx' hp
    split at h
    · cases h
    · rename_i hi
      exact .inr ⟨b, nx', (getInt b).1, part_some hp, Prod.ext rfl (by simpa using hi)⟩
  · exact .inl (by assumption)

end Go.Proofs.Ytanonfdgckanhab
