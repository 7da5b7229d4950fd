/-
  A value out of its bytes, by the contract of the specification.
-/
import Derived.Test.YtamglfhnhjgdjaaValGet
namespace Go.Proofs.Ytamglfhnhjgdjaa
open Go.RowKit

theorem getTlv_none {z : List Int} {t k nx : Int} {body : List Int} (h : getTlv z t = (k, body, nx, false)) : k = 0 ∧ body = [] ∧ nx = 0 := by
  unfold getTlv at h
  split at h
  · cases h; exact ⟨rfl, rfl, rfl⟩
  · split at h
    · cases h
    · cases h; exact ⟨rfl, rfl, rfl⟩

theorem set_other {w : World} {g i j : Nat} {u : Value} {o : Obj} (h : w.heap[i]? = some o) (hne : g ≠ i) : (w.setCell ⟨g, j, none⟩ u).heap[i]? = some o := by
  rw [Below.heap_setCell _ _ _ _ (by intro e; exact hne e.symm)]; exact h
theorem set_one {w : World} {g : Nat} {u c0 c1 c2 c3 : Value} {t : TypeId} (h : w.heap[g]? = some (.cells #[c0, c1, c2, c3] t)) : (w.setCell ⟨g, 1, none⟩ u).heap[g]? = some (.cells #[c0, u, c2, c3] t) := by
  simp [World.setCell, Array.getElem?_modify, h]
theorem set_three {w : World} {g : Nat} {u c0 c1 c2 c3 : Value} {t : TypeId} (h : w.heap[g]? = some (.cells #[c0, c1, c2, c3] t)) : (w.setCell ⟨g, 3, none⟩ u).heap[g]? = some (.cells #[c0, c1, c2, u] t) := by
  simp [World.setCell, Array.getElem?_modify, h]

theorem int_ok {body : List Int} (hb : Byt body) {n : Int} (h : getInt body = (n, true)) : okV 2 n ⟨#[]⟩ [] = true := by
  have hb : -2147483648 ≤ n ∧ n ≤ 2147483647 := by
    unfold getInt at h
    split at h
    · cases h
    · split at h
      · cases h; exact val_bd hb _ (by omega)
      · cases h
  have hc : clip n = n := by unfold clip; rw [if_neg (by omega), if_neg (by omega)]
  simp [okV, hc]
theorem text_ok {body : List Int} : okV 4 0 (byB body) [] = decide (body.length ≤ 20) := by
  simp [okV, byB_size]
  omega
theorem oid_ok {o : List Int} (h : oidOk o = true) : okV 6 0 ⟨#[]⟩ o = true := by
  simp [okV, h]
theorem bare_ok {k : Int} (k2 : ¬ k = 2) (k4 : ¬ k = 4) (k6 : ¬ k = 6) : okV k 0 ⟨#[]⟩ [] = (bareOf k).isSome := by
  unfold okV bareOf
  rw [if_neg k2, if_neg k4, if_neg k6]
  by_cases h5 : k = 5
  · simp [h5]
  by_cases h128 : k = 128
  · simp [h128]
  by_cases h130 : k = 130
  · simp [h130]
  simp [h5, h128, h130]

end Go.Proofs.Ytamglfhnhjgdjaa
