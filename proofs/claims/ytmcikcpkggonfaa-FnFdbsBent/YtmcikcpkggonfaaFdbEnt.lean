/-
  The numbers of an entry that is right are ints.
-/
import Derived.Test.YtmcikcpkggonfaaFentMem
namespace Go.Proofs.Ytmcikcpkggonfaa
open Go.RowKit

theorem ent_rng {e : FE} (h : entOk e = true) : e.Rng := by
  rw [entOk_iff] at h
  exact ⟨by omega, by omega, by omega, by omega⟩

end Go.Proofs.Ytmcikcpkggonfaa
