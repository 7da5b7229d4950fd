/-
  How long a table is behind a change.
-/
import Derived.Test.YtafonmfgeecopabVtabSet
import Derived.Test.YtafonmfgeecopabVtabDropM
namespace Go.Proofs.Ytafonmfgeecopab
open Go.RowKit

theorem orV_sizes (x v : VT) (h1 : x.rows.length ≤ v.rows.length + 1) (h2 : x.own.length = v.own.length) : (orV x v).1.rows.length ≤ v.rows.length + 1 ∧ (orV x v).1.own.length = v.own.length := by
  unfold orV
  split
  · exact ⟨h1, h2⟩
  · exact ⟨Nat.le_succ _, rfl⟩

theorem sizes_SetPvid (v : VT) (port id : Int) : (setPvid v port id).1.rows.length ≤ v.rows.length + 1 ∧ (setPvid v port id).1.own.length = v.own.length := by
  unfold setPvid
  split
  · exact orV_sizes _ _ (Nat.le_succ _) (by simp)
  · exact ⟨Nat.le_succ _, rfl⟩

theorem sizes_DropRow (v : VT) (id : Int) : (dropRow v id).1.rows.length ≤ v.rows.length + 1 ∧ (dropRow v id).1.own.length = v.own.length := by
  unfold dropRow
  cases rowIdx v.rows id with
  | none => exact ⟨Nat.le_succ _, rfl⟩
  | some k =>
    simp only
    split
    · exact orV_sizes _ _ (by simp; omega) rfl
    · exact ⟨Nat.le_succ _, rfl⟩

end Go.Proofs.Ytafonmfgeecopab
