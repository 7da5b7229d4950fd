/-
  Bytes as texts are the same where they are the same; the specification's SameFrame by its contract.
-/
import Derived.Test.YtanonfdgckanhaaFrameHelp
import Derived.Test.YtanonfdgckanhaaTextRow
namespace Go.Proofs.Ytanonfdgckanhaa
open Go.RowKit

theorem byB_inj {a b : List Int} (ha : Byt a) (hb : Byt b) (h : (byB a).toList = (byB b).toList) : a = b := by
  rw [ByteArray.toList_eq, ByteArray.toList_eq] at h
  have e : strB (byB a) = strB (byB b) := by unfold strB; rw [h]
  rwa [strB_byB ha, strB_byB hb] at e

theorem byB_same {a b : List Int} (ha : Byt a) (hb : Byt b) : ((byB a).toList == (byB b).toList) = decide (a = b) := by
  by_cases h : a = b
  · subst h; simp
  · rw [decide_eq_false h]
    rw [beq_eq_false_iff_ne]
    exact fun e => h (byB_inj ha hb e)

end Go.Proofs.Ytanonfdgckanhaa
