/-
  Bytes as texts are the same where they are the same; the specification's SameFrame by its contract.
-/
import Derived.Test.YtbjgbhccnhjkcaaFrameHelp
import Derived.Test.YtbjgbhccnhjkcaaTextRow
namespace Go.Proofs.Ytbjgbhccnhjkcaa
open Go.RowKit

theorem byB_inj {a b : List Int} (ha : Byt a) (hb : Byt b) (h : (byB a).toList = (byB b).toList) : a = b := by
  rw [ByteArray.toList_eq, ByteArray.toList_eq] at h
  have e : strB (byB a) = strB (byB b) := by unfold strB; rw [h]
  rwa [strB_byB ha, strB_byB hb] at e

theorem byB_same {a b : List Int} (ha : Byt a) (hb : Byt b) : ((byB a).toList == (byB b).toList) = decide (a = b) := by
  by_cases h : a = b
  · subst h; simp
  · rw [decide_eq_false h]
    rw [beq_eq_false_iff_ne]
    exact fun e => h (byB_inj ha hb e)

set_option maxRecDepth 100000 in
set_option maxHeartbeats 1000000 in
theorem specSameFrame_any (K N S : Int) (a1 : Option Addr) (l1 c1 : Nat) (z1 : List Int) (K' N' S' : Int) (a2 : Option Addr) (l2 c2 : Nat) (z2 : List Int) (w : World) (h1 : Row w a1 l1 c1 z1) (h2 : Row w a2 l2 c2 z2) :
    Calls Try.prog 24 #[.agg #[.int .i64 K, .int .i64 N, .int .i64 S, .slice a1 l1 c1], .agg #[.int .i64 K', .int .i64 N', .int .i64 S', .slice a2 l2 c2]] w fun e w' => e = .returned (.bool (sameF K N S z1 K' N' S' z2)) ∧ Below w.heap.size w w' := by
  generalize hP : sameF K N S z1 K' N' S' z2 = P
  have HP := hide hP
  clear hP
  cases t1 : (K == K')
  · go_enter Try.func24, Try.ntmps24
    go_wp2
    go_ret
    exact ⟨ret_bool (by rw [← HP.out]; simp [sameF, t1]), below_two _ _ _⟩
  cases t2 : (N == N')
  · go_enter Try.func24, Try.ntmps24
    go_wp2
    go_ret
    exact ⟨ret_bool (by rw [← HP.out]; simp [sameF, t2]), below_two _ _ _⟩
  cases t3 : (S == S')
  · go_enter Try.func24, Try.ntmps24
    go_wp2
    go_ret
    exact ⟨ret_bool (by rw [← HP.out]; simp [sameF, t3]), below_two _ _ _⟩
  have e1 := fun o p => conv_row 9 ((w.alloc o).alloc p) a1 l1 c1 z1 (h1.below (below_two w o p)) Try.underlying9
  have e2 := fun o p => conv_row 9 ((w.alloc o).alloc p) a2 l2 c2 z2 (h2.below (below_two w o p)) Try.underlying9
  go_enter Try.func24, Try.ntmps24
  go_wp2
  go_ret
  exact ⟨ret_bool (by rw [← HP.out, byB_same h1.byte h2.byte]; simp [sameF, t1, t2, t3]), below_two _ _ _⟩

end Go.Proofs.Ytbjgbhccnhjkcaa
