/-
  The law file's own helpers on values by their contracts: a copy, whether two are the same, their size, the marks that are put and read again.
-/
import Derived.Test.YtamglfhnhjgdjabQA
namespace Go.Proofs.Ytamglfhnhjgdjab
open Go.RowKit

/-- Two values are the same, part by part. -/
def sameV (K N : Int) (S : ByteArray) (z : List Int) (K' N' : Int) (S' : ByteArray) (z' : List Int) : Bool := (K == K') && ((N == N') && ((S.toList == S'.toList) && decide (z = z')))

theorem sameV_self (K N : Int) (S : ByteArray) (z : List Int) : sameV K N S z K N S z = true := by simp [sameV]

theorem same_noK {K N : Int} {S : ByteArray} {z : List Int} {K' N' : Int} {S' : ByteArray} {z' : List Int} (h : (K != K') = true) : false = sameV K N S z K' N' S' z' := by
  simp at h; simp [sameV, h]
theorem same_noN {K N : Int} {S : ByteArray} {z : List Int} {K' N' : Int} {S' : ByteArray} {z' : List Int} (h : (N != N') = true) : false = sameV K N S z K' N' S' z' := by
  simp at h; simp [sameV, h]
theorem same_noS {K N : Int} {S : ByteArray} {z : List Int} {K' N' : Int} {S' : ByteArray} {z' : List Int} (h : (!S.toList == S'.toList) = true) : false = sameV K N S z K' N' S' z' := by
  simp at h; simp [sameV, h]
theorem same_noO {K N : Int} {S : ByteArray} {z : List Int} {K' N' : Int} {S' : ByteArray} {z' : List Int} (h : decide (z = z') = false) : false = sameV K N S z K' N' S' z' := by
  simp at h; simp [sameV, h]
theorem same_yes {K N : Int} {S : ByteArray} {z : List Int} {K' N' : Int} {S' : ByteArray} {z' : List Int} (h1 : (K != K') = false) (h2 : (N != N') = false) (h3 : (!S.toList == S'.toList) = false) (h4 : decide (z = z') = true) : true = sameV K N S z K' N' S' z' := by
  simp at h1 h2 h3 h4; simp [sameV, h1, h2, h3, h4]

set_option maxRecDepth 100000 in
set_option maxHeartbeats 400000 in
theorem toVal_made (K N : Int) (S : ByteArray) (a1 : Option Addr) (l1 c1 : Nat) (z1 : List Int) (w : World) (h1 : IRow w a1 l1 c1 z1) (hs : l1 ≤ 16777216) :
    Calls Try.prog 75 #[.agg #[.int .i64 K, .int .i64 N, .string S, .slice a1 l1 c1]] w fun e w' => ∃ ao cap, e = .returned (.agg #[.int .i64 K, .int .i64 N, .string S, .slice ao l1 cap]) ∧
      w'.ownsRow w.heap.size 3 1 (.slice ao l1 cap) l1 (cI z1) ∧ IRow w' ao l1 cap z1 ∧ Below w.heap.size w w' := by
  go_enter Try.func75, Try.ntmps75
  go_wp2_with fail
  refine (copyI_made a1 l1 c1 z1 _ (h1.below (below_three _ _ _ _)) hs).mono ?_
  rintro e w1 ⟨ao, cp, rfl, ho, hr, hb⟩
  obtain ⟨k0, k1, k2⟩ := kept_three hb
  obtain ⟨⟨p0, p1, p2, p3⟩, f0, f1, f2, f3⟩ := cells4 k1
  obtain ⟨⟨q0, q1, q2, q3⟩, g0, g1, g2, g3⟩ := cells4 k2
  have b1 : Below w.heap.size w w1 := (below_three w _ _ _).trans (hb.mono (below_three w _ _ _).size)
  have ho' := own_lt ho (base' := w.heap.size + 1 + 1 + 1) (by simp)
  have hby := hr.byte
  have HB := hide b1
  have HO := hide ho'
  clear k0 k1 k2 hb ho ho' b1 hr h1
  go_wp2
  have o5 := own_set (own_set (own_set (own_set (own_set HO.out (g := w.heap.size + 1 + 1) (j := 3) (u := .slice ao l1 cp) (by omega)) (g := w.heap.size + 1) (j := 0) (u := .int .i64 K) (by omega)) (g := w.heap.size + 1) (j := 1) (u := .int .i64 N) (by omega)) (g := w.heap.size + 1) (j := 2) (u := .string S) (by omega)) (g := w.heap.size + 1) (j := 3) (u := .slice ao l1 cp) (by omega)
  refine bodyPost_ret (v := .agg #[.int .i64 K, .int .i64 N, .string S, .slice ao l1 cp]) (by simp [results, Try.results75, go_sem, *]) rfl ⟨ao, cp, rfl, own_lt o5 (by omega), irow_own o5 hby, ?_⟩
  exact below_set (below_set (below_set (below_set (below_set HB.out (by omega) _ _) (by omega) _ _) (by omega) _ _) (by omega) _ _) (by omega) _ _

set_option maxRecDepth 100000 in
set_option maxHeartbeats 400000 in
theorem eqVal_any (K N : Int) (S : ByteArray) (a1 : Option Addr) (l1 c1 : Nat) (z1 : List Int) (K' N' : Int) (S' : ByteArray) (a2 : Option Addr) (l2 c2 : Nat) (z2 : List Int) (w : World) (h1 : IRow w a1 l1 c1 z1) (h2 : IRow w a2 l2 c2 z2) :
    Calls Try.prog 70 #[.agg #[.int .i64 K, .int .i64 N, .string S, .slice a1 l1 c1], .agg #[.int .i64 K', .int .i64 N', .string S', .slice a2 l2 c2]] w fun e w' => e = .returned (.bool (sameV K N S z1 K' N' S' z2)) ∧ Below w.heap.size w w' := by
  generalize hP : sameV K N S z1 K' N' S' z2 = P
  have HP := hide hP
  clear hP
  go_enter Try.func70, Try.ntmps70
  go_wp2_with fail
  · go_ret
    exact ⟨ret_bool ((same_noK ‹_›).trans HP.out), below_two _ _ _⟩
  · go_ret
    exact ⟨ret_bool ((same_noN ‹_›).trans HP.out), below_two _ _ _⟩
  · go_ret
    exact ⟨ret_bool ((same_noS ‹_›).trans HP.out), below_two _ _ _⟩
  · have t1 := ‹(K != K') = false›
    have t2 := ‹(N != N') = false›
    have t3 := ‹(!S.toList == S'.toList) = false›
    cases hD : decide (z1 = z2)
    · refine (eqI_any a1 l1 c1 z1 a2 l2 c2 z2 _ (h1.below (below_two _ _ _)) (h2.below (below_two _ _ _))).mono ?_
      rintro e w1 ⟨rfl, n, rfl⟩
      rw [hD]
      have HD := hide hD
      clear hD
      go_wp2
      go_ret
      exact ⟨ret_bool ((same_noO HD.out).trans HP.out), below_drewN (below_two _ _ _) n⟩
    · refine (eqI_any a1 l1 c1 z1 a2 l2 c2 z2 _ (h1.below (below_two _ _ _)) (h2.below (below_two _ _ _))).mono ?_
      rintro e w1 ⟨rfl, n, rfl⟩
      rw [hD]
      have HD := hide hD
      clear hD
      go_wp2
      go_ret
      exact ⟨ret_bool ((same_yes t1 t2 t3 HD.out).trans HP.out), below_drewN (below_two _ _ _) n⟩

theorem eqVal_same (K N : Int) (S : ByteArray) (a1 : Option Addr) (l1 c1 : Nat) (a2 : Option Addr) (l2 c2 : Nat) (zs : List Int) (w : World) (h1 : IRow w a1 l1 c1 zs) (h2 : IRow w a2 l2 c2 zs) :
    Calls Try.prog 70 #[.agg #[.int .i64 K, .int .i64 N, .string S, .slice a1 l1 c1], .agg #[.int .i64 K, .int .i64 N, .string S, .slice a2 l2 c2]] w fun e w' => e = .returned (.bool true) ∧ Below w.heap.size w w' := by
  refine (eqVal_any K N S a1 l1 c1 zs K N S a2 l2 c2 zs w h1 h2).mono ?_
  rintro e w' ⟨rfl, hb⟩
  exact ⟨by rw [sameV_self], hb⟩

set_option maxRecDepth 100000 in
set_option maxHeartbeats 400000 in
theorem szVal_any (K N : Int) (S : ByteArray) (a1 : Option Addr) (l1 c1 : Nat) (left : Int) (w : World) (hs : S.size ≤ maxLen) (hl : l1 ≤ maxLen) (h0 : 0 ≤ left) (h1 : left ≤ 1048576) :
    Calls Try.prog 72 #[.agg #[.int .i64 K, .int .i64 N, .string S, .slice a1 l1 c1], .int .i64 left] w fun e w' => e = .returned (.int .i64 (if (S.size : Int) + l1 ≤ left then left - S.size - l1 else -1)) ∧ Below w.heap.size w w' := by
  unfold maxLen at hs hl
  go_enter Try.func72, Try.ntmps72
  go_wp2
  all_goals go_ret
  all_goals exact ⟨rfl, below_one _ _⟩

end Go.Proofs.Ytamglfhnhjgdjab
