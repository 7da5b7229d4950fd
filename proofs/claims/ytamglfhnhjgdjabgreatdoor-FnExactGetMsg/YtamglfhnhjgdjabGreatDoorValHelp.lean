/-
  The law file's own helpers on values by their contracts: a copy, whether two are the same, their size, the marks that are put and read again.
-/
import Derived.Test.YtamglfhnhjgdjabGreatDoorQA
namespace Go.Proofs.YtamglfhnhjgdjabGreatDoor
open Go.RowKit

/-- Two values are the same, part by part. -/
def sameV (K N : Int) (S : ByteArray) (z : List Int) (K' N' : Int) (S' : ByteArray) (z' : List Int) : Bool := (K == K') && ((N == N') && ((S.toList == S'.toList) && decide (z = z')))

theorem sameV_self (K N : Int) (S : ByteArray) (z : List Int) : sameV K N S z K N S z = true := by simp [sameV]

theorem same_noK {K N : Int} {S : ByteArray} {z : List Int} {K' N' : Int} {S' : ByteArray} {z' : List Int} (h : (K != K') = true) : false = sameV K N S z K' N' S' z' := by
  simp at h; simp [sameV, h]
theorem same_noN {K N : Int} {S : ByteArray} {z : List Int} {K' N' : Int} {S' : ByteArray} {z' : List Int} (h : (N != N') = true) : false = sameV K N S z K' N' S' z' := by
  simp at h; simp [sameV, h]
theorem same_noS {K N : Int} {S : ByteArray} {z : List Int} {K' N' : Int} {S' : ByteArray} {z' : List Int} (h : (!S.toList == S'.toList) = true) : false = sameV K N S z K' N' S' z' := by
  simp at h; simp [sameV, h]
theorem same_noO {K N : Int} {S : ByteArray} {z : List Int} {K' N' : Int} {S' : ByteArray} {z' : List Int} (h : decide (z = z') = false) : false = sameV K N S z K' N' S' z' := by
  simp at h; simp [sameV, h]
theorem same_yes {K N : Int} {S : ByteArray} {z : List Int} {K' N' : Int} {S' : ByteArray} {z' : List Int} (h1 : (K != K') = false) (h2 : (N != N') = false) (h3 : (!S.toList == S'.toList) = false) (h4 : decide (z = z') = true) : true = sameV K N S z K' N' S' z' := by
  simp at h1 h2 h3 h4; simp [sameV, h1, h2, h3, h4]

set_option maxRecDepth 100000 in
set_option maxHeartbeats 400000 in
theorem eqVal_any (K N : Int) (S : ByteArray) (a1 : Option Addr) (l1 c1 : Nat) (z1 : List Int) (K' N' : Int) (S' : ByteArray) (a2 : Option Addr) (l2 c2 : Nat) (z2 : List Int) (w : World) (h1 : IRow w a1 l1 c1 z1) (h2 : IRow w a2 l2 c2 z2) :
    Calls Tryz.prog 50 #[.agg #[.int .i64 K, .int .i64 N, .string S, .slice a1 l1 c1], .agg #[.int .i64 K', .int .i64 N', .string S', .slice a2 l2 c2]] w fun e w' => e = .returned (.bool (sameV K N S z1 K' N' S' z2)) ∧ Below w.heap.size w w' := by
  generalize hP : sameV K N S z1 K' N' S' z2 = P
  have HP := hide hP
  clear hP
  go_enter Tryz.func50, Tryz.ntmps50
  go_wp2_with fail
  · go_ret
    exact ⟨ret_bool ((same_noK ‹_›).trans HP.out), below_two _ _ _⟩
  · go_ret
    exact ⟨ret_bool ((same_noN ‹_›).trans HP.out), below_two _ _ _⟩
  · go_ret
    exact ⟨ret_bool ((same_noS ‹_›).trans HP.out), below_two _ _ _⟩
  · have t1 := ‹(K != K') = false›
    have t2 := ‹(N != N') = false›
    have t3 := ‹(!S.toList == S'.toList) = false›
    cases hD : decide (z1 = z2)
    · refine (eqI_any a1 l1 c1 z1 a2 l2 c2 z2 _ (h1.below (below_two _ _ _)) (h2.below (below_two _ _ _))).mono ?_
      rintro e w1 ⟨rfl, n, rfl⟩
      rw [hD]
      have HD := hide hD
      clear hD
      go_wp2
      go_ret
      exact ⟨ret_bool ((same_noO HD.out).trans HP.out), below_drewN (below_two _ _ _) n⟩
    · refine (eqI_any a1 l1 c1 z1 a2 l2 c2 z2 _ (h1.below (below_two _ _ _)) (h2.below (below_two _ _ _))).mono ?_
      rintro e w1 ⟨rfl, n, rfl⟩
      rw [hD]
      have HD := hide hD
      clear hD
      go_wp2
      go_ret
      exact ⟨ret_bool ((same_yes t1 t2 t3 HD.out).trans HP.out), below_drewN (below_two _ _ _) n⟩

theorem eqVal_same (K N : Int) (S : ByteArray) (a1 : Option Addr) (l1 c1 : Nat) (a2 : Option Addr) (l2 c2 : Nat) (zs : List Int) (w : World) (h1 : IRow w a1 l1 c1 zs) (h2 : IRow w a2 l2 c2 zs) :
    Calls Tryz.prog 50 #[.agg #[.int .i64 K, .int .i64 N, .string S, .slice a1 l1 c1], .agg #[.int .i64 K, .int .i64 N, .string S, .slice a2 l2 c2]] w fun e w' => e = .returned (.bool true) ∧ Below w.heap.size w w' := by
  refine (eqVal_any K N S a1 l1 c1 zs K N S a2 l2 c2 zs w h1 h2).mono ?_
  rintro e w' ⟨rfl, hb⟩
  exact ⟨by rw [sameV_self], hb⟩

end Go.Proofs.YtamglfhnhjgdjabGreatDoor
