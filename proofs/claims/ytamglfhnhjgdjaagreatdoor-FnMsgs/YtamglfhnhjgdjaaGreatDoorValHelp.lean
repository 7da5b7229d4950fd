/-
  The law file's own helpers on values by their contracts: a copy, whether two are the same, their size, the marks that are put and read again.
-/
import Derived.Test.YtamglfhnhjgdjaaGreatDoorQA
namespace Go.Proofs.YtamglfhnhjgdjaaGreatDoor
open Go.RowKit

/-- Two values are the same, part by part. -/
def sameV (K N : Int) (S : ByteArray) (z : List Int) (K' N' : Int) (S' : ByteArray) (z' : List Int) : Bool := (K == K') && ((N == N') && ((S.toList == S'.toList) && decide (z = z')))

theorem sameV_self (K N : Int) (S : ByteArray) (z : List Int) : sameV K N S z K N S z = true := by simp [sameV]

theorem same_noK {K N : Int} {S : ByteArray} {z : List Int} {K' N' : Int} {S' : ByteArray} {z' : List Int} (h : (K != K') = true) : false = sameV K N S z K' N' S' z' := by
  simp at h; simp [sameV, h]
theorem same_noN {K N : Int} {S : ByteArray} {z : List Int} {K' N' : Int} {S' : ByteArray} {z' : List Int} (h : (N != N') = true) : false = sameV K N S z K' N' S' z' := by
  simp at h; simp [sameV, h]
theorem same_noS {K N : Int} {S : ByteArray} {z : List Int} {K' N' : Int} {S' : ByteArray} {z' : List Int} (h : (!S.toList == S'.toList) = true) : false = sameV K N S z K' N' S' z' := by
  simp at h; simp [sameV, h]
theorem same_noO {K N : Int} {S : ByteArray} {z : List Int} {K' N' : Int} {S' : ByteArray} {z' : List Int} (h : decide (z = z') = false) : false = sameV K N S z K' N' S' z' := by
  simp at h; simp [sameV, h]
theorem same_yes {K N : Int} {S : ByteArray} {z : List Int} {K' N' : Int} {S' : ByteArray} {z' : List Int} (h1 : (K != K') = false) (h2 : (N != N') = false) (h3 : (!S.toList == S'.toList) = false) (h4 : decide (z = z') = true) : true = sameV K N S z K' N' S' z' := by
  simp at h1 h2 h3 h4; simp [sameV, h1, h2, h3, h4]

end Go.Proofs.YtamglfhnhjgdjaaGreatDoor
