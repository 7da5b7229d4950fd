/-
  The bytes of a value, by contracts: the specification's and the program's.
  The bytes of a value, by the contract of the specification.
  The bytes of a value, its row written out; a block stays while another one is written.
-/
import Derived.Test.YtamglfhnhjgdjabGreatDoorQA
import Derived.Test.YtamglfhnhjgdjabGreatDoorValOk
import Derived.Test.YtamglfhnhjgdjabGreatDoorTlv
import Derived.Test.YtamglfhnhjgdjabGreatDoorQB
import Derived.Lib.ConvBytes
import Derived.Lib.AtoiErrMem
namespace Go.Proofs.YtamglfhnhjgdjabGreatDoor
open Go.RowKit

theorem strB_length (S : ByteArray) : (strB S).length = S.size := by rw [strB, List.length_map, Array.length_toList]; rfl
theorem strB_byte (S : ByteArray) : Byt (strB S) := by
  intro z hz
  simp only [strB, List.mem_map] at hz
  obtain ⟨b, _, rfl⟩ := hz
  have := b.toNat_lt
  omega
theorem strB_getD (S : ByteArray) (j : Nat) (h : j < S.size) : (strB S).getD j 0 = ((S.data.toList.getD j 0).toNat : Int) := by
  have hl : j < S.data.toList.length := by rw [Array.length_toList]; exact h
  simp only [strB, List.getD_eq_getElem?_getD, List.getElem?_map, List.getElem?_eq_getElem hl]
  rfl

/-- What a value's kind names, as bytes. -/
def bodyV (K N : Int) (S : ByteArray) (z : List Int) : List Int := if K = 2 then putInt N else if K = 4 then strB S else if K = 6 then putO z else []
/-- A value put behind b; b alone of what is not right. -/
def putV (b : List Int) (K N : Int) (S : ByteArray) (z : List Int) : List Int := if okV K N S z = true then putTlv b K (bodyV K N S z) else b

theorem row_str (w : World) (S : ByteArray) (h : S.size ≤ maxLen) : Row (Go.Lib.bytesWorld w 5 S) (some ⟨w.heap.size, 0, none⟩) S.size (grownCap w S.size 0 5) (strB S) where
  size := strB_length S
  le := grownCap_ge w S.size 0 _
  top := grownCap_le_maxLen w S.size 0 _ h
  nil := by intro h; cases h
  byte := strB_byte S
  cell := .inr ⟨w.heap.size, 0, rfl, fun i hi => by rw [Nat.zero_add, Go.Lib.bytesWorld_cell w _ S i hi, strB_getD S i hi]⟩

def Wor.body (x : Wor) : List Int :=
  match x.c with
  | some (some (some (.inl n))) => putInt n
  | some (some (some (.inr (.inl s)))) => strB s
  | some (some (some (.inr (.inr (_, _, _, z))))) => putO z
  | _ => []

theorem wor_str {K N : Int} {S : ByteArray} {a1 : Option Addr} {l1 c1 : Nat} {z1 : List Int} {x : Wor} (h : worOf K N S a1 l1 c1 z1 = some x) : x.str = S ∨ x.str = ⟨#[]⟩ := by
  unfold worOf at h
  repeat' split at h
  all_goals first | (cases h; exact .inl rfl) | (cases h; exact .inr rfl) | cases h

theorem wor_body {K N : Int} {S : ByteArray} {a1 : Option Addr} {l1 c1 : Nat} {z1 : List Int} {x : Wor} (h : worOf K N S a1 l1 c1 z1 = some x) : x.body = bodyV K N S z1 := by
  unfold worOf at h
  unfold bodyV
  repeat' split at h
  all_goals first | cases h | skip
  all_goals subst K
  all_goals simp [Wor.body]

theorem body_small {K N : Int} {S : ByteArray} {z : List Int} (h : okV K N S z = true) : (bodyV K N S z).length ≤ 250 := by
  unfold bodyV
  split
  · have := putInt_length N; omega
  · split
    · subst K
      rw [strB_length]
      simp [okV] at h
      omega
    · split
      · have := put_length z; omega
      · simp



theorem bodyV_byte (K N : Int) (S : ByteArray) (z : List Int) : Byt (bodyV K N S z) := by
  unfold bodyV
  split
  · exact putInt_byte N
  · split
    · exact strB_byte S
    · split
      · exact put_byte z
      · exact byte_nil
theorem putV_byte (b : List Int) (K N : Int) (S : ByteArray) (z : List Int) (hb : Byt b) : Byt (putV b K N S z) := by
  unfold putV
  split
  · exact putTlv_byte _ _ _ hb (bodyV_byte K N S z)
  · exact hb
theorem putV_length (b : List Int) (K N : Int) (S : ByteArray) (z : List Int) : (putV b K N S z).length ≤ b.length + 253 := by
  unfold putV
  split
  · have := putTlv_length b K (bodyV K N S z); have := body_small ‹_›; omega
  · omega

end Go.Proofs.YtamglfhnhjgdjabGreatDoor
