/-
  The bytes of a value, its row written out; a block stays while another one is written.
-/
import Derived.Test.YtamglfhnhjgdjaaValSpecPut
namespace Go.Proofs.Ytamglfhnhjgdjaa
open Go.RowKit

theorem bodyV_byte (K N : Int) (S : ByteArray) (z : List Int) : Byt (bodyV K N S z) := by
  unfold bodyV
  split
  · exact putInt_byte N
  · split
    · exact strB_byte S
    · split
      · exact put_byte z
      · exact byte_nil
theorem putV_byte (b : List Int) (K N : Int) (S : ByteArray) (z : List Int) (hb : Byt b) : Byt (putV b K N S z) := by
  unfold putV
  split
  · exact putTlv_byte _ _ _ hb (bodyV_byte K N S z)
  · exact hb
theorem putV_length (b : List Int) (K N : Int) (S : ByteArray) (z : List Int) : (putV b K N S z).length ≤ b.length + 253 := by
  unfold putV
  split
  · have := putTlv_length b K (bodyV K N S z); have := body_small ‹_›; omega
  · omega

theorem specPutVal_made (a1 : Option Addr) (l1 c1 : Nat) (z1 : List Int) (K N : Int) (S : ByteArray) (a2 : Option Addr) (l2 c2 : Nat) (z2 P : List Int) (hP : putV z1 K N S z2 = P) (w : World) (h1 : Row w a1 l1 c1 z1) (hS : S.size ≤ maxLen) (h2 : IRow w a2 l2 c2 z2) (hs : l1 ≤ 8000000) :
    Calls Try.prog 66 #[.slice a1 l1 c1, .agg #[.int .i64 K, .int .i64 N, .string S, .slice a2 l2 c2]] w fun e w' => ∃ ao cap, e = .returned (.slice ao P.length cap) ∧
      w'.ownsRow w.heap.size 5 1 (.slice ao P.length cap) P.length (cB P) ∧ Row w' ao P.length cap P ∧ Below w.heap.size w w' := by
  subst hP
  exact (specPutVal_any a1 l1 c1 z1 K N S a2 l2 c2 z2 w h1 hS h2 hs).mono fun e w' h => made_of (putV_byte _ _ _ _ _ h1.byte) h
theorem implPutVal_made (a1 : Option Addr) (l1 c1 : Nat) (z1 : List Int) (K N : Int) (S : ByteArray) (a2 : Option Addr) (l2 c2 : Nat) (z2 P : List Int) (hP : putV z1 K N S z2 = P) (w : World) (h1 : Row w a1 l1 c1 z1) (hS : S.size ≤ maxLen) (h2 : IRow w a2 l2 c2 z2) (hs : l1 ≤ 8000000) :
    Calls Try.prog 56 #[.slice a1 l1 c1, .agg #[.int .i64 K, .int .i64 N, .string S, .slice a2 l2 c2]] w fun e w' => ∃ ao cap, e = .returned (.slice ao P.length cap) ∧
      w'.ownsRow w.heap.size 5 1 (.slice ao P.length cap) P.length (cB P) ∧ Row w' ao P.length cap P ∧ Below w.heap.size w w' := by
  subst hP
  exact (implPutVal_any a1 l1 c1 z1 K N S a2 l2 c2 z2 w h1 hS h2 hs).mono fun e w' h => made_of (putV_byte _ _ _ _ _ h1.byte) h

end Go.Proofs.Ytamglfhnhjgdjaa
