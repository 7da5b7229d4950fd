/-
  The word of a message as its bytes; the bytes of a message are bytes.
-/
import Derived.Test.YtjkmagpppfnlpaaMsgMath
import Derived.Test.YtjkmagpppfnlpaaPduPut3
namespace Go.Proofs.Ytjkmagpppfnlpaa
open Go.RowKit

theorem gr_bw {bw : World → World} (h : ∀ W, Below W.heap.size W (bw W)) {w W : World} (a : Below w.heap.size w W) : Below w.heap.size w (bw W) := gr_trans a (h W)

theorem strB_put (a b : ByteArray) : strB (a ++ b) = strB a ++ strB b := by
  unfold strB
  rw [← List.map_append]
  congr 1

theorem strB_eq {a b : ByteArray} (h : strB a = strB b) : a = b := by
  unfold strB at h
  have h1 : a.data.toList = b.data.toList := by
    refine (List.map_inj_right ?_).1 h
    intro x y hxy
    have : x.toNat = y.toNat := by omega
    exact UInt8.toNat_inj.1 this
  have h2 : a.data = b.data := Array.toList_inj.1 h1
  cases a
  cases b
  simp only at h2
  rw [h2]

theorem strB_more (a : ByteArray) (x : UInt8) : strB a ≠ strB (a ++ ⟨#[x]⟩) := by
  intro h
  have := congrArg List.length h
  rw [strB_put, List.length_append] at this
  simp [strB] at this

theorem putM_byte {word : List Int} (hw : Byt word) (k id a b : Int) (bs : List BD) : Byt (putM word k id a b bs) := by
  unfold putM
  split
  · have hp := putP_byte k id a b bs
    refine putTlv_byte _ _ _ byte_nil ?_
    unfold msgB
    intro z hz
    rcases List.mem_append.1 hz with hz | hz
    · exact putTlv_byte _ _ _ (putTlv_byte _ _ _ byte_nil (putInt_byte 1)) hw z hz
    · exact hp z hz
  · exact byte_nil

end Go.Proofs.Ytjkmagpppfnlpaa
