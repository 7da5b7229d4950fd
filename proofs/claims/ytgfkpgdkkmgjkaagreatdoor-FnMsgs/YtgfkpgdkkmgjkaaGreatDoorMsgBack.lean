/-
  What the program tells of messages that were put, and of such that were cut.
-/
import Derived.Test.YtgfkpgdkkmgjkaaGreatDoorMsgGet
import Derived.Test.YtgfkpgdkkmgjkaaGreatDoorMsgHelp
namespace Go.Proofs.YtgfkpgdkkmgjkaaGreatDoor
open Go.RowKit

theorem headI_put {word x : List Int} (hw : word.length ≤ 20) (hl : (msgB word x).length ≤ 250) : headI (putTlv [] 48 (msgB word x)) = some (1, word, x) := by
  have e : putTlv [] 48 (msgB word x) = tlvB 48 (msgB word x) := by
    rw [put_part (by unfold TlvOk; omega)]
    rfl
  have hT : getTlv (putTlv [] 48 (msgB word x)) 0 = (48, msgB word x, ((putTlv [] 48 (msgB word x)).length : Int), true) := by
    have := tlv_mid [] 48 (msgB word x) [] (by unfold TlvOk; omega)
    rw [e]
    simpa using this
  have hN : numM (msgB word x) 0 = some (1, ((numB 1).length : Int)) := by
    have := numM_back [] (tlvB 4 word ++ x) 1
    rw [msgB_eq (by omega)]
    simpa [clip] using this
  have hP : partM (msgB word x) (numB 1).length 4 = some (word, (((numB 1).length + (tlvB 4 word).length : Nat) : Int)) := by
    refine part_of ?_
    have := tlv_mid (numB 1) 4 word x (by unfold TlvOk; omega)
    rw [msgB_eq (by omega)]
    simpa using this
  have hD : (msgB word x).drop (((numB 1).length + (tlvB 4 word).length : Nat) : Int).toNat = x := by
    rw [msgB_eq (by omega), Int.toNat_natCast, ← List.append_assoc, List.drop_append_of_le_length (by simp)]
    simp
  unfold headI
  rw [hT]
  simp only [and_self, if_true]
  rw [hN]
  simp only
  rw [hP]
  simp only [if_pos hw]
  rw [hD]

theorem msgI_back {word : List Int} {k id a b : Int} {bs : List BD} (h : ¬ (putM word k id a b bs).length = 0) (word' : List Int) :
    getI word' (putM word k id a b bs) = if word = word' then (0, some ⟨k, id, a, b, bs⟩) else (3, none) := by
  unfold putM at h ⊢
  split
  · rename_i hc
    obtain ⟨h0, h1, h2⟩ := hc
    have hp : okP k id a b bs = true ∧ (putBs [] bs).length ≤ 250 ∧ (bodyP id a b bs).length ≤ 250 := by
      unfold putP at h0
      split at h0
      · assumption
      · simp at h0
    unfold getI
    rw [headI_put h1 h2]
    simp only [if_true]
    rw [pdu_back hp.1 hp.2.1 hp.2.2]
    rfl
  · rename_i hc
    rw [if_neg hc] at h
    simp at h

theorem msgI_cut {word : List Int} {k id a b : Int} {bs : List BD} (hz : Byt (putM word k id a b bs)) {n : Nat} (hn : n < (putM word k id a b bs).length) (word' : List Int) : getI word' ((putM word k id a b bs).take n) = (1, none) := by
  suffices h : headI ((putM word k id a b bs).take n) = none by
    unfold getI
    rw [h]
  unfold putM at hz hn ⊢
  split
  · rename_i hc
    obtain ⟨h0, h1, h2⟩ := hc
    rw [if_pos ⟨h0, h1, h2⟩] at hz hn
    generalize msgB word (putP k id a b bs) = M at *
    have e : putTlv [] 48 M = tlvB 48 M := by
      rw [put_part (by unfold TlvOk; omega)]
      rfl
    rw [e] at hz hn ⊢
    unfold headI
    rw [if_neg]
    rintro ⟨c1, c2, c3⟩
    rcases hT : getTlv ((tlvB 48 M).take n) 0 with ⟨t, x, nx, ok⟩
    rw [hT] at c1 c2 c3
    simp only at c1 c2 c3
    subst c1 c2
    obtain ⟨p, q, hp, hq, hpq, hql, hok, hd⟩ := tlv_lies (byt_take hz n) hT
    have hp0 : p = 0 := by omega
    subst hp0
    have hqn : q = ((tlvB 48 M).take n).length := by omega
    rw [hqn, List.drop_length, List.append_nil, List.drop_zero] at hd
    have hx : x.length = M.length := tlvB_pre (k := 48) (r := (tlvB 48 M).drop n) (by rw [← hd, List.take_append_drop])
    have hl : ((tlvB 48 M).take n).length = (tlvB 48 M).length := by
      rw [hd]
      simp [tlvB, hx]
    rw [List.length_take] at hl
    omega
  · rename_i hc
    rw [if_neg hc] at hn
    simp at hn

end Go.Proofs.YtgfkpgdkkmgjkaaGreatDoor
