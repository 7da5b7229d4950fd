/-
  Messages over requests: their bytes, what is read of bytes, and that what was put comes back, with its own word and no other one, and cut not at all.
-/
import Derived.Test.YtjkmagpppfnlpaaPduMath
namespace Go.Proofs.Ytjkmagpppfnlpaa
open Go.RowKit

/-- What a message holds: the version, the word, the bytes of the request. -/
def msgB (word x : List Int) : List Int := putTlv (putTlv [] 2 (putInt 1)) 4 word ++ x

/-- The bytes of a message; nothing where there is none. -/
def putM (word : List Int) (k id a b : Int) (bs : List BD) : List Int :=
  if ¬ (putP k id a b bs).length = 0 ∧ word.length ≤ 20 ∧ (msgB word (putP k id a b bs)).length ≤ 250 then putTlv [] 48 (msgB word (putP k id a b bs)) else []

/-- The code of a request that was read, or was not. -/
def toldM : Option PD → Int × Option PD
  | none => (1, none)
  | some p => (0, some p)

/-- What is told of bytes that should hold a message: the code, and the request where it is good. -/
noncomputable def getM (word z : List Int) : Int × Option PD :=
  if (getTlv z 0).2.2.2 = true ∧ (getTlv z 0).1 = 48 ∧ (getTlv z 0).2.2.1 = z.length then
    match numM (getTlv z 0).2.1 0 with
    | none => (1, none)
    | some (n, t) =>
      match partM (getTlv z 0).2.1 t 4 with
      | none => (1, none)
      | some (s, u) =>
        if n = 1 then
          if s = word then
            toldM (getP ((getTlv z 0).2.1.drop u.toNat))
          else (3, none)
        else (2, none)
  else (1, none)

theorem msgB_eq {word : List Int} (hw : word.length ≤ 250) (x : List Int) : msgB word x = numB 1 ++ (tlvB 4 word ++ x) := by
  unfold msgB
  rw [put_part (numB_ok 1), put_part (by unfold TlvOk; omega)]
  simp [numB]

theorem getM_put {word x : List Int} (hw : word.length ≤ 250) (hl : (msgB word x).length ≤ 250) (word' : List Int) :
    getM word' (putTlv [] 48 (msgB word x)) = if word = word' then toldM (getP x) else (3, none) := by
  have e : putTlv [] 48 (msgB word x) = tlvB 48 (msgB word x) := by
    rw [put_part (by unfold TlvOk; omega)]
    rfl
  have hT : getTlv (putTlv [] 48 (msgB word x)) 0 = (48, msgB word x, ((putTlv [] 48 (msgB word x)).length : Int), true) := by
    have := tlv_mid [] 48 (msgB word x) [] (by unfold TlvOk; omega)
    rw [e]
    simpa using this
  have hN : numM (msgB word x) 0 = some (1, ((numB 1).length : Int)) := by
    have := numM_back [] (tlvB 4 word ++ x) 1
    rw [msgB_eq hw]
    simpa [clip] using this
  have hP : partM (msgB word x) (numB 1).length 4 = some (word, (((numB 1).length + (tlvB 4 word).length : Nat) : Int)) := by
    refine part_of ?_
    have := tlv_mid (numB 1) 4 word x (by unfold TlvOk; omega)
    rw [msgB_eq hw]
    simpa using this
  have hD : (msgB word x).drop (((numB 1).length + (tlvB 4 word).length : Nat) : Int).toNat = x := by
    rw [msgB_eq hw, Int.toNat_natCast, ← List.append_assoc, List.drop_append_of_le_length (by simp)]
    simp
  unfold getM
  rw [hT]
  simp only [and_self, if_true]
  rw [hN]
  simp only
  rw [hP]
  simp only [if_true]
  rw [hD]

/-- A message that has bytes comes back with its own word. -/
theorem msg_back {word : List Int} {k id a b : Int} {bs : List BD} (h : ¬ (putM word k id a b bs).length = 0) (word' : List Int) :
    getM word' (putM word k id a b bs) = if word = word' then (0, some ⟨k, id, a, b, bs⟩) else (3, none) := by
  unfold putM at h ⊢
  split
  · rename_i hc
    obtain ⟨h0, h1, h2⟩ := hc
    have hp : okP k id a b bs = true ∧ (putBs [] bs).length ≤ 250 ∧ (bodyP id a b bs).length ≤ 250 := by
      unfold putP at h0
      split at h0
      · assumption
      · simp at h0
    rw [getM_put (by omega) h2, pdu_back hp.1 hp.2.1 hp.2.2]
    rfl
  · rename_i hc
    rw [if_neg hc] at h
    simp at h

theorem tlvB_pre {k : Int} {x M r : List Int} (h : tlvB k x ++ r = tlvB k M) : x.length = M.length := by
  unfold tlvB lenB at h
  split at h <;> split at h <;> simp at h <;> omega

theorem byt_take {z : List Int} (h : Byt z) (n : Nat) : Byt (z.take n) := fun x hx => h x (List.mem_of_mem_take hx)

/-- Cut, a message is none. -/
theorem msg_cut {word : List Int} {k id a b : Int} {bs : List BD} (hz : Byt (putM word k id a b bs)) {n : Nat} (hn : n < (putM word k id a b bs).length) (word' : List Int) : getM word' ((putM word k id a b bs).take n) = (1, none) := by
  unfold putM at hz hn ⊢
  split
  · rename_i hc
    obtain ⟨h0, h1, h2⟩ := hc
    rw [if_pos ⟨h0, h1, h2⟩] at hz hn
    generalize msgB word (putP k id a b bs) = M at *
    have e : putTlv [] 48 M = tlvB 48 M := by
      rw [put_part (by unfold TlvOk; omega)]
      rfl
    rw [e] at hz hn ⊢
    unfold getM
    rw [if_neg]
    rintro ⟨c1, c2, c3⟩
    rcases hT : getTlv ((tlvB 48 M).take n) 0 with ⟨t, x, nx, ok⟩
    rw [hT] at c1 c2 c3
    simp only at c1 c2 c3
    subst c1 c2
    obtain ⟨p, q, hp, hq, hpq, hql, hok, hd⟩ := tlv_lies (byt_take hz n) hT
    have hp0 : p = 0 := by omega
    subst hp0
    have hqn : q = ((tlvB 48 M).take n).length := by omega
    rw [hqn, List.drop_length, List.append_nil, List.drop_zero] at hd
    have hx : x.length = M.length := tlvB_pre (k := 48) (r := (tlvB 48 M).drop n) (by rw [← hd, List.take_append_drop])
    have hl : ((tlvB 48 M).take n).length = (tlvB 48 M).length := by
      rw [hd]
      simp [tlvB, hx]
    rw [List.length_take] at hl
    omega
  · rename_i hc
    rw [if_neg hc] at hn
    simp at hn

end Go.Proofs.Ytjkmagpppfnlpaa
