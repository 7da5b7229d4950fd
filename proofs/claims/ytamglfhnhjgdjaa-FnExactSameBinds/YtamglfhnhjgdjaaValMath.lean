/-
  A value comes back of its bytes; what is read is right, and has these bytes.
-/
import Derived.Test.YtamglfhnhjgdjaaValSpecGet
import Derived.Test.YtamglfhnhjgdjaaValPutMade
import Derived.Test.YtamglfhnhjgdjaaTlvMath
import Derived.Test.YtamglfhnhjgdjaaIntMath
namespace Go.Proofs.Ytamglfhnhjgdjaa
open Go.RowKit

theorem empty_text {S : ByteArray} (h : S.toList.isEmpty = true) : S = ⟨#[]⟩ := by
  rw [ByteArray.toList_eq] at h
  obtain ⟨⟨l⟩⟩ := S
  cases l with
  | nil => rfl
  | cons x r => simp at h

/-- The kinds of what is right. -/
theorem okV_ways {K N : Int} {S : ByteArray} {z : List Int} (h : okV K N S z = true) :
    ((K = 5 ∨ K = 128 ∨ K = 130) ∧ N = 0 ∧ S = ⟨#[]⟩ ∧ z = []) ∨ (K = 2 ∧ clip N = N ∧ S = ⟨#[]⟩ ∧ z = []) ∨ (K = 4 ∧ S.size ≤ 20 ∧ N = 0 ∧ z = []) ∨ (K = 6 ∧ oidOk z = true ∧ N = 0 ∧ S = ⟨#[]⟩) := by
  unfold okV at h
  split at h
  · simp only [Bool.and_eq_true, decide_eq_true_eq, beq_iff_eq] at h
    exact .inl ⟨‹_›, h.1, empty_text h.2.1, h.2.2⟩
  · split at h
    · simp only [Bool.and_eq_true, decide_eq_true_eq, beq_iff_eq] at h
      exact .inr (.inl ⟨‹_›, h.1, empty_text h.2.1, h.2.2⟩)
    · split at h
      · simp only [Bool.and_eq_true, decide_eq_true_eq, beq_iff_eq] at h
        exact .inr (.inr (.inl ⟨‹_›, by omega, h.2.1, h.2.2⟩))
      · split at h
        · simp only [Bool.and_eq_true, beq_iff_eq] at h
          exact .inr (.inr (.inr ⟨‹_›, h.1, h.2.1, empty_text h.2.2⟩))
        · cases h

theorem getV_of {zs : List Int} {t k nx : Int} {body : List Int} {K N : Int} {S : ByteArray} {z : List Int} (hT : getTlv zs t = (k, body, nx, true)) (hB : getBody k body = some (K, N, S, z)) : getV zs t = (K, N, S, z, nx, true) := by
  unfold getV
  rw [hT]
  simp [hB]

/-- What is put comes back. -/
theorem val_back (b : List Int) {K N : Int} {S : ByteArray} {z : List Int} (h : okV K N S z = true) : getV (putV b K N S z) b.length = (K, N, S, z, ((putV b K N S z).length : Int), true) := by
  have hP : putV b K N S z = putTlv b K (bodyV K N S z) := by simp [putV, h]
  have hs := body_small h
  rw [hP]
  rcases okV_ways h with ⟨hk, rfl, rfl, rfl⟩ | ⟨rfl, hc, rfl, rfl⟩ | ⟨rfl, hl, rfl, rfl⟩ | ⟨rfl, ho, rfl, rfl⟩
  · have hb : bodyV K 0 ⟨#[]⟩ [] = [] := by unfold bodyV; rw [if_neg (by omega), if_neg (by omega), if_neg (by omega)]
    rw [hb]
    refine getV_of (tlv_back b K [] (by simp; omega)) ?_
    unfold getBody
    rw [if_neg (by omega), if_neg (by omega), if_neg (by omega), if_pos ⟨hk, rfl⟩]
  · refine getV_of (tlv_back b 2 _ (by omega)) ?_
    have hb : bodyV 2 N ⟨#[]⟩ [] = putInt N := by simp [bodyV]
    rw [hb]
    simp [getBody, int_back, hc]
  · refine getV_of (tlv_back b 4 _ (by omega)) ?_
    have hb : bodyV 4 0 S [] = strB S := by simp [bodyV]
    rw [hb]
    simp [getBody, strB_length, hl, byB_strB]
  · refine getV_of (tlv_back b 6 _ (by omega)) ?_
    have hb : bodyV 6 0 ⟨#[]⟩ z = putO z := by simp [bodyV]
    rw [hb]
    simp [getBody, getO_put ho]

/-- What is read is right, and has these bytes. -/
theorem val_read {c : List Int} (hc : Byt c) {t K N : Int} {S : ByteArray} {O : List Int} {next : Int} (h : getV c t = (K, N, S, O, next, true)) :
    okV K N S O = true ∧ ∃ p q : Nat, t = p ∧ next = q ∧ p ≤ q ∧ q ≤ c.length ∧ p < c.length ∧ putV [] K N S O = (c.drop p).take (q - p) := by
  rcases hT : getTlv c t with ⟨k, body, nx, okT⟩
  have hby : Byt body := by have := getTlv_byte c t hc; rw [hT] at this; exact this
  have main : okT = true → okV K N S O = true → K = k → next = nx → bodyV K N S O = body → okV K N S O = true ∧ ∃ p q : Nat, t = p ∧ next = q ∧ p ≤ q ∧ q ≤ c.length ∧ p < c.length ∧ putV [] K N S O = (c.drop p).take (q - p) := by
    rintro rfl hok rfl rfl hbd
    obtain ⟨p, q, rfl, rfl, h1, h2, h3⟩ := tlv_read c hc t K next body hT
    refine ⟨hok, p, q, rfl, rfl, h1, h2, ?_, ?_⟩
    · by_cases hp : p < c.length
      · exact hp
      · unfold getTlv at hT; rw [if_pos (.inr (by omega))] at hT; simp at hT
    · rw [← h3, ← hbd]; simp [putV, hok]
  rcases getV_ways h hT with ⟨ht, e⟩ | ⟨ht, hk, hi, e⟩ | ⟨ht, hk, hi, e⟩ | ⟨ht, hk, hl, e⟩ | ⟨ht, hk, hl, e⟩ | ⟨ht, hk, o, ho, e⟩ | ⟨ht, hk, ho, e⟩ | ⟨ht, hk, hk', hl, e⟩ | ⟨ht, hk, hk', e⟩
  · cases e
  · cases e
    have hi' : getInt body = ((getInt body).1, true) := Prod.ext rfl hi
    exact main ht (int_ok hby hi') hk.symm rfl (by simp [bodyV]; exact int_read body hby _ hi')
  · cases e
  · cases e
    exact main ht (by rw [text_ok]; exact decide_eq_true hl) hk.symm rfl (by simp [bodyV]; exact strB_byB hby)
  · cases e
  · cases e
    exact main ht (oid_ok (getO_is ho).1) hk.symm rfl (by simp [bodyV]; exact (getO_is ho).2)
  · cases e
  · cases e
    refine main ht (by rw [bare_ok hk.1 hk.2.1 hk.2.2]; obtain ⟨x, hx, _⟩ := bare_some hk'; rw [hx]; rfl) rfl rfl ?_
    unfold bodyV
    rw [if_neg hk.1, if_neg hk.2.1, if_neg hk.2.2, List.eq_nil_of_length_eq_zero hl]
  · cases e

end Go.Proofs.Ytamglfhnhjgdjaa
