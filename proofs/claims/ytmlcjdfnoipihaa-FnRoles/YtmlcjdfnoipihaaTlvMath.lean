/-
  Parts of bytes, as plain functions: what is put comes back, cut it does not; what is read has these bytes.
-/
import Derived.Test.YtmlcjdfnoipihaaSpecGet
namespace Go.Proofs.Ytmlcjdfnoipihaa
open Go.RowKit

theorem getD_left (a b : List Int) (i : Nat) (h : i < a.length) : (a ++ b).getD i 0 = a.getD i 0 := by
  simp [List.getD_eq_getElem?_getD, List.getElem?_append_left h]
theorem getD_take (z : List Int) (k i : Nat) (h : i < k) : (z.take k).getD i 0 = z.getD i 0 := by
  simp [List.getD_eq_getElem?_getD, h]

theorem putTlv_ok (b : List Int) (tag : Int) (body : List Int) (ht : ¬ (tag < 0 ∨ 255 < tag ∨ 250 < body.length)) : putTlv b tag body = b ++ ([tag] ++ lenB body.length ++ body) := by
  unfold putTlv; rw [if_neg ht]

/-- What is put comes back. -/
theorem tlv_back (b : List Int) (tag : Int) (body : List Int) (ht : ¬ (tag < 0 ∨ 255 < tag ∨ 250 < body.length)) :
    getTlv (putTlv b tag body) b.length = (tag, body, ((putTlv b tag body).length : Int), true) := by
  rw [putTlv_ok b tag body ht]
  by_cases hn : body.length < 128
  · have el : lenB body.length = [(body.length : Int)] := by simp [lenB, hn]
    rw [el]
    have e0 : (b ++ ([tag] ++ [(body.length : Int)] ++ body)).getD b.length 0 = tag := by simp
    have e1 : (b ++ ([tag] ++ [(body.length : Int)] ++ body)).getD (b.length + 1) 0 = body.length := by simp
    have hl : (b ++ ([tag] ++ [(body.length : Int)] ++ body)).length = b.length + (body.length + 2) := by simp
    have e2 : ((b ++ ([tag] ++ [(body.length : Int)] ++ body)).drop (b.length + 2)).take body.length = body := by
      have : (b ++ ([tag] ++ [(body.length : Int)] ++ body)) = (b ++ [tag, (body.length : Int)]) ++ body := by simp
      rw [this, List.drop_left' (by simp)]; simp
    generalize hq : b ++ ([tag] ++ [(body.length : Int)] ++ body) = q at *
    rw [getTlv_yes q b.length body.length (b.length + 2) (by omega) (by rw [lenAt_short q (b.length + 1) body.length (by omega) e1 (by omega)]; rfl) (by omega), e0, e2, hl]
    simp; omega
  · have el : lenB body.length = [129, (body.length : Int)] := by simp [lenB, hn]
    rw [el]
    have e0 : (b ++ ([tag] ++ [129, (body.length : Int)] ++ body)).getD b.length 0 = tag := by simp
    have e1 : (b ++ ([tag] ++ [129, (body.length : Int)] ++ body)).getD (b.length + 1) 0 = 129 := by simp
    have e3 : (b ++ ([tag] ++ [129, (body.length : Int)] ++ body)).getD (b.length + 2) 0 = body.length := by simp
    have hl : (b ++ ([tag] ++ [129, (body.length : Int)] ++ body)).length = b.length + (body.length + 3) := by simp
    have e2 : ((b ++ ([tag] ++ [129, (body.length : Int)] ++ body)).drop (b.length + 3)).take body.length = body := by
      have : (b ++ ([tag] ++ [129, (body.length : Int)] ++ body)) = (b ++ [tag, 129, (body.length : Int)]) ++ body := by simp
      rw [this, List.drop_left' (by simp)]; simp
    generalize hq : b ++ ([tag] ++ [129, (body.length : Int)] ++ body) = q at *
    rw [getTlv_yes q b.length body.length (b.length + 3) (by omega) (by rw [lenAt_long q (b.length + 1) body.length (by omega) e1 e3, decide_eq_true (by omega), decide_eq_true (by omega)]; rfl) (by omega), e0, e2, hl]
    simp; omega

/-- Cut it does not. -/
theorem tlv_cut (b : List Int) (tag : Int) (body : List Int) (ht : ¬ (tag < 0 ∨ 255 < tag ∨ 250 < body.length)) :
    getTlv ((putTlv b tag body).take ((putTlv b tag body).length - 1)) b.length = (0, [], 0, false) := by
  rw [putTlv_ok b tag body ht]
  by_cases hn : body.length < 128
  · have el : lenB body.length = [(body.length : Int)] := by simp [lenB, hn]
    rw [el]
    have e1 : (b ++ ([tag] ++ [(body.length : Int)] ++ body)).getD (b.length + 1) 0 = body.length := by simp
    have hl : (b ++ ([tag] ++ [(body.length : Int)] ++ body)).length = b.length + (body.length + 2) := by simp
    generalize hq : b ++ ([tag] ++ [(body.length : Int)] ++ body) = q at *
    have hl2 : (q.take (q.length - 1)).length = b.length + (body.length + 1) := by simp; omega
    refine getTlv_no _ _ ?_
    by_cases h0 : body.length = 0
    · rw [lenAt_out _ _ (by omega)]; simp
    · have e3 : (q.take (q.length - 1)).getD (b.length + 1) 0 = body.length := by rw [getD_take _ _ _ (by omega)]; exact e1
      rw [lenAt_short _ _ _ (by omega) e3 (by omega), hl2]
      simp; omega
  · have el : lenB body.length = [129, (body.length : Int)] := by simp [lenB, hn]
    rw [el]
    have e1 : (b ++ ([tag] ++ [129, (body.length : Int)] ++ body)).getD (b.length + 1) 0 = 129 := by simp
    have e3 : (b ++ ([tag] ++ [129, (body.length : Int)] ++ body)).getD (b.length + 2) 0 = body.length := by simp
    have hl : (b ++ ([tag] ++ [129, (body.length : Int)] ++ body)).length = b.length + (body.length + 3) := by simp
    generalize hq : b ++ ([tag] ++ [129, (body.length : Int)] ++ body) = q at *
    have hl2 : (q.take (q.length - 1)).length = b.length + (body.length + 2) := by simp; omega
    refine getTlv_no _ _ ?_
    have f1 : (q.take (q.length - 1)).getD (b.length + 1) 0 = 129 := by rw [getD_take _ _ _ (by omega)]; exact e1
    have f3 : (q.take (q.length - 1)).getD (b.length + 2) 0 = body.length := by rw [getD_take _ _ _ (by omega)]; exact e3
    rw [lenAt_long _ _ _ (by omega) f1 f3, hl2]
    simp; omega

theorem drop_cons (z : List Int) (p : Nat) (h : p < z.length) : z.drop p = z.getD p 0 :: z.drop (p + 1) := by
  rw [List.drop_eq_getElem_cons h]; simp [h]

/-- What is read has these bytes. -/
theorem tlv_read (z : List Int) (hz : Byt z) (t k next : Int) (x : List Int) (h : getTlv z t = (k, x, next, true)) :
    ∃ p q : Nat, t = p ∧ next = q ∧ p ≤ q ∧ q ≤ z.length ∧ putTlv [] k x = (z.drop p).take (q - p) := by
  by_cases h0 : t < 0 ∨ (z.length : Int) ≤ t
  · unfold getTlv at h; rw [if_pos h0] at h; simp at h
  obtain ⟨p, rfl⟩ : ∃ p : Nat, t = p := ⟨t.toNat, by omega⟩
  by_cases hy : (lenAt z (p + 1)).2.2 = true ∧ (lenAt z (p + 1)).1 ≤ z.length - (lenAt z (p + 1)).2.1
  · obtain ⟨n, f, hl, hn, hf, hf1, hf2⟩ := lenAt_ok hz hy.1
    have hfit : (n : Int) ≤ z.length - f := by have := hy.2; rw [hl] at this; exact this
    rw [getTlv_yes z p n f (by omega) hl hfit] at h
    simp only [Prod.mk.injEq, and_true] at h
    obtain ⟨rfl, rfl, rfl⟩ := h
    have b0 := hz.at p
    have hxl : ((z.drop f).take n).length = n := by simp; omega
    refine ⟨p, f + n, rfl, by omega, by omega, by omega, ?_⟩
    rw [putTlv_ok [] _ _ (by rw [hxl]; omega), hxl, List.nil_append]
    by_cases k1 : z.getD (p + 1) 0 < 128
    · rw [lenAt_short z (p + 1) _ (by omega) rfl k1] at hl
      simp only [Prod.mk.injEq, and_true] at hl
      obtain rfl : f = p + 2 := by omega
      have el : lenB n = [(n : Int)] := by unfold lenB; rw [if_pos (by omega)]
      rw [el, drop_cons z p (by omega), drop_cons z (p + 1) (by omega), show p + 2 + n - p = n + 1 + 1 from by omega, List.take_succ_cons, List.take_succ_cons, hl.1]
      rfl
    · by_cases k2 : z.getD (p + 1) 0 = 129
      · by_cases k3 : p + 2 < z.length
        · rw [lenAt_long z (p + 1) (z.getD (p + 2) 0) (by omega) k2 rfl] at hl
          simp only [Prod.mk.injEq, Bool.and_eq_true, decide_eq_true_eq] at hl
          obtain rfl : f = p + 3 := by omega
          have el : lenB n = [129, (n : Int)] := by unfold lenB; rw [if_neg (by omega)]
          rw [el, drop_cons z p (by omega), drop_cons z (p + 1) (by omega), drop_cons z (p + 1 + 1) (by omega), show p + 3 + n - p = n + 1 + 1 + 1 from by omega, List.take_succ_cons, List.take_succ_cons, List.take_succ_cons, k2, show p + 1 + 1 = p + 2 from rfl, hl.1]
          rfl
        · rw [lenAt_cut z (p + 1) (by omega) k2 (by omega)] at hl
          simp at hl
      · by_cases k3 : p + 1 < z.length
        · rw [lenAt_other z (p + 1) _ k3 rfl k1 k2] at hl
          simp at hl
        · rw [lenAt_out z (p + 1) (by omega)] at hl
          simp at hl
  · rw [getTlv_no z p hy] at h
    simp at h

end Go.Proofs.Ytmlcjdfnoipihaa
