/-
  A vector of its bytes: what the program's cutter, and what the specification's reader, come to is one and the same.
-/
import Derived.Test.YtanonfdgckanhaaVecMath
import Derived.Test.YtanonfdgckanhaaFrameCut
namespace Go.Proofs.Ytanonfdgckanhaa
open Go.RowKit

/-- What is read of bytes: the five numbers and true, or noughts and false. -/
def gotVc (z : List Int) : Int × Int × Int × Int × Int × Bool :=
  match getVc z with
  | some x => (x.r, x.c, x.h, x.b, x.p, true)
  | none => (0, 0, 0, 0, 0, false)

theorem gotVc_some {z : List Int} {x : VD} (h : getVc z = some x) : gotVc z = (x.r, x.c, x.h, x.b, x.p, true) := by unfold gotVc; rw [h]
theorem gotVc_none {z : List Int} (h : getVc z = none) : gotVc z = (0, 0, 0, 0, 0, false) := by unfold gotVc; rw [h]

theorem numM_is (z : List Int) (t : Int) : numM z t = numT 2 z t := rfl

theorem step_cut {z z1 : List Int} {p : Nat} {m : Int} {b1 : Bool} (hz : Byt z) (hp : p ≤ z.length) (h : CutN 2 (z.drop p) false m z1 b1) :
    (b1 = false ∧ ∃ q : Nat, q ≤ z.length ∧ numM z p = some (m, (q : Int)) ∧ z1 = z.drop q) ∨ (b1 = true ∧ numM z p = none) := by
  rcases h with ⟨rfl, t, hn, rfl⟩ | ⟨rfl, hn⟩
  · obtain ⟨_, q, _, rfl, _, hq, _⟩ := numT_read (byt_drop hz p) hn
    rw [List.length_drop] at hq
    refine .inl ⟨rfl, p + q, by omega, ?_, by simp [List.drop_drop]⟩
    rw [numM_is, numT_at hz hp, hn]
    simp
    omega
  · refine .inr ⟨rfl, ?_⟩
    rw [numM_is, numT_at hz hp, hn]
    rfl

theorem cut_stays {tag : Int} {z z' : List Int} {m : Int} {b : Bool} (h : CutN tag z true m z' b) : b = true := by
  rcases h with ⟨h, -⟩ | ⟨h, -⟩ <;> exact h

theorem cut_vec {z z1 z2 z3 z4 z5 : List Int} {r c h b p : Int} {b1 b2 b3 b4 b5 : Bool} (hz : Byt z) (h1 : CutN 2 z false r z1 b1) (h2 : CutN 2 z1 b1 c z2 b2) (h3 : CutN 2 z2 b2 h z3 b3) (h4 : CutN 2 z3 b3 b z4 b4) (h5 : CutN 2 z4 b4 p z5 b5) :
    gotVc z = if b5 = false ∧ z5.length = 0 ∧ okVc r c h b p = true then (r, c, h, b, p, true) else (0, 0, 0, 0, 0, false) := by
  rcases step_cut (p := 0) hz (Nat.zero_le _) h1 with ⟨rfl, q1, hq1, n1, rfl⟩ | ⟨rfl, n1⟩
  · rcases step_cut hz hq1 h2 with ⟨rfl, q2, hq2, n2, rfl⟩ | ⟨rfl, n2⟩
    · rcases step_cut hz hq2 h3 with ⟨rfl, q3, hq3, n3, rfl⟩ | ⟨rfl, n3⟩
      · rcases step_cut hz hq3 h4 with ⟨rfl, q4, hq4, n4, rfl⟩ | ⟨rfl, n4⟩
        · rcases step_cut hz hq4 h5 with ⟨rfl, q5, hq5, n5, rfl⟩ | ⟨rfl, n5⟩
          · have hG : getVc z = if (q5 : Int) = z.length ∧ okVc r c h b p = true then some ⟨r, c, h, b, p⟩ else none := by
              unfold getVc
              rw [show numM z 0 = _ from n1]
              simp only
              rw [n2]
              simp only
              rw [n3]
              simp only
              rw [n4]
              simp only
              rw [n5]
            rw [List.length_drop]
            by_cases hk : (q5 : Int) = z.length ∧ okVc r c h b p = true
            · rw [if_pos hk] at hG
              rw [gotVc_some hG, if_pos ⟨rfl, by omega, hk.2⟩]
            · rw [if_neg hk] at hG
              rw [gotVc_none hG, if_neg (by rintro ⟨_, ha, hb⟩; exact hk ⟨by omega, hb⟩)]
          · rw [if_neg (by simp)]
            refine gotVc_none ?_
            unfold getVc
            rw [show numM z 0 = _ from n1]
            simp only
            rw [n2]
            simp only
            rw [n3]
            simp only
            rw [n4]
            simp only
            rw [n5]
        · have e5 := cut_stays h5
          rw [if_neg (by rw [e5]; simp)]
          refine gotVc_none ?_
          unfold getVc
          rw [show numM z 0 = _ from n1]
          simp only
          rw [n2]
          simp only
          rw [n3]
          simp only
          rw [n4]
      · have e4 := cut_stays h4
        rw [e4] at h5
        have e5 := cut_stays h5
        rw [if_neg (by rw [e5]; simp)]
        refine gotVc_none ?_
        unfold getVc
        rw [show numM z 0 = _ from n1]
        simp only
        rw [n2]
        simp only
        rw [n3]
    · have e3 := cut_stays h3
      rw [e3] at h4
      have e4 := cut_stays h4
      rw [e4] at h5
      have e5 := cut_stays h5
      rw [if_neg (by rw [e5]; simp)]
      refine gotVc_none ?_
      unfold getVc
      rw [show numM z 0 = _ from n1]
      simp only
      rw [n2]
  · have e2 := cut_stays h2
    rw [e2] at h3
    have e3 := cut_stays h3
    rw [e3] at h4
    have e4 := cut_stays h4
    rw [e4] at h5
    have e5 := cut_stays h5
    rw [if_neg (by rw [e5]; simp)]
    refine gotVc_none ?_
    unfold getVc
    rw [show numM z 0 = _ from n1]

/-- A number that the specification's reader read, or could not. -/
def RdM (z : List Int) (t : Int) (bad : Bool) (m t' : Int) (bad' : Bool) : Prop :=
  (bad' = false ∧ bad = false ∧ numM z t = some (m, t')) ∨ (bad' = true ∧ (bad = true ∨ numM z t = none))

theorem RdM.step {z : List Int} {t m t' : Int} {bad' : Bool} (h : RdM z t false m t' bad') : (bad' = false ∧ numM z t = some (m, t')) ∨ (bad' = true ∧ numM z t = none) := by
  rcases h with ⟨h1, -, h2⟩ | ⟨h1, h2⟩
  · exact .inl ⟨h1, h2⟩
  · rcases h2 with h2 | h2
    · cases h2
    · exact .inr ⟨h1, h2⟩

theorem RdM.stays {z : List Int} {t m t' : Int} {bad' : Bool} (h : RdM z t true m t' bad') : bad' = true := by
  rcases h with ⟨-, h, -⟩ | ⟨h, -⟩
  · cases h
  · exact h

theorem read_vec {z : List Int} {r c h b p t1 t2 t3 t4 t5 : Int} {b1 b2 b3 b4 b5 : Bool} (h1 : RdM z 0 false r t1 b1) (h2 : RdM z t1 b1 c t2 b2) (h3 : RdM z t2 b2 h t3 b3) (h4 : RdM z t3 b3 b t4 b4) (h5 : RdM z t4 b4 p t5 b5) :
    gotVc z = if b5 = false ∧ t5 = (z.length : Int) ∧ okVc r c h b p = true then (r, c, h, b, p, true) else (0, 0, 0, 0, 0, false) := by
  rcases h1.step with ⟨rfl, n1⟩ | ⟨rfl, n1⟩
  · rcases h2.step with ⟨rfl, n2⟩ | ⟨rfl, n2⟩
    · rcases h3.step with ⟨rfl, n3⟩ | ⟨rfl, n3⟩
      · rcases h4.step with ⟨rfl, n4⟩ | ⟨rfl, n4⟩
        · rcases h5.step with ⟨rfl, n5⟩ | ⟨rfl, n5⟩
          · have hG : getVc z = if t5 = z.length ∧ okVc r c h b p = true then some ⟨r, c, h, b, p⟩ else none := by
              unfold getVc
              rw [n1]
              simp only
              rw [n2]
              simp only
              rw [n3]
              simp only
              rw [n4]
              simp only
              rw [n5]
            by_cases hk : t5 = z.length ∧ okVc r c h b p = true
            · rw [if_pos hk] at hG
              rw [gotVc_some hG, if_pos ⟨rfl, hk⟩]
            · rw [if_neg hk] at hG
              rw [gotVc_none hG, if_neg (fun h => hk h.2)]
          · rw [if_neg (by simp)]
            refine gotVc_none ?_
            unfold getVc
            rw [n1]
            simp only
            rw [n2]
            simp only
            rw [n3]
            simp only
            rw [n4]
            simp only
            rw [n5]
        · have e5 := h5.stays
          rw [if_neg (by rw [e5]; simp)]
          refine gotVc_none ?_
          unfold getVc
          rw [n1]
          simp only
          rw [n2]
          simp only
          rw [n3]
          simp only
          rw [n4]
      · have e4 := h4.stays
        rw [e4] at h5
        have e5 := h5.stays
        rw [if_neg (by rw [e5]; simp)]
        refine gotVc_none ?_
        unfold getVc
        rw [n1]
        simp only
        rw [n2]
        simp only
        rw [n3]
    · have e3 := h3.stays
      rw [e3] at h4
      have e4 := h4.stays
      rw [e4] at h5
      have e5 := h5.stays
      rw [if_neg (by rw [e5]; simp)]
      refine gotVc_none ?_
      unfold getVc
      rw [n1]
      simp only
      rw [n2]
  · have e2 := h2.stays
    rw [e2] at h3
    have e3 := h3.stays
    rw [e3] at h4
    have e4 := h4.stays
    rw [e4] at h5
    have e5 := h5.stays
    rw [if_neg (by rw [e5]; simp)]
    refine gotVc_none ?_
    unfold getVc
    rw [n1]

theorem gotVc_yes {z : List Int} (hz : Byt z) {r c h b p : Int} (k : gotVc z = (r, c, h, b, p, true)) : okVc r c h b p = true ∧ putVc r c h b p = z ∧ z ≠ [] := by
  unfold gotVc at k
  split at k
  · rename_i x hx
    simp only [Prod.mk.injEq] at k
    obtain ⟨rfl, rfl, rfl, rfl, rfl, -⟩ := k
    exact vec_read hz hx
  · simp at k

theorem gotVc_back {r c h b p : Int} (k : okVc r c h b p = true) : gotVc (putVc r c h b p) = (r, c, h, b, p, true) := gotVc_some (vec_back k)

theorem putVc_no {r c h b p : Int} (k : okVc r c h b p = false) : putVc r c h b p = [] := by unfold putVc; rw [k]; rfl
theorem putVc_is {r c h b p : Int} (k : okVc r c h b p = true) : putVc r c h b p = bodyVc r c h b p := by unfold putVc; rw [k]; rfl

theorem putVc_len (r c h b p : Int) : (putVc r c h b p).length ≤ 100 := by
  unfold putVc
  split
  · rw [bodyVc_eq]
    have e : ∀ n : Int, (numB n).length ≤ 15 := by
      intro n
      have h1 := putInt_length n
      have := lenB_le (putInt n).length
      unfold numB tlvB
      simp
      omega
    have e1 := e r
    have e2 := e c
    have e3 := e h
    have e4 := e b
    have e5 := e p
    simp
    omega
  · simp

theorem putVc_byte (r c h b p : Int) : Byt (putVc r c h b p) := by
  unfold putVc bodyVc
  split
  · exact putTlv_byte _ _ _ (putTlv_byte _ _ _ (putTlv_byte _ _ _ (putTlv_byte _ _ _ (putTlv_byte _ _ _ byte_nil (putInt_byte _)) (putInt_byte _)) (putInt_byte _)) (putInt_byte _)) (putInt_byte _)
  · exact byte_nil

end Go.Proofs.Ytanonfdgckanhaa
