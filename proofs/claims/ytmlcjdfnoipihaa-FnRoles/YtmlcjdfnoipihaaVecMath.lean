/-
  Vectors: five numbers, their bytes, and that what was put comes back; what is read is right and has these bytes.
-/
import Derived.Test.YtmlcjdfnoipihaaPartMath
namespace Go.Proofs.Ytmlcjdfnoipihaa
open Go.RowKit

structure VD where
  r : Int
  c : Int
  h : Int
  b : Int
  p : Int

def okVc (r c h b p : Int) : Bool := decide (1 ≤ r ∧ r ≤ 99) && (decide (0 ≤ c ∧ c ≤ 100000) && (decide (0 ≤ h ∧ h ≤ 10) && (decide (1 ≤ b ∧ b ≤ 99) && decide (0 ≤ p ∧ p ≤ 7))))
def bodyVc (r c h b p : Int) : List Int := putTlv (putTlv (putTlv (putTlv (putTlv [] 2 (putInt r)) 2 (putInt c)) 2 (putInt h)) 2 (putInt b)) 2 (putInt p)
def putVc (r c h b p : Int) : List Int := if okVc r c h b p = true then bodyVc r c h b p else []

def getVc (z : List Int) : Option VD :=
  match numM z 0 with
  | some (r, t1) =>
    match numM z t1 with
    | some (c, t2) =>
      match numM z t2 with
      | some (h, t3) =>
        match numM z t3 with
        | some (b, t4) =>
          match numM z t4 with
          | some (p, t5) => if t5 = z.length ∧ okVc r c h b p = true then some ⟨r, c, h, b, p⟩ else none
          | none => none
        | none => none
      | none => none
    | none => none
  | none => none

theorem bodyVc_eq (r c h b p : Int) : bodyVc r c h b p = numB r ++ (numB c ++ (numB h ++ (numB b ++ numB p))) := by
  unfold bodyVc numB
  rw [put_part (numB_ok r), put_part (numB_ok c), put_part (numB_ok h), put_part (numB_ok b), put_part (numB_ok p)]
  simp

theorem okVc_parts {r c h b p : Int} (k : okVc r c h b p = true) : (1 ≤ r ∧ r ≤ 99) ∧ (0 ≤ c ∧ c ≤ 100000) ∧ (0 ≤ h ∧ h ≤ 10) ∧ (1 ≤ b ∧ b ≤ 99) ∧ (0 ≤ p ∧ p ≤ 7) := by
  unfold okVc at k
  simp only [Bool.and_eq_true, decide_eq_true_eq] at k
  exact k

/-- A number in the midst of bytes, where all is said of the whole. -/
theorem num_mid {z pre r : List Int} {n : Int} (e : z = pre ++ (numB n ++ r)) (hn : -2147483648 ≤ n ∧ n ≤ 2147483647) : numM z (pre.length : Int) = some (n, ((pre ++ numB n).length : Int)) := by
  rw [e, numM_back, clip_in hn]
  simp

theorem vec_back {r c h b p : Int} (k : okVc r c h b p = true) : getVc (putVc r c h b p) = some ⟨r, c, h, b, p⟩ := by
  obtain ⟨k1, k2, k3, k4, k5⟩ := okVc_parts k
  have e : putVc r c h b p = numB r ++ (numB c ++ (numB h ++ (numB b ++ numB p))) := by unfold putVc; rw [if_pos k, bodyVc_eq]
  generalize putVc r c h b p = z at *
  have n1 := num_mid (z := z) (pre := []) (n := r) (r := numB c ++ (numB h ++ (numB b ++ numB p))) (by simp [e]) (by omega)
  have n2 := num_mid (z := z) (pre := [] ++ numB r) (n := c) (r := numB h ++ (numB b ++ numB p)) (by simp [e]) (by omega)
  have n3 := num_mid (z := z) (pre := [] ++ numB r ++ numB c) (n := h) (r := numB b ++ numB p) (by simp [e]) (by omega)
  have n4 := num_mid (z := z) (pre := [] ++ numB r ++ numB c ++ numB h) (n := b) (r := numB p) (by simp [e]) (by omega)
  have n5 := num_mid (z := z) (pre := [] ++ numB r ++ numB c ++ numB h ++ numB b) (n := p) (r := []) (by simp [e]) (by omega)
  have n1 : numM z 0 = some (r, (([] ++ numB r).length : Int)) := n1
  unfold getVc
  rw [n1]
  simp only
  rw [n2]
  simp only
  rw [n3]
  simp only
  rw [n4]
  simp only
  rw [n5]
  simp only
  rw [if_pos ⟨by simp [e], k⟩]

theorem vec_read {z : List Int} (hz : Byt z) {x : VD} (k : getVc z = some x) : okVc x.r x.c x.h x.b x.p = true ∧ putVc x.r x.c x.h x.b x.p = z ∧ z ≠ [] := by
  unfold getVc at k
  split at k
  · rename_i r t1 e1
    split at k
    · rename_i c t2 e2
      split at k
      · rename_i h t3 e3
        split at k
        · rename_i b t4 e4
          split at k
          · rename_i p t5 e5
            split at k
            · rename_i hc
              obtain ⟨hend, hok⟩ := hc
              cases k
              obtain ⟨p1, q1, hp1, rfl, hl1, hm1, d1⟩ := numM_read hz e1
              obtain ⟨p2, q2, hp2, rfl, hl2, hm2, d2⟩ := numM_read hz e2
              obtain ⟨p3, q3, hp3, rfl, hl3, hm3, d3⟩ := numM_read hz e3
              obtain ⟨p4, q4, hp4, rfl, hl4, hm4, d4⟩ := numM_read hz e4
              obtain ⟨p5, q5, hp5, rfl, hl5, hm5, d5⟩ := numM_read hz e5
              have hz0 : z ≠ [] := by intro h0; rw [h0] at hm1; simp at hm1; omega
              have z1 : p1 = 0 := by omega
              have z2 : p2 = q1 := by omega
              have z3 : p3 = q2 := by omega
              have z4 : p4 = q3 := by omega
              have z5 : p5 = q4 := by omega
              have z6 : q5 = z.length := by omega
              subst z1 z2 z3 z4 z5 z6
              rw [List.drop_length, List.append_nil] at d5
              refine ⟨hok, ?_, hz0⟩
              unfold putVc
              rw [if_pos hok, bodyVc_eq, ← d5, ← d4, ← d3, ← d2]
              simpa using d1.symm
            · cases k
          · cases k
        · cases k
      · cases k
    · cases k
  · cases k

end Go.Proofs.Ytmlcjdfnoipihaa
