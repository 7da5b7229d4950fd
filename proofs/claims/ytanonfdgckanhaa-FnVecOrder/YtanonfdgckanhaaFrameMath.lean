/-
  Frames: their bytes, and that what was put comes back; what is read is right and has these bytes.
-/
import Derived.Test.YtanonfdgckanhaaPartMath
namespace Go.Proofs.Ytanonfdgckanhaa
open Go.RowKit

/-- The number of the next part, which must have this tag. -/
def numT (tag : Int) (zs : List Int) (t : Int) : Option (Int × Int) :=
  match partM zs t tag with
  | some (b, nx) => if (getInt b).2 = true then some ((getInt b).1, nx) else none
  | none => none
def tagB (tag n : Int) : List Int := tlvB tag (putInt n)

theorem tagB_ok {tag : Int} (h : 0 ≤ tag ∧ tag ≤ 255) (n : Int) : TlvOk tag (putInt n) := by have := putInt_length n; unfold TlvOk; omega

theorem numT_mid {z pre r : List Int} {tag n : Int} (e : z = pre ++ (tagB tag n ++ r)) (ht : 0 ≤ tag ∧ tag ≤ 255) (hn : -2147483648 ≤ n ∧ n ≤ 2147483647) : numT tag z (pre.length : Int) = some (n, ((pre ++ tagB tag n).length : Int)) := by
  have h1 := tlv_mid pre tag (putInt n) r (tagB_ok ht n)
  unfold numT
  rw [e, show pre ++ (tagB tag n ++ r) = pre ++ (tlvB tag (putInt n) ++ r) from rfl, part_of h1]
  simp [int_back, tagB, clip_in hn]

theorem numT_read {z : List Int} (hz : Byt z) {tag t n nx : Int} (h : numT tag z t = some (n, nx)) :
    ∃ p q : Nat, t = p ∧ nx = q ∧ p < q ∧ q ≤ z.length ∧ z.drop p = tagB tag n ++ z.drop q := by
  unfold numT at h
  split at h
  · rename_i b nx' hp
    split at h
    · rename_i hi
      simp only [Option.some.injEq, Prod.mk.injEq] at h
      obtain ⟨rfl, rfl⟩ := h
      have hT := part_some hp
      obtain ⟨p, q, rfl, rfl, hpq, hql, hok, hlie⟩ := tlv_lies hz hT
      refine ⟨p, q, rfl, rfl, hpq, hql, ?_⟩
      have hi' : getInt b = ((getInt b).1, true) := Prod.ext rfl hi
      unfold tagB
      rw [int_read b (byt_of_part hz hT) _ hi']
      exact hlie
    · cases h
  · cases h

structure FD where
  d : Int
  s : Int
  g : Int
  z : List Int

def okF (d s g : Int) (n : Nat) : Bool := decide (0 ≤ d ∧ d ≤ 9999) && (decide (1 ≤ s ∧ s ≤ 9999) && (decide (0 ≤ g ∧ g ≤ 99) && decide (n ≤ 20)))
def headF (d s : Int) : List Int := putTlv (putTlv [] 1 (putInt d)) 1 (putInt s)
def bodyF (d s g : Int) (z : List Int) : List Int := if g = 0 then putTlv (headF d s) 3 z else putTlv (putTlv (headF d s) 2 (putInt g)) 3 z
def putF (d s g : Int) (z : List Int) : List Int := if okF d s g z.length = true then bodyF d s g z else []

def getF (zs : List Int) : Option FD :=
  match numT 1 zs 0 with
  | some (d, t1) =>
    match numT 1 zs t1 with
    | some (s, t2) =>
      if (getTlv zs t2).2.2.2 = true ∧ (getTlv zs t2).1 = 2 then
        match numT 2 zs t2 with
        | some (g, t3) =>
          match partM zs t3 3 with
          | some (z, t4) => if t4 = zs.length ∧ okF d s g z.length = true ∧ ¬ g = 0 then some ⟨d, s, g, z⟩ else none
          | none => none
        | none => none
      else
        match partM zs t2 3 with
        | some (z, t4) => if t4 = zs.length ∧ okF d s 0 z.length = true then some ⟨d, s, 0, z⟩ else none
        | none => none
    | none => none
  | none => none

theorem okF_parts {d s g : Int} {n : Nat} (k : okF d s g n = true) : (0 ≤ d ∧ d ≤ 9999) ∧ (1 ≤ s ∧ s ≤ 9999) ∧ (0 ≤ g ∧ g ≤ 99) ∧ n ≤ 20 := by
  unfold okF at k
  simp only [Bool.and_eq_true, decide_eq_true_eq] at k
  exact k

theorem headF_eq (d s : Int) : headF d s = tagB 1 d ++ tagB 1 s := by
  unfold headF tagB
  rw [put_part (tagB_ok (by omega) d), put_part (tagB_ok (by omega) s)]
  simp
theorem bodyF_eq {z : List Int} (hl : z.length ≤ 250) (d s g : Int) : bodyF d s g z = if g = 0 then tagB 1 d ++ (tagB 1 s ++ tlvB 3 z) else tagB 1 d ++ (tagB 1 s ++ (tagB 2 g ++ tlvB 3 z)) := by
  unfold bodyF
  split
  · rw [put_part (by unfold TlvOk; omega), headF_eq]
    simp
  · rw [put_part (tagB_ok (by omega) g), put_part (by unfold TlvOk; omega), headF_eq]
    simp [tagB]

theorem frame_back {d s g : Int} {z : List Int} (k : okF d s g z.length = true) : getF (putF d s g z) = some ⟨d, s, g, z⟩ := by
  obtain ⟨k1, k2, k3, k4⟩ := okF_parts k
  have e : putF d s g z = if g = 0 then tagB 1 d ++ (tagB 1 s ++ tlvB 3 z) else tagB 1 d ++ (tagB 1 s ++ (tagB 2 g ++ tlvB 3 z)) := by unfold putF; rw [if_pos k, bodyF_eq (by omega)]
  generalize putF d s g z = zs at *
  by_cases hg : g = 0
  · subst hg
    rw [if_pos rfl] at e
    have n1 := numT_mid (z := zs) (pre := []) (tag := 1) (n := d) (r := tagB 1 s ++ tlvB 3 z) (by simp [e]) (by omega) (by omega)
    have n2 := numT_mid (z := zs) (pre := [] ++ tagB 1 d) (tag := 1) (n := s) (r := tlvB 3 z) (by simp [e]) (by omega) (by omega)
    have n3 := tlv_mid ([] ++ tagB 1 d ++ tagB 1 s) 3 z [] (by unfold TlvOk; omega)
    have e3 : [] ++ tagB 1 d ++ tagB 1 s ++ (tlvB 3 z ++ []) = zs := by simp [e]
    rw [e3] at n3
    have n1 : numT 1 zs 0 = some (d, (([] ++ tagB 1 d).length : Int)) := n1
    unfold getF
    rw [n1]
    simp only
    rw [n2]
    simp only
    rw [n3, part_of n3]
    simp only
    rw [if_neg (by omega), if_pos ⟨by simp [e]; omega, k⟩]
  · rw [if_neg hg] at e
    have n1 := numT_mid (z := zs) (pre := []) (tag := 1) (n := d) (r := tagB 1 s ++ (tagB 2 g ++ tlvB 3 z)) (by simp [e]) (by omega) (by omega)
    have n2 := numT_mid (z := zs) (pre := [] ++ tagB 1 d) (tag := 1) (n := s) (r := tagB 2 g ++ tlvB 3 z) (by simp [e]) (by omega) (by omega)
    have n3 := numT_mid (z := zs) (pre := [] ++ tagB 1 d ++ tagB 1 s) (tag := 2) (n := g) (r := tlvB 3 z) (by simp [e]) (by omega) (by omega)
    have n4 := tlv_mid ([] ++ tagB 1 d ++ tagB 1 s ++ tagB 2 g) 3 z [] (by unfold TlvOk; omega)
    have m3 := tlv_mid ([] ++ tagB 1 d ++ tagB 1 s) 2 (putInt g) (tlvB 3 z) (tagB_ok (by omega) g)
    have e4 : [] ++ tagB 1 d ++ tagB 1 s ++ tagB 2 g ++ (tlvB 3 z ++ []) = zs := by simp [e]
    have e3 : [] ++ tagB 1 d ++ tagB 1 s ++ (tlvB 2 (putInt g) ++ tlvB 3 z) = zs := by simp [e, tagB]
    rw [e4] at n4
    rw [e3] at m3
    have n1 : numT 1 zs 0 = some (d, (([] ++ tagB 1 d).length : Int)) := n1
    unfold getF
    rw [n1]
    simp only
    rw [n2]
    simp only
    rw [m3, n3]
    simp only [and_self, if_true]
    rw [part_of n4]
    simp only
    rw [if_pos ⟨by simp [e]; omega, k, hg⟩]

theorem frame_read {zs : List Int} (hz : Byt zs) {x : FD} (k : getF zs = some x) : okF x.d x.s x.g x.z.length = true ∧ putF x.d x.s x.g x.z = zs ∧ zs ≠ [] := by
  unfold getF at k
  split at k
  · rename_i d t1 e1
    split at k
    · rename_i s t2 e2
      obtain ⟨p1, q1, hp1, rfl, hl1, hm1, d1⟩ := numT_read hz e1
      obtain ⟨p2, q2, hp2, rfl, hl2, hm2, d2⟩ := numT_read hz e2
      have hz0 : zs ≠ [] := by intro h0; rw [h0] at hm1; simp at hm1; omega
      have z1 : p1 = 0 := by omega
      have z2 : p2 = q1 := by omega
      subst z1 z2
      split at k
      · split at k
        · rename_i g t3 e3
          split at k
          · rename_i z t4 e4
            split at k
            · rename_i hc
              obtain ⟨hend, hok, hg⟩ := hc
              cases k
              obtain ⟨p3, q3, hp3, rfl, hl3, hm3, d3⟩ := numT_read hz e3
              obtain ⟨p4, q4, hp4, hq4, hl4, hm4, hok4, d4⟩ := tlv_lies hz (part_some e4)
              have z3 : p3 = q2 := by omega
              have z4 : p4 = q3 := by omega
              have z5 : q4 = zs.length := by omega
              subst z3 z4 z5
              rw [List.drop_length, List.append_nil] at d4
              have hzl : z.length ≤ 250 := by have := (okF_parts hok).2.2.2; omega
              refine ⟨hok, ?_, hz0⟩
              unfold putF
              rw [if_pos hok, bodyF_eq hzl, if_neg hg, ← d4, ← d3, ← d2]
              simpa using d1.symm
            · cases k
          · cases k
        · cases k
      · split at k
        · rename_i z t4 e4
          split at k
          · rename_i hc
            obtain ⟨hend, hok⟩ := hc
            cases k
            obtain ⟨p4, q4, hp4, hq4, hl4, hm4, hok4, d4⟩ := tlv_lies hz (part_some e4)
            have z4 : p4 = q2 := by omega
            have z5 : q4 = zs.length := by omega
            subst z4 z5
            rw [List.drop_length, List.append_nil] at d4
            have hzl : z.length ≤ 250 := by have := (okF_parts hok).2.2.2; omega
            refine ⟨hok, ?_, hz0⟩
            unfold putF
            rw [if_pos hok, bodyF_eq hzl, if_pos rfl, ← d4, ← d2]
            simpa using d1.symm
          · cases k
        · cases k
    · cases k
  · cases k

end Go.Proofs.Ytanonfdgckanhaa
