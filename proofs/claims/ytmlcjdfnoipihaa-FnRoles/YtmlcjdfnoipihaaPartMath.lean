/-
  Parts among bytes: what is put is found, what is found lies there; a part of a kind, a number.
-/
import Derived.Test.YtmlcjdfnoipihaaTlvMath
import Derived.Test.YtmlcjdfnoipihaaIntMath
import Derived.Test.YtmlcjdfnoipihaaGetMade
import Derived.Test.YtmlcjdfnoipihaaGetNum
namespace Go.Proofs.Ytmlcjdfnoipihaa
open Go.RowKit

/-- A part's bytes. -/
def tlvB (tag : Int) (body : List Int) : List Int := [tag] ++ lenB body.length ++ body

def TlvOk (tag : Int) (body : List Int) : Prop := ¬ (tag < 0 ∨ 255 < tag ∨ 250 < body.length)

theorem put_part {tag : Int} {body : List Int} (h : TlvOk tag body) (b : List Int) : putTlv b tag body = b ++ tlvB tag body := putTlv_ok b tag body h

/-- A part with whatever behind it. -/
theorem tlv_mid (b : List Int) (tag : Int) (body r : List Int) (ht : TlvOk tag body) :
    getTlv (b ++ (tlvB tag body ++ r)) b.length = (tag, body, ((b.length + (tlvB tag body).length : Nat) : Int), true) := by
  unfold TlvOk at ht
  unfold tlvB
  by_cases hn : body.length < 128
  · have el : lenB body.length = [(body.length : Int)] := by simp [lenB, hn]
    rw [el]
    have e0 : (b ++ ([tag] ++ [(body.length : Int)] ++ body ++ r)).getD b.length 0 = tag := by simp
    have e1 : (b ++ ([tag] ++ [(body.length : Int)] ++ body ++ r)).getD (b.length + 1) 0 = body.length := by simp
    have hl : (b ++ ([tag] ++ [(body.length : Int)] ++ body ++ r)).length = b.length + (body.length + 2) + r.length := by simp; omega
    have e2 : ((b ++ ([tag] ++ [(body.length : Int)] ++ body ++ r)).drop (b.length + 2)).take body.length = body := by
      have : (b ++ ([tag] ++ [(body.length : Int)] ++ body ++ r)) = (b ++ [tag, (body.length : Int)]) ++ (body ++ r) := by simp
      rw [this, List.drop_left' (by simp)]; simp
    generalize hq : b ++ ([tag] ++ [(body.length : Int)] ++ body ++ r) = q at *
    rw [getTlv_yes q b.length body.length (b.length + 2) (by omega) (by rw [lenAt_short q (b.length + 1) body.length (by omega) e1 (by omega)]; rfl) (by omega), e0, e2]
    simp; omega
  · have el : lenB body.length = [129, (body.length : Int)] := by simp [lenB, hn]
    rw [el]
    have e0 : (b ++ ([tag] ++ [129, (body.length : Int)] ++ body ++ r)).getD b.length 0 = tag := by simp
    have e1 : (b ++ ([tag] ++ [129, (body.length : Int)] ++ body ++ r)).getD (b.length + 1) 0 = 129 := by simp
    have e3 : (b ++ ([tag] ++ [129, (body.length : Int)] ++ body ++ r)).getD (b.length + 2) 0 = body.length := by simp
    have hl : (b ++ ([tag] ++ [129, (body.length : Int)] ++ body ++ r)).length = b.length + (body.length + 3) + r.length := by simp; omega
    have e2 : ((b ++ ([tag] ++ [129, (body.length : Int)] ++ body ++ r)).drop (b.length + 3)).take body.length = body := by
      have : (b ++ ([tag] ++ [129, (body.length : Int)] ++ body ++ r)) = (b ++ [tag, 129, (body.length : Int)]) ++ (body ++ r) := by simp
      rw [this, List.drop_left' (by simp)]; simp
    generalize hq : b ++ ([tag] ++ [129, (body.length : Int)] ++ body ++ r) = q at *
    rw [getTlv_yes q b.length body.length (b.length + 3) (by omega) (by rw [lenAt_long q (b.length + 1) body.length (by omega) e1 e3, decide_eq_true (by omega), decide_eq_true (by omega)]; rfl) (by omega), e0, e2]
    simp; omega

theorem take_drop_split (z : List Int) (p q : Nat) (h : p ≤ q) : z.drop p = (z.drop p).take (q - p) ++ z.drop q := by
  have : z.drop q = (z.drop p).drop (q - p) := by rw [List.drop_drop]; congr 1; omega
  rw [this, List.take_append_drop]

/-- What is read at a place lies there. -/
theorem tlv_lies {z : List Int} (hz : Byt z) {t k next : Int} {x : List Int} (h : getTlv z t = (k, x, next, true)) :
    ∃ p q : Nat, t = p ∧ next = q ∧ p < q ∧ q ≤ z.length ∧ TlvOk k x ∧ z.drop p = tlvB k x ++ z.drop q := by
  obtain ⟨p, q, rfl, rfl, h1, h2, h3⟩ := tlv_read z hz t k next x h
  have hp : p < z.length := by
    by_cases hp : p < z.length
    · exact hp
    · unfold getTlv at h; rw [if_pos (.inr (by omega))] at h; simp at h
  have hT : TlvOk k x := by
    intro hbad
    have hnil : putTlv [] k x = [] := by unfold putTlv; rw [if_pos hbad]
    rw [hnil] at h3
    have hl : ((z.drop p).take (q - p)).length = 0 := by rw [← h3]; rfl
    simp at hl
    have hpq : p = q := by omega
    subst hpq
    unfold getTlv at h
    rw [if_neg (by omega)] at h
    simp only [Int.toNat_natCast] at h
    split at h
    · rename_i hy
      obtain ⟨n, f, hl', hn, hf, hf1, hf2⟩ := lenAt_ok hz hy.1
      rw [hl'] at h
      simp only [Prod.mk.injEq] at h
      omega
    · cases h
  have h4 : tlvB k x = (z.drop p).take (q - p) := by rw [← h3, put_part hT]; rfl
  have hlt : p < q := by
    have : 0 < (tlvB k x).length := by simp [tlvB]
    rw [h4] at this
    simp at this
    omega
  exact ⟨p, q, rfl, rfl, hlt, h2, hT, by rw [h4]; exact take_drop_split z p q h1⟩

def numB (n : Int) : List Int := tlvB 2 (putInt n)

/-- The next part, which must have this tag: its bytes, the place behind it. -/
def partM (zs : List Int) (t tag : Int) : Option (List Int × Int) :=
  if (getTlv zs t).2.2.2 = true ∧ (getTlv zs t).1 = tag then some ((getTlv zs t).2.1, (getTlv zs t).2.2.1) else none

def numM (zs : List Int) (t : Int) : Option (Int × Int) :=
  match partM zs t 2 with
  | some (b, nx) => if (getInt b).2 = true then some ((getInt b).1, nx) else none
  | none => none

theorem part_some {zs : List Int} {t tag : Int} {b : List Int} {nx : Int} (h : partM zs t tag = some (b, nx)) : getTlv zs t = (tag, b, nx, true) := by
  unfold partM at h
  split at h
  · rename_i hc
    simp only [Option.some.injEq, Prod.mk.injEq] at h
    rcases hg : getTlv zs t with ⟨k, x, n, ok⟩
    rw [hg] at h hc
    obtain ⟨rfl, rfl⟩ := h
    obtain ⟨h1, h2⟩ := hc
    simp at h1 h2
    rw [h1, h2]
  · cases h

theorem part_of {zs : List Int} {t tag : Int} {b : List Int} {nx : Int} (h : getTlv zs t = (tag, b, nx, true)) : partM zs t tag = some (b, nx) := by
  unfold partM; rw [h]; simp

theorem tlvB_len (tag : Int) (body : List Int) : 2 ≤ (tlvB tag body).length := by unfold tlvB lenB; split <;> simp <;> omega

theorem lenB_le (n : Nat) : (lenB n).length ≤ 2 := lenB_length n

theorem byt_of_part {z : List Int} (hz : Byt z) {t k nx : Int} {x : List Int} {ok : Bool} (h : getTlv z t = (k, x, nx, ok)) : Byt x := by
  have := getTlv_byte z t hz; rw [h] at this; exact this

theorem numM_back (pre r : List Int) (n : Int) : numM (pre ++ (numB n ++ r)) pre.length = some (clip n, ((pre.length + (numB n).length : Nat) : Int)) := by
  have h1 := tlv_mid pre 2 (putInt n) r (by have := putInt_length n; unfold TlvOk; omega)
  unfold numM
  rw [show pre ++ (numB n ++ r) = pre ++ (tlvB 2 (putInt n) ++ r) from rfl, part_of h1]
  simp [int_back, numB]

theorem numM_read {z : List Int} (hz : Byt z) {t n nx : Int} (h : numM z t = some (n, nx)) :
    ∃ p q : Nat, t = p ∧ nx = q ∧ p < q ∧ q ≤ z.length ∧ z.drop p = numB n ++ z.drop q := by
  unfold numM at h
  split at h
  · rename_i b nx' hp
    split at h
    · rename_i hi
      simp only [Option.some.injEq, Prod.mk.injEq] at h
      obtain ⟨rfl, rfl⟩ := h
      have hT := part_some hp
      obtain ⟨p, q, rfl, rfl, hpq, hql, hok, hlie⟩ := tlv_lies hz hT
      refine ⟨p, q, rfl, rfl, hpq, hql, ?_⟩
      have hi' : getInt b = ((getInt b).1, true) := Prod.ext rfl hi
      unfold numB
      rw [int_read b (byt_of_part hz hT) _ hi']
      exact hlie
    · cases h
  · cases h

theorem numB_ok (n : Int) : TlvOk 2 (putInt n) := by have := putInt_length n; unfold TlvOk; omega

theorem clip_in {n : Int} (h : -2147483648 ≤ n ∧ n ≤ 2147483647) : clip n = n := by unfold clip; rw [if_neg (by omega), if_neg (by omega)]

theorem numM_some {zs : List Int} {t m nx : Int} (h : numM zs t = some (m, nx)) : ∃ b, getTlv zs t = (2, b, nx, true) ∧ getInt b = (m, true) := by
  unfold numM at h
  split at h
  · rename_i b nx' hp
    split at h
    · rename_i hi
      simp only [Option.some.injEq, Prod.mk.injEq] at h
      obtain ⟨rfl, rfl⟩ := h
      exact ⟨b, part_some hp, Prod.ext rfl hi⟩
    · cases h
  · cases h

theorem numM_none {zs : List Int} {t : Int} (h : numM zs t = none) : partM zs t 2 = none ∨ ∃ b nx m, getTlv zs t = (2, b, nx, true) ∧ getInt b = (m, false) := by
  unfold numM at h
  split at h
  · rename_i b nx' hp
    split at h
    · cases h
    · rename_i hi
      exact .inr ⟨b, nx', (getInt b).1, part_some hp, Prod.ext rfl (by simpa using hi)⟩
  · exact .inl (by assumption)

theorem tlv_short {zs : List Int} (hz : Byt zs) {t k nx : Int} {b : List Int} (h : getTlv zs t = (k, b, nx, true)) : b.length ≤ 250 := by
  obtain ⟨_, _, _, _, _, _, hT, _⟩ := tlv_lies hz h
  unfold TlvOk at hT
  omega

end Go.Proofs.Ytmlcjdfnoipihaa
