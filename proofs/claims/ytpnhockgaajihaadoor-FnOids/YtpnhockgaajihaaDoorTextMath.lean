/-
  Names as texts: plain lists of bytes: digits, words between dots, and what a text says.
-/
import Derived.Test.YtpnhockgaajihaaDoorOidMath
import Derived.Lib.ItoaNum
import Derived.Lib.Join
import Derived.Lib.IndexLaws
namespace Go.Proofs.YtpnhockgaajihaaDoor
open Go.Lib (decDigits join indexByte)

def isD (b : UInt8) : Bool := decide (48 ≤ b.toNat ∧ b.toNat ≤ 57)
def stepW (n : Nat) (b : UInt8) : Nat := n * 10 + (b.toNat - 48)
def valW (w : List UInt8) : Nat := w.foldl stepW 0
/-- At most mx digits, no needless nought. -/
def okW (mx : Nat) (w : List UInt8) : Bool := decide (1 ≤ w.length ∧ w.length ≤ mx) && !(decide (1 < w.length) && decide (w.head? = some 48)) && w.all isD
def parseW (mx : Nat) (w : List UInt8) : Int := if okW mx w = true then (valW w : Int) else -1

def splitD : List UInt8 → List (List UInt8)
  | [] => [[]]
  | b :: r => if b = 46 then [] :: splitD r else ((b :: (splitD r).headD []) :: (splitD r).tail)

def textNums (t : List UInt8) : List Int := (splitD t).map (parseW 7)
def getT (t : List UInt8) : Option (List Int) := if oidOk (textNums t) = true then some (textNums t) else none
def textO (o : List Int) : List UInt8 := if oidOk o = true then join (o.map fun z => decDigits z.toNat) [46] else []

theorem splitD_ne (t : List UInt8) : splitD t ≠ [] := by
  cases t with
  | nil => simp [splitD]
  | cons b r => unfold splitD; split <;> simp

theorem splitD_length (t : List UInt8) : (splitD t).length ≤ t.length + 1 := by
  induction t with
  | nil => simp [splitD]
  | cons b r ih =>
    unfold splitD
    split
    · simp; omega
    · have : 1 ≤ (splitD r).length := by
        cases h : splitD r with
        | nil => exact absurd h (splitD_ne r)
        | cons a l => simp
      simp; omega

theorem splitD_none : ∀ (t : List UInt8), (∀ b ∈ t, b ≠ 46) → splitD t = [t]
  | [], _ => rfl
  | b :: r, h => by
    have h1 := h b (by simp)
    have h2 := splitD_none r (fun c hc => h c (List.mem_cons_of_mem _ hc))
    simp [splitD, h1, h2]

theorem splitD_at : ∀ (a r : List UInt8), (∀ b ∈ a, b ≠ 46) → splitD (a ++ 46 :: r) = a :: splitD r
  | [], r, _ => by simp [splitD]
  | b :: a, r, h => by
    have h1 := h b (by simp)
    have h2 := splitD_at a r (fun c hc => h c (List.mem_cons_of_mem _ hc))
    simp [splitD, h1, h2]

theorem splitD_cut (t : List UInt8) (i : Nat) (h : indexByte t 46 = i) : i < t.length ∧ splitD t = t.take i :: splitD (t.drop (i + 1)) := by
  obtain ⟨h1, h2⟩ := Go.Lib.indexByte_some h
  have hlt : i < t.length := by
    by_cases hl : i < t.length
    · exact hl
    · rw [List.getElem?_eq_none (by omega)] at h1; cases h1
  refine ⟨hlt, ?_⟩
  have e : t = t.take i ++ 46 :: t.drop (i + 1) := by
    have h3 : t[i] = 46 := by rw [List.getElem?_eq_getElem hlt] at h1; simpa using h1
    rw [← h3, ← List.drop_eq_getElem_cons hlt, List.take_append_drop]
  conv => lhs; rw [e]
  refine splitD_at _ _ ?_
  intro b hb e2
  obtain ⟨k, hk, hk2⟩ := List.mem_iff_getElem.1 hb
  have hk' : k < i := by simp at hk; omega
  refine h2 k hk' ?_
  rw [List.getElem_take] at hk2
  rw [List.getElem?_eq_getElem (by omega), hk2, e2]

theorem splitD_miss (t : List UInt8) (h : indexByte t 46 = -1) : splitD t = [t] := by
  refine splitD_none t ?_
  intro b hb e
  obtain ⟨k, hk, hk2⟩ := List.mem_iff_getElem.1 hb
  exact Go.Lib.indexByte_none h k (by rw [List.getElem?_eq_getElem hk, hk2, e])

theorem splitD_word : ∀ (t : List UInt8) (l : List UInt8), l ∈ splitD t → l.length ≤ t.length
  | [], l, h => by simp [splitD] at h; rw [h]; simp
  | b :: r, l, h => by
    have ih := splitD_word r
    unfold splitD at h
    split at h
    · rcases List.mem_cons.1 h with h1 | h1
      · rw [h1]; simp
      · have := ih l h1; simp; omega
    · rcases List.mem_cons.1 h with h1 | h1
      · have h2 : (splitD r).headD [] ∈ splitD r := by
          cases hs : splitD r with
          | nil => exact absurd hs (splitD_ne r)
          | cons a q => simp
        have := ih _ h2
        rw [h1]
        simp only [List.length_cons]
        omega
      · have := ih l (List.mem_of_mem_tail h1); simp; omega

/-! Numbers. -/

theorem fold_ge (w : List UInt8) (a : Nat) : a * 10 ^ w.length ≤ w.foldl stepW a := by
  induction w generalizing a with
  | nil => simp
  | cons b r ih =>
    simp only [List.foldl_cons, List.length_cons]
    refine Nat.le_trans ?_ (ih (stepW a b))
    rw [Nat.pow_succ]
    have : a * 10 ≤ stepW a b := by unfold stepW; omega
    calc a * (10 ^ r.length * 10) = (a * 10) * 10 ^ r.length := by rw [Nat.mul_comm (10 ^ r.length) 10, Nat.mul_assoc]
      _ ≤ stepW a b * 10 ^ r.length := Nat.mul_le_mul_right _ this

theorem fold_lt (w : List UInt8) (a : Nat) (h : w.all isD = true) : w.foldl stepW a < (a + 1) * 10 ^ w.length := by
  induction w generalizing a with
  | nil => simp
  | cons b r ih =>
    simp only [List.all_cons, Bool.and_eq_true] at h
    simp only [List.foldl_cons, List.length_cons]
    have h1 := of_decide_eq_true h.1
    refine Nat.lt_of_lt_of_le (ih (stepW a b) h.2) ?_
    rw [Nat.pow_succ]
    have : stepW a b + 1 ≤ (a + 1) * 10 := by unfold stepW; omega
    calc (stepW a b + 1) * 10 ^ r.length ≤ ((a + 1) * 10) * 10 ^ r.length := Nat.mul_le_mul_right _ this
      _ = (a + 1) * (10 ^ r.length * 10) := by rw [Nat.mul_assoc, Nat.mul_comm 10]

theorem okW_parts {mx : Nat} {w : List UInt8} (h : okW mx w = true) : 1 ≤ w.length ∧ w.length ≤ mx ∧ (1 < w.length → w.head? ≠ some 48) ∧ w.all isD = true := by
  simp only [okW, Bool.and_eq_true, Bool.not_eq_true', decide_eq_true_eq, Bool.and_eq_false_iff, decide_eq_false_iff_not] at h
  obtain ⟨⟨⟨h1, h2⟩, h3⟩, h4⟩ := h
  refine ⟨h1, h2, ?_, h4⟩
  intro hl
  rcases h3 with h3 | h3
  · exact absurd hl h3
  · exact h3

theorem okW_of {mx : Nat} {w : List UInt8} (h1 : 1 ≤ w.length) (h2 : w.length ≤ mx) (h3 : 1 < w.length → w.head? ≠ some 48) (h4 : w.all isD = true) : okW mx w = true := by
  simp only [okW, Bool.and_eq_true, Bool.not_eq_true', decide_eq_true_eq, Bool.and_eq_false_iff, decide_eq_false_iff_not]
  refine ⟨⟨⟨h1, h2⟩, ?_⟩, h4⟩
  by_cases hl : 1 < w.length
  · exact .inr (h3 hl)
  · exact .inl hl

theorem valW_lt {mx : Nat} {w : List UInt8} (h : okW mx w = true) : valW w < 10 ^ mx := by
  obtain ⟨h1, h2, _, h4⟩ := okW_parts h
  have := fold_lt w 0 h4
  have h5 : 10 ^ w.length ≤ 10 ^ mx := Nat.pow_le_pow_right (by omega) h2
  unfold valW
  simp at this
  omega

/-- Seven digits are too many. -/
theorem valW_great {w : List UInt8} (h : okW 7 w = true) (h6 : ¬ okW 6 w = true) : 100000 < valW w := by
  obtain ⟨h1, h2, h3, h4⟩ := okW_parts h
  have h5 : w.length = 7 := by
    by_cases h7 : w.length ≤ 6
    · exact absurd (okW_of h1 h7 h3 h4) h6
    · omega
  cases w with
  | nil => simp at h5
  | cons b r =>
    have hb := h3 (by omega)
    simp only [List.all_cons, Bool.and_eq_true] at h4
    have hd := of_decide_eq_true h4.1
    have hne : b.toNat ≠ 48 := by
      intro e
      apply hb
      have : b = 48 := by apply UInt8.toNat_inj.1; simpa using e
      simp [this]
    have h8 := fold_ge r (stepW 0 b)
    have h9 : r.length = 6 := by simpa using h5
    rw [h9] at h8
    have h10 : 1 ≤ stepW 0 b := by unfold stepW; omega
    have : valW (b :: r) = r.foldl stepW (stepW 0 b) := rfl
    rw [this]
    omega

theorem parse_ok {w : List UInt8} (h : okW 6 w = true) : parseW 7 w = (valW w : Int) := by
  obtain ⟨h1, h2, h3, h4⟩ := okW_parts h
  simp [parseW, okW_of (mx := 7) h1 (by omega) h3 h4]

theorem parse_no {w : List UInt8} (h : ¬ okW 6 w = true) : okN (parseW 7 w) = false := by
  unfold parseW
  split
  · rename_i h7
    have := valW_great h7 h
    unfold okN
    exact decide_eq_false (by omega)
  · rfl

theorem parse_range (w : List UInt8) : -1 ≤ parseW 7 w ∧ parseW 7 w ≤ 10000000 := by
  unfold parseW
  split
  · rename_i h
    have := valW_lt h
    have e : (10 : Nat) ^ 7 = 10000000 := by decide
    rw [e] at this
    omega
  · omega

theorem oid_no {zs : List Int} {z : Int} (h : z ∈ zs) (hz : okN z = false) : oidOk zs = false := by
  have : zs.all okN = false := by
    rw [Bool.eq_false_iff]
    intro ha
    rw [List.all_eq_true] at ha
    rw [ha _ h] at hz
    cases hz
  simp [oidOk, this]

theorem oid_long {zs : List Int} (h : 10 < zs.length) : oidOk zs = false := by
  simp only [oidOk, Bool.and_eq_false_iff, decide_eq_false_iff_not]
  exact .inr (by omega)

end Go.Proofs.YtpnhockgaajihaaDoor
