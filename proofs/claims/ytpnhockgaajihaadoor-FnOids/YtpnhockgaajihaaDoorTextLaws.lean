/-
  A name comes back of its text, and a text that is one of the name that it says.
-/
import Derived.Test.YtpnhockgaajihaaDoorTextMath
namespace Go.Proofs.YtpnhockgaajihaaDoor
open Go.Lib (decDigits join joinTail)

theorem digs_small {n : Nat} (h : n < 10) : decDigits n = [UInt8.ofNat (48 + n)] := by rw [decDigits, dif_pos h]
theorem digs_big {n : Nat} (h : ¬ n < 10) : decDigits n = decDigits (n / 10) ++ [UInt8.ofNat (48 + n % 10)] := by rw [decDigits, dif_neg h]
theorem dig_nat (d : Nat) (h : d ≤ 9) : (UInt8.ofNat (48 + d)).toNat = 48 + d := by rw [UInt8.toNat_ofNat']; omega

theorem digs_isD (n : Nat) : ∀ b ∈ decDigits n, isD b = true := by
  induction n using Nat.strongRecOn with
  | _ n ih =>
    intro b hb
    by_cases h : n < 10
    · rw [digs_small h] at hb
      simp only [List.mem_singleton] at hb
      subst hb
      unfold isD
      rw [dig_nat n (by omega)]
      exact decide_eq_true (by omega)
    · rw [digs_big h] at hb
      rcases List.mem_append.1 hb with h1 | h1
      · exact ih (n / 10) (by omega) b h1
      · simp only [List.mem_singleton] at h1
        subst h1
        unfold isD
        rw [dig_nat (n % 10) (by omega)]
        exact decide_eq_true (by omega)

theorem val_snoc (l : List UInt8) (b : UInt8) : valW (l ++ [b]) = valW l * 10 + (b.toNat - 48) := by
  unfold valW
  rw [List.foldl_append, List.foldl_cons, List.foldl_nil]
  rfl

theorem val_digs (n : Nat) : valW (decDigits n) = n := by
  induction n using Nat.strongRecOn with
  | _ n ih =>
    by_cases h : n < 10
    · rw [digs_small h]
      show stepW 0 (UInt8.ofNat (48 + n)) = n
      unfold stepW
      rw [dig_nat n (by omega)]
      omega
    · rw [digs_big h, val_snoc, ih (n / 10) (by omega), dig_nat (n % 10) (by omega)]
      omega

theorem digs_ne (n : Nat) : decDigits n ≠ [] := by
  by_cases h : n < 10
  · rw [digs_small h]; simp
  · rw [digs_big h]; simp

theorem digs_head (n : Nat) : 1 ≤ n → (decDigits n).head? ≠ some 48 := by
  induction n using Nat.strongRecOn with
  | _ n ih =>
    intro h1 e
    by_cases h : n < 10
    · rw [digs_small h] at e
      simp only [List.head?_cons, Option.some.injEq] at e
      have := congrArg UInt8.toNat e
      rw [dig_nat n (by omega)] at this
      have h48 : (48 : UInt8).toNat = 48 := rfl
      rw [h48] at this
      omega
    · rw [digs_big h] at e
      have hne := digs_ne (n / 10)
      cases hd : decDigits (n / 10) with
      | nil => exact hne hd
      | cons a r =>
        rw [hd] at e
        refine ih (n / 10) (by omega) (by omega) ?_
        rw [hd]
        simpa using e

theorem digs_length (k : Nat) : ∀ n, n < 10 ^ (k + 1) → (decDigits n).length ≤ k + 1 := by
  induction k with
  | zero => intro n h; rw [digs_small (by omega)]; simp
  | succ k ih =>
    intro n h
    by_cases h1 : n < 10
    · rw [digs_small h1]; simp
    · rw [digs_big h1]
      have : n / 10 < 10 ^ (k + 1) := by
        rw [Nat.div_lt_iff_lt_mul (by omega)]
        rw [Nat.pow_succ] at h; exact h
      have := ih _ this
      simp; omega

theorem digs_ok {n : Nat} (h : n ≤ 100000) : okW 7 (decDigits n) = true := by
  have hl := digs_length 5 n (by omega)
  refine okW_of ?_ (by omega) ?_ (List.all_eq_true.2 (digs_isD n))
  · cases hd : decDigits n with
    | nil => exact absurd hd (digs_ne n)
    | cons a r => simp
  · intro h1
    refine digs_head n ?_
    by_cases h0 : n = 0
    · subst h0
      rw [digs_small (by omega)] at h1
      simp at h1
    · omega

theorem parse_digs {z : Int} (h : 0 ≤ z ∧ z ≤ 100000) : parseW 7 (decDigits z.toNat) = z := by
  unfold parseW
  rw [if_pos (digs_ok (by omega)), val_digs]
  omega

theorem digs_nodot (n : Nat) : ∀ b ∈ decDigits n, b ≠ 46 := by
  intro b hb e
  have h := of_decide_eq_true (digs_isD n b hb)
  subst e
  have h46 : (46 : UInt8).toNat = 46 := rfl
  rw [h46] at h
  omega

theorem split_join : ∀ (ws : List (List UInt8)) (w : List UInt8), (∀ x ∈ w :: ws, ∀ b ∈ x, b ≠ 46) → splitD (join (w :: ws) [46]) = w :: ws
  | [], w, h => by
    rw [Go.Lib.join_one]
    exact splitD_none w (h w (by simp))
  | x :: r, w, h => by
    have ih := split_join r x (fun y hy => h y (List.mem_cons_of_mem _ hy))
    have e : join (w :: x :: r) [46] = w ++ 46 :: join (x :: r) [46] := by
      rw [Go.Lib.join_cons, Go.Lib.join_cons]
      simp [joinTail]
    rw [e, splitD_at _ _ (h w (by simp)), ih]

theorem join_split (t : List UInt8) : join (splitD t) [46] = t := by
  induction t with
  | nil => rfl
  | cons b r ih =>
    obtain ⟨x, q, hs⟩ : ∃ x q, splitD r = x :: q := by
      cases h : splitD r with
      | nil => exact absurd h (splitD_ne r)
      | cons a l => exact ⟨a, l, rfl⟩
    rw [hs] at ih
    unfold splitD
    split
    · rename_i hb
      subst hb
      rw [hs, Go.Lib.join_cons]
      rw [Go.Lib.join_cons] at ih
      simp only [joinTail, List.map_cons, List.flatten_cons, List.nil_append, List.cons_append] at ih ⊢
      rw [ih]
    · rw [hs, Go.Lib.join_cons]
      rw [Go.Lib.join_cons] at ih
      simp only [List.headD_cons, List.tail_cons, List.cons_append]
      rw [ih]

theorem val_pos (b : UInt8) (r : List UInt8) (hd : isD b = true) (h : b ≠ 48) : 1 ≤ valW (b :: r) := by
  have h1 := of_decide_eq_true hd
  have hne : b.toNat ≠ 48 := by
    intro e
    apply h
    apply UInt8.toNat_inj.1
    simpa using e
  have h8 := fold_ge r (stepW 0 b)
  have h9 : 1 ≤ stepW 0 b := by unfold stepW; omega
  have h10 : 0 < 10 ^ r.length := Nat.pos_of_ne_zero (by simp)
  have : valW (b :: r) = r.foldl stepW (stepW 0 b) := rfl
  rw [this]
  have := Nat.mul_le_mul h9 h10
  omega

/-- Digits without needless noughts are the digits of their number. -/
theorem digs_val : ∀ (n : Nat) (w : List UInt8), w.length = n → w ≠ [] → w.all isD = true → (1 < w.length → w.head? ≠ some 48) → decDigits (valW w) = w := by
  intro n
  induction n with
  | zero => intro w hl hne _ _; exact absurd (List.eq_nil_of_length_eq_zero hl) hne
  | succ n ih =>
    intro w hl hne hd hh
    obtain ⟨l, b, rfl⟩ : ∃ l b, w = l ++ [b] := ⟨w.dropLast, w.getLast hne, (List.dropLast_concat_getLast hne).symm⟩
    rw [List.all_append, Bool.and_eq_true] at hd
    have hb : isD b = true := by simpa using hd.2
    have hb' := of_decide_eq_true hb
    have ebb : UInt8.ofNat (48 + (b.toNat - 48)) = b := by
      apply UInt8.toNat_inj.1
      rw [dig_nat _ (by omega)]
      omega
    cases l with
    | nil =>
      rw [val_snoc]
      have : valW [] = 0 := rfl
      rw [this, Nat.zero_mul, Nat.zero_add, digs_small (by omega), ebb]
      rfl
    | cons a r =>
      have ha : isD a = true := by
        have := hd.1
        rw [List.all_cons, Bool.and_eq_true] at this
        exact this.1
      have ha48 : a ≠ 48 := by
        intro e
        refine hh (by simp) ?_
        simp [e]
      have hp := val_pos a r ha ha48
      have hih := ih (a :: r) (by simpa using hl) (by simp) hd.1 (fun _ => by simpa using ha48)
      rw [val_snoc, digs_big (by omega)]
      have e1 : (valW (a :: r) * 10 + (b.toNat - 48)) / 10 = valW (a :: r) := by omega
      have e2 : (valW (a :: r) * 10 + (b.toNat - 48)) % 10 = b.toNat - 48 := by omega
      rw [e1, e2, hih, ebb]

theorem word_back {w : List UInt8} (h : okN (parseW 7 w) = true) : decDigits (parseW 7 w).toNat = w := by
  have hz := of_decide_eq_true h
  unfold parseW at hz ⊢
  split
  · rename_i hok
    obtain ⟨h1, _, h3, h4⟩ := okW_parts hok
    rw [Int.toNat_natCast]
    exact digs_val w.length w rfl (by intro e; rw [e] at h1; simp at h1) h4 h3
  · rename_i hok
    rw [if_neg hok] at hz
    omega

/-- A name comes back of its text. -/
theorem getT_text {o : List Int} (h : oidOk o = true) : getT (textO o) = some o := by
  obtain ⟨h1, h2, h3⟩ := ok_all h
  have hs : splitD (textO o) = o.map fun z => decDigits z.toNat := by
    simp only [textO, h, if_true]
    cases o with
    | nil => simp at h2
    | cons z r =>
      rw [List.map_cons]
      refine split_join _ _ ?_
      intro x hx b hb
      rw [← List.map_cons (f := fun z : Int => decDigits z.toNat)] at hx
      obtain ⟨y, _, rfl⟩ := List.mem_map.1 hx
      exact digs_nodot _ b hb
  have hn : textNums (textO o) = o := by
    unfold textNums
    rw [hs, List.map_map]
    conv => rhs; rw [← List.map_id o]
    apply List.map_congr_left
    intro z hz
    exact parse_digs (h1 z hz)
  simp only [getT, hn, h, if_true]

/-- What is read of a text has that text. -/
theorem text_getT {t : List UInt8} {o : List Int} (h : getT t = some o) : oidOk o = true ∧ textO o = t := by
  unfold getT at h
  split at h
  · rename_i hok
    cases h
    refine ⟨hok, ?_⟩
    obtain ⟨h1, _, _⟩ := ok_all hok
    simp only [textO, hok, if_true]
    conv => rhs; rw [← join_split t]
    congr 1
    unfold textNums
    rw [List.map_map]
    conv => rhs; rw [← List.map_id (splitD t)]
    apply List.map_congr_left
    intro w hw
    have hz := h1 (parseW 7 w) (List.mem_map_of_mem hw)
    exact word_back (by unfold okN; exact decide_eq_true hz)
  · cases h

end Go.Proofs.YtpnhockgaajihaaDoor
