/-
  Names of things as plain lists: when one is right, its bytes, and that the bytes tell it.
-/
import Derived.Below
namespace Go.Proofs.Ytamglfhnhjgdjaa

def okN (z : Int) : Bool := decide (0 ≤ z ∧ z ≤ 100000)
def oidOk (zs : List Int) : Bool := zs.all okN && decide (1 ≤ zs.length ∧ zs.length ≤ 10)

/-- Number by number, a beginning ahead of what goes on. -/
def lessL : List Int → List Int → Bool
  | [], [] => false
  | [], _ :: _ => true
  | _ :: _, [] => false
  | x :: a, y :: b => if x = y then lessL a b else decide (x < y)

def belowL (o h : List Int) : Bool := decide (h.length < o.length ∧ o.take h.length = h)

/-- The groups ahead of a number's last one. -/
def more (n : Nat) : List Int := if _h : n ≤ 127 then [] else more (n / 128) ++ [((n / 128 % 128 + 128 : Nat) : Int)]
def groups (n : Nat) : List Int := more n ++ [((n % 128 : Nat) : Int)]
def flatO (o : List Int) : List Int := (o.map fun z => groups z.toNat).flatten
def putO (o : List Int) : List Int := if oidOk o = true then flatO o else []

theorem more_lt {n : Nat} (h : n ≤ 127) : more n = [] := by rw [more]; simp [h]
theorem more_ge {n : Nat} (h : 128 ≤ n) : more n = more (n / 128) ++ [((n / 128 % 128 + 128 : Nat) : Int)] := by
  rw [more]; simp [show ¬ n ≤ 127 by omega]

/-- One number read, and what is left. -/
def dec : Nat → List Int → Nat × List Int
  | acc, [] => (acc, [])
  | acc, b :: r => if b < 128 then (acc * 128 + b.toNat, r) else dec (acc * 128 + (b.toNat - 128)) r

theorem dec_more (n : Nat) : ∀ y, dec 0 (more n ++ y) = dec (n / 128) y := by
  induction n using Nat.strongRecOn with
  | _ n ih =>
    intro y
    by_cases h : n ≤ 127
    · rw [more_lt h]; simp [Nat.div_eq_of_lt (show n < 128 by omega)]
    · rw [more_ge (by omega), List.append_assoc, ih (n / 128) (by omega)]
      have h1 : ¬ ((n / 128 % 128 + 128 : Nat) : Int) < 128 := by omega
      have e : n / 128 / 128 * 128 + (((n / 128 % 128 + 128 : Nat) : Int).toNat - 128) = n / 128 := by omega
      simp only [List.cons_append, List.nil_append, dec, h1, if_false]
      rw [e]

theorem dec_groups (n : Nat) (x : List Int) : dec 0 (groups n ++ x) = (n, x) := by
  unfold groups
  rw [List.append_assoc, dec_more]
  have h1 : ((n % 128 : Nat) : Int) < 128 := by omega
  simp only [List.cons_append, List.nil_append, dec, h1, if_true]
  congr 1
  omega

theorem dec_ge : ∀ (y : List Int) (n : Nat), n ≤ (dec n y).1
  | [], n => Nat.le_refl _
  | b :: r, n => by
    unfold dec
    split
    · simp; omega
    · exact Nat.le_trans (by omega) (dec_ge r (n * 128 + (b.toNat - 128)))

theorem more_big (n : Nat) : 128 ≤ n → ∀ l, ∃ h t, more n ++ l = h :: t ∧ 128 < h := by
  induction n using Nat.strongRecOn with
  | _ n ih =>
    intro hn l
    rw [more_ge hn, List.append_assoc]
    by_cases h : n / 128 ≤ 127
    · rw [more_lt h]
      exact ⟨_, _, rfl, by omega⟩
    · exact ih (n / 128) (by omega) (by omega) _

theorem groups_head (n : Nat) (x y : List Int) : groups n ++ x ≠ 128 :: y := by
  intro e
  unfold groups at e
  rw [List.append_assoc] at e
  by_cases h : n ≤ 127
  · rw [more_lt h] at e
    simp at e
    omega
  · obtain ⟨a, t, e1, h1⟩ := more_big n (by omega) ([((n % 128 : Nat) : Int)] ++ x)
    rw [e1] at e
    simp at e
    omega

theorem more_byte (n : Nat) : ∀ z ∈ more n, 128 ≤ z ∧ z ≤ 255 := by
  induction n using Nat.strongRecOn with
  | _ n ih =>
    intro z hz
    by_cases h : n ≤ 127
    · rw [more_lt h] at hz; cases hz
    · rw [more_ge (by omega)] at hz
      rcases List.mem_append.1 hz with h1 | h1
      · exact ih (n / 128) (by omega) z h1
      · simp at h1; omega

theorem groups_byte (n : Nat) : ∀ z ∈ groups n, 0 ≤ z ∧ z ≤ 255 := by
  intro z hz
  rcases List.mem_append.1 hz with h1 | h1
  · have := more_byte n z h1; omega
  · simp at h1; omega

theorem more_length (k : Nat) : ∀ n, n < 128 ^ (k + 1) → (more n).length ≤ k := by
  induction k with
  | zero => intro n h; rw [more_lt (by omega)]; simp
  | succ k ih =>
    intro n h
    by_cases h1 : n ≤ 127
    · rw [more_lt h1]; simp
    · rw [more_ge (by omega)]
      have : n / 128 < 128 ^ (k + 1) := by
        rw [Nat.div_lt_iff_lt_mul (by omega)]
        rw [Nat.pow_succ] at h; exact h
      have := ih _ this
      simp; omega

theorem groups_length (k n : Nat) (h : n < 128 ^ (k + 1)) : (groups n).length ≤ k + 1 := by
  have := more_length k n h
  simp [groups]; omega

theorem groups_short {n : Nat} (h : n ≤ 100000) : (groups n).length ≤ 3 := groups_length 2 n (by omega)
theorem groups_four {n : Nat} (h : n < 268435456) : (groups n).length ≤ 4 := groups_length 3 n (by omega)

/-- What a reader of a number holds when k groups are read that go on: n. -/
def Rd (rest : List Int) (k n : Nat) : Prop := dec 0 rest = dec n (rest.drop k) ∧ (∀ z ∈ rest.take k, 128 ≤ z) ∧
  ((k = 0 ∧ n = 0) ∨ (1 ≤ k ∧ 1 ≤ n ∧ rest.take k = more (n * 128)) ∨ (1 ≤ k ∧ rest.head? = some 128 ∧ n < 128 ^ (k - 1)))

theorem rd_start (rest : List Int) : Rd rest 0 0 := ⟨by simp, by simp, .inl ⟨rfl, rfl⟩⟩

theorem drop_at {l : List Int} {k : Nat} (h : k < l.length) : l.drop k = l.getD k 0 :: l.drop (k + 1) := by
  rw [List.drop_eq_getElem_cons h]; simp [h]
theorem take_at {l : List Int} {k : Nat} (h : k < l.length) : l.take (k + 1) = l.take k ++ [l.getD k 0] := by
  rw [List.take_succ_eq_append_getElem h]; simp [h]

theorem rd_more {rest : List Int} {k n : Nat} {z : Int} (h : Rd rest k n) (hk : k < rest.length) (hz : rest.getD k 0 = z) (h1 : 128 ≤ z) (h2 : z ≤ 255) : Rd rest (k + 1) (n * 128 + (z.toNat - 128)) := by
  obtain ⟨hd, ha, hc⟩ := h
  have e : rest.take (k + 1) = rest.take k ++ [z] := by rw [take_at hk, hz]
  refine ⟨?_, ?_, ?_⟩
  · rw [hd, drop_at hk, hz]
    conv => lhs; unfold dec
    rw [if_neg (by omega)]
  · rw [e]
    intro y hy
    rcases List.mem_append.1 hy with h3 | h3
    · exact ha y h3
    · simp at h3; omega
  · rcases hc with ⟨rfl, rfl⟩ | ⟨k1, n1, ht⟩ | ⟨k1, hh1, hp⟩
    · by_cases hq : z = 128
      · refine .inr (.inr ⟨by omega, ?_, by subst hq; simp⟩)
        cases rest with
        | nil => simp at hk
        | cons a r => simp at hz; simp; omega
      · refine .inr (.inl ⟨by omega, by omega, ?_⟩)
        rw [e, more_ge (by omega), more_lt (by omega)]
        simp
        omega
    · refine .inr (.inl ⟨by omega, by omega, ?_⟩)
      rw [e, ht, more_ge (n := (n * 128 + (z.toNat - 128)) * 128) (by omega)]
      have q : (n * 128 + (z.toNat - 128)) * 128 / 128 = n * 128 + (z.toNat - 128) := by omega
      rw [q]
      have q2 : more (n * 128 + (z.toNat - 128)) = more (n * 128) := by
        rw [more_ge (by omega), more_ge (n := n * 128) (by omega)]
        have : (n * 128 + (z.toNat - 128)) / 128 = n * 128 / 128 := by omega
        rw [this]
      rw [q2]
      congr 2
      omega
    · refine .inr (.inr ⟨by omega, hh1, ?_⟩)
      obtain ⟨j, rfl⟩ : ∃ j, k = j + 1 := ⟨k - 1, by omega⟩
      have : 128 ^ (j + 1 + 1 - 1) = 128 ^ (j + 1 - 1) * 128 := by simp [Nat.pow_succ]
      rw [this]
      omega

/-- The last group: the number, and whether it is told in as few groups as may be. -/
theorem rd_last {rest : List Int} {k n : Nat} {z : Int} (h : Rd rest k n) (hk : k < rest.length) (hz : rest.getD k 0 = z) (h0 : 0 ≤ z) (h1 : z < 128) :
    dec 0 rest = (n * 128 + z.toNat, rest.drop (k + 1)) ∧ ((groups (n * 128 + z.toNat)).length = k + 1 → rest = groups (n * 128 + z.toNat) ++ rest.drop (k + 1)) ∧ (rest.head? ≠ some 128 → rest = groups (n * 128 + z.toNat) ++ rest.drop (k + 1)) := by
  obtain ⟨hd, ha, hc⟩ := h
  have e : rest.take (k + 1) = rest.take k ++ [z] := by rw [take_at hk, hz]
  have hm : (n * 128 + z.toNat) % 128 = z.toNat := by omega
  have fin : rest.take k = more (n * 128 + z.toNat) → rest = groups (n * 128 + z.toNat) ++ rest.drop (k + 1) := by
    intro ht
    conv => lhs; rw [← List.take_append_drop (k + 1) rest, e, ht]
    unfold groups
    rw [hm]
    have : ((z.toNat : Nat) : Int) = z := by omega
    rw [this]
  have good : 1 ≤ n → rest.take k = more (n * 128) → rest.take k = more (n * 128 + z.toNat) := by
    intro n1 ht
    rw [ht, more_ge (by omega), more_ge (n := n * 128 + z.toNat) (by omega)]
    have : (n * 128 + z.toNat) / 128 = n * 128 / 128 := by omega
    rw [this]
  refine ⟨?_, ?_, ?_⟩
  · rw [hd, drop_at hk, hz]
    conv => lhs; unfold dec
    rw [if_pos h1]
  · intro hl
    rcases hc with ⟨rfl, rfl⟩ | ⟨k1, n1, ht⟩ | ⟨k1, hh1, hp⟩
    · exact fin (by rw [more_lt (by omega)]; simp)
    · exact fin (good n1 ht)
    · exfalso
      obtain ⟨j, rfl⟩ : ∃ j, k = j + 1 := ⟨k - 1, by omega⟩
      have hp' : n < 128 ^ j := by simpa using hp
      have := groups_length j (n * 128 + z.toNat) (by rw [Nat.pow_succ]; omega)
      omega
  · intro hh
    rcases hc with ⟨rfl, rfl⟩ | ⟨k1, n1, ht⟩ | ⟨k1, hh1, hp⟩
    · exact fin (by rw [more_lt (by omega)]; simp)
    · exact fin (good n1 ht)
    · exact absurd hh1 hh

/-- A number of which all groups go on is none. -/
theorem no_end {rest : List Int} (h : ∀ z ∈ rest, 128 ≤ z) (m : Nat) (x : List Int) : rest ≠ groups m ++ x := by
  intro e
  have hm : ((m % 128 : Nat) : Int) ∈ rest := by rw [e]; simp [groups]
  have := h _ hm
  omega

theorem no_end4 {rest : List Int} (h : ∀ z ∈ rest.take 4, 128 ≤ z) {m : Nat} (hm : m ≤ 100000) (x : List Int) : rest ≠ groups m ++ x := by
  intro e
  have hl := groups_short hm
  have ht : rest.take 4 = groups m ++ x.take (4 - (groups m).length) := by rw [e, List.take_append, List.take_of_length_le (by omega)]
  exact no_end (rest := rest.take 4) h m _ ht

theorem dec_inj {m n : Nat} {x y : List Int} (h : groups m ++ x = groups n ++ y) : m = n ∧ x = y := by
  have := dec_groups m x
  rw [h, dec_groups] at this
  simp at this
  exact ⟨this.1.symm, this.2.symm⟩

theorem flat_nil : flatO [] = [] := rfl
theorem flat_cons (z : Int) (o : List Int) : flatO (z :: o) = groups z.toNat ++ flatO o := by simp [flatO]
theorem flat_append (a b : List Int) : flatO (a ++ b) = flatO a ++ flatO b := by simp [flatO]
theorem flat_snoc (o : List Int) (z : Int) : flatO (o ++ [z]) = flatO o ++ groups z.toNat := by simp [flatO]

theorem groups_ne (n : Nat) (x : List Int) : groups n ++ x ≠ [] := by simp [groups]

/-- What has been read is the beginning of whatever has these bytes. -/
theorem flat_prefix : ∀ (o o' rest : List Int), (∀ z ∈ o, 0 ≤ z) → (∀ z ∈ o', 0 ≤ z) → flatO o' = flatO o ++ rest → ∃ o2, o' = o ++ o2 ∧ flatO o2 = rest
  | [], o', rest, _, _, h => ⟨o', rfl, by simpa [flatO] using h⟩
  | z :: o, [], rest, _, _, h => by
    rw [flat_cons, List.append_assoc, flat_nil] at h
    exact absurd h.symm (groups_ne _ _)
  | z :: o, z' :: o', rest, h0, h1, h => by
    rw [flat_cons, flat_cons, List.append_assoc] at h
    obtain ⟨e1, e2⟩ := dec_inj h
    obtain ⟨o2, e3, e4⟩ := flat_prefix o o' rest (fun y hy => h0 y (List.mem_cons_of_mem _ hy)) (fun y hy => h1 y (List.mem_cons_of_mem _ hy)) e2
    refine ⟨o2, ?_, e4⟩
    have a := h0 z (by simp)
    have b := h1 z' (by simp)
    have : z = z' := by omega
    rw [e3, this]
    rfl

theorem ok_all {o : List Int} (h : oidOk o = true) : (∀ z ∈ o, 0 ≤ z ∧ z ≤ 100000) ∧ 1 ≤ o.length ∧ o.length ≤ 10 := by
  simp [oidOk, okN] at h
  exact ⟨fun z hz => h.1 z hz, h.2⟩

theorem ok_of {o : List Int} (h : ∀ z ∈ o, 0 ≤ z ∧ z ≤ 100000) (h1 : 1 ≤ o.length) (h2 : o.length ≤ 10) : oidOk o = true := by
  simp [oidOk, okN]
  exact ⟨fun z hz => h z hz, h1, h2⟩

theorem put_ok {o : List Int} (h : oidOk o = true) : putO o = flatO o := by simp [putO, h]

/-- No right name has these bytes. -/
def NoOid (b : List Int) : Prop := ∀ o, oidOk o = true → putO o ≠ b

/-- Numbers read one behind the other, f of them at most. -/
def decs : Nat → List Int → List Int
  | 0, _ => []
  | _ + 1, [] => []
  | f + 1, b :: r => ((dec 0 (b :: r)).1 : Int) :: decs f (dec 0 (b :: r)).2

theorem decs_flat : ∀ (f : Nat) (o : List Int), (∀ z ∈ o, 0 ≤ z) → o.length ≤ f → decs f (flatO o) = o
  | 0, [], _, _ => rfl
  | _ + 1, [], _, _ => rfl
  | 0, _ :: _, _, h => by simp at h
  | f + 1, z :: o, hz, h => by
    have h0 := hz z (by simp)
    have ih := decs_flat f o (fun x hx => hz x (List.mem_cons_of_mem _ hx)) (by simpa using h)
    rw [flat_cons]
    have hd := dec_groups z.toNat (flatO o)
    cases hg : groups z.toNat ++ flatO o with
    | nil => exact absurd hg (groups_ne _ _)
    | cons b r =>
      rw [hg] at hd
      simp only [decs, hd, ih]
      congr 1
      omega

def getO (b : List Int) : Option (List Int) := if oidOk (decs 11 b) = true ∧ putO (decs 11 b) = b then some (decs 11 b) else none

theorem put_inj {o o' : List Int} (h : oidOk o = true) (h' : oidOk o' = true) (e : putO o = putO o') : o = o' := by
  rw [put_ok h, put_ok h'] at e
  obtain ⟨o2, e1, e2⟩ := flat_prefix o' o [] (fun z hz => ((ok_all h').1 z hz).1) (fun z hz => ((ok_all h).1 z hz).1) (by simpa using e)
  cases o2 with
  | nil => simpa using e1
  | cons z r => rw [flat_cons] at e2; exact absurd e2 (groups_ne _ _)

theorem getO_put {o : List Int} (h : oidOk o = true) : getO (putO o) = some o := by
  obtain ⟨h1, _, h3⟩ := ok_all h
  have e : decs 11 (putO o) = o := by rw [put_ok h]; exact decs_flat 11 o (fun z hz => (h1 z hz).1) (by omega)
  unfold getO
  rw [e, if_pos ⟨h, rfl⟩]

theorem getO_some {b o : List Int} (h : oidOk o = true) (hb : flatO o = b) : getO b = some o := by
  rw [← hb, ← put_ok h]; exact getO_put h

theorem getO_none {b : List Int} (h : NoOid b) : getO b = none := by
  unfold getO
  rw [if_neg]
  rintro ⟨h1, h2⟩
  exact h _ h1 h2

theorem getO_is {b o : List Int} (h : getO b = some o) : oidOk o = true ∧ putO o = b := by
  unfold getO at h
  split at h
  · rename_i hex
    cases h
    exact hex
  · cases h

/-- Where a part is read and what stands behind is no number, there is no name. -/
theorem none_bad {b o rest : List Int} (hb : flatO o ++ rest = b) (h0 : ∀ z ∈ o, 0 ≤ z) (hne : rest ≠ []) (hbad : ∀ m, m ≤ 100000 → ∀ x, rest ≠ groups m ++ x) : NoOid b := by
  intro o' hok e
  rw [put_ok hok, ← hb] at e
  have ho := (ok_all hok).1
  obtain ⟨o2, e1, e2⟩ := flat_prefix o o' rest h0 (fun z hz => (ho z hz).1) e
  cases o2 with
  | nil => exact hne e2.symm
  | cons z r =>
    rw [flat_cons] at e2
    have := ho z (by rw [e1]; simp)
    exact hbad z.toNat (by omega) _ e2.symm

/-- Where more than ten are read, or one that is too great, there is no name. -/
theorem none_long {b o rest : List Int} (hb : flatO o ++ rest = b) (h0 : ∀ z ∈ o, 0 ≤ z) (hlen : 10 < o.length ∨ (o.length = 10 ∧ rest ≠ [])) : NoOid b := by
  intro o' hok e
  rw [put_ok hok, ← hb] at e
  obtain ⟨ho, h1, h2⟩ := ok_all hok
  obtain ⟨o2, e1, e2⟩ := flat_prefix o o' rest h0 (fun z hz => (ho z hz).1) e
  have hl : o'.length = o.length + o2.length := by rw [e1]; simp
  rcases hlen with h3 | ⟨h3, h4⟩
  · omega
  · cases o2 with
    | nil => exact h4 e2.symm
    | cons z r => simp at hl; omega

theorem none_not {b o : List Int} (hb : flatO o = b) (h0 : ∀ z ∈ o, 0 ≤ z) (hno : ¬ oidOk o = true) : NoOid b := by
  intro o' hok e
  rw [put_ok hok, ← hb] at e
  obtain ⟨o2, e1, e2⟩ := flat_prefix o o' [] h0 (fun z hz => ((ok_all hok).1 z hz).1) (by simpa using e)
  cases o2 with
  | nil => simp at e1; exact hno (by rw [← e1]; exact hok)
  | cons z r => rw [flat_cons] at e2; exact absurd e2 (groups_ne _ _)

/-- A number too great on its way. -/
theorem bad_great {rest : List Int} {n : Nat} {y : List Int} (hd : dec 0 rest = dec n y) (hn : 100000 < n) : ∀ m, m ≤ 100000 → ∀ x, rest ≠ groups m ++ x := by
  intro m hm x e
  rw [e, dec_groups] at hd
  have := dec_ge y n
  rw [← hd] at this
  simp at this
  omega

theorem bad_great' {rest : List Int} {v : Nat} {y : List Int} (hd : dec 0 rest = (v, y)) (hn : 100000 < v) : ∀ m, m ≤ 100000 → ∀ x, rest ≠ groups m ++ x := by
  intro m hm x e
  rw [e, dec_groups] at hd
  simp at hd
  omega

theorem bad_size {rest : List Int} {v k : Nat} (hd : dec 0 rest = (v, rest.drop k)) (hk : k ≤ rest.length) (hl : (groups v).length ≠ k) : ∀ m, m ≤ 100000 → ∀ x, rest ≠ groups m ++ x := by
  intro m hm x e
  have hd' := hd
  rw [e, dec_groups] at hd
  simp only [Prod.mk.injEq] at hd
  obtain ⟨rfl, hx⟩ := hd
  have h1 : rest.length = (groups m).length + x.length := by rw [e]; simp
  have h2 : x.length = (rest.drop k).length := by conv => lhs; rw [hx, ← e]
  rw [List.length_drop] at h2
  omega

/-! The order. -/

theorem less_at : ∀ (k : Nat) (a b : List Int), a.take k = b.take k → k < a.length → k < b.length → a.getD k 0 ≠ b.getD k 0 → lessL a b = decide (a.getD k 0 < b.getD k 0)
  | _, [], _, _, h, _, _ => by simp at h
  | _, _, [], _, _, h, _ => by simp at h
  | 0, x :: a, y :: b, _, _, _, h => by simp at h; simp [lessL, h]
  | k + 1, x :: a, y :: b, ht, h1, h2, h => by
    simp at ht h1 h2 h
    simp only [lessL, ht.1, if_true]
    rw [less_at k a b ht.2 h1 h2 (by simpa using h)]
    simp

theorem less_end : ∀ (k : Nat) (a b : List Int), a.take k = b.take k → k ≤ a.length → k ≤ b.length → (k = a.length ∨ k = b.length) → lessL a b = decide (a.length < b.length)
  | 0, [], [], _, _, _, _ => rfl
  | 0, [], _ :: _, _, _, _, _ => by simp [lessL]
  | 0, _ :: _, [], _, _, _, _ => by simp [lessL]
  | 0, _ :: _, _ :: _, _, _, _, h => by simp at h
  | k + 1, [], _, _, h, _, _ => by simp at h
  | k + 1, _ :: _, [], _, _, h, _ => by simp at h
  | k + 1, x :: a, y :: b, ht, h1, h2, h => by
    simp at ht h1 h2 h
    simp only [lessL, ht.1, if_true]
    rw [less_end k a b ht.2 h1 h2 h]
    simp

theorem less_same (a : List Int) : lessL a a = false := by
  rw [less_end a.length a a rfl (Nat.le_refl _) (Nat.le_refl _) (.inl rfl)]; simp

theorem less_anti : ∀ (a b : List Int), ¬ (lessL a b = true ∧ lessL b a = true)
  | [], [] => by simp [lessL]
  | [], _ :: _ => by simp [lessL]
  | _ :: _, [] => by simp [lessL]
  | x :: a, y :: b => by
    intro ⟨h1, h2⟩
    unfold lessL at h1 h2
    by_cases e : x = y
    · subst e
      simp at h1 h2
      exact less_anti a b ⟨h1, h2⟩
    · rw [if_neg e] at h1
      rw [if_neg (by intro e2; exact e e2.symm)] at h2
      simp at h1 h2
      omega

theorem less_total : ∀ (a b : List Int), a ≠ b → (lessL a b = true ∨ lessL b a = true)
  | [], [], h => absurd rfl h
  | [], _ :: _, _ => by simp [lessL]
  | _ :: _, [], _ => by simp [lessL]
  | x :: a, y :: b, h => by
    unfold lessL
    by_cases e : x = y
    · subst e
      simp
      exact less_total a b (by intro e2; exact h (by rw [e2]))
    · rw [if_neg e, if_neg (by intro e2; exact e e2.symm)]
      simp
      omega

theorem below_less : ∀ (o h : List Int), belowL o h = true → lessL h o = true
  | [], h, hb => by simp [belowL] at hb
  | _ :: _, [], _ => by simp [lessL]
  | y :: o, x :: h, hb => by
    simp [belowL] at hb
    simp only [lessL, hb.2.1, if_true]
    exact below_less o h (by simp [belowL]; exact ⟨hb.1, hb.2.2⟩)

end Go.Proofs.Ytamglfhnhjgdjaa
