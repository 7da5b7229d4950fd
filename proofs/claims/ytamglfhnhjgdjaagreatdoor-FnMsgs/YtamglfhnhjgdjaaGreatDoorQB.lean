/-
  Names of things as plain lists: when one is right, its bytes, and that the bytes tell it.
  Whether a name is right, by contracts: the specification's and the program's.
  Whether two names are the same, by contracts: the specification's, the library's slices.Equal at ints, the law file's sameInts.
  A number in groups of seven bits, by contracts: the specification's and the program's.
  A name's bytes, by contracts: the specification's and the program's PutOid.
-/
import Derived.Test.YtamglfhnhjgdjaaGreatDoorQA
import Derived.Below
namespace Go.Proofs.YtamglfhnhjgdjaaGreatDoor
open Go.RowKit

def okN (z : Int) : Bool := decide (0 ≤ z ∧ z ≤ 100000)
def oidOk (zs : List Int) : Bool := zs.all okN && decide (1 ≤ zs.length ∧ zs.length ≤ 10)

/-- Number by number, a beginning ahead of what goes on. -/
def lessL : List Int → List Int → Bool
  | [], [] => false
  | [], _ :: _ => true
  | _ :: _, [] => false
  | x :: a, y :: b => if x = y then lessL a b else decide (x < y)

def belowL (o h : List Int) : Bool := decide (h.length < o.length ∧ o.take h.length = h)

/-- The groups ahead of a number's last one. -/
def more (n : Nat) : List Int := if _h : n ≤ 127 then [] else more (n / 128) ++ [((n / 128 % 128 + 128 : Nat) : Int)]
def groups (n : Nat) : List Int := more n ++ [((n % 128 : Nat) : Int)]
def flatO (o : List Int) : List Int := (o.map fun z => groups z.toNat).flatten
def putO (o : List Int) : List Int := if oidOk o = true then flatO o else []

theorem more_lt {n : Nat} (h : n ≤ 127) : more n = [] := by rw [more]; simp [h]
theorem more_ge {n : Nat} (h : 128 ≤ n) : more n = more (n / 128) ++ [((n / 128 % 128 + 128 : Nat) : Int)] := by
  rw [more]; simp [show ¬ n ≤ 127 by omega]

/-- One number read, and what is left. -/
def dec : Nat → List Int → Nat × List Int
  | acc, [] => (acc, [])
  | acc, b :: r => if b < 128 then (acc * 128 + b.toNat, r) else dec (acc * 128 + (b.toNat - 128)) r

theorem dec_more (n : Nat) : ∀ y, dec 0 (more n ++ y) = dec (n / 128) y := by
  induction n using Nat.strongRecOn with
  | _ n ih =>
    intro y
    by_cases h : n ≤ 127
    · rw [more_lt h]; simp [Nat.div_eq_of_lt (show n < 128 by omega)]
    · rw [more_ge (by omega), List.append_assoc, ih (n / 128) (by omega)]
      have h1 : ¬ ((n / 128 % 128 + 128 : Nat) : Int) < 128 := by omega
      have e : n / 128 / 128 * 128 + (((n / 128 % 128 + 128 : Nat) : Int).toNat - 128) = n / 128 := by omega
      simp only [List.cons_append, List.nil_append, dec, h1, if_false]
      rw [e]

theorem dec_groups (n : Nat) (x : List Int) : dec 0 (groups n ++ x) = (n, x) := by
  unfold groups
  rw [List.append_assoc, dec_more]
  have h1 : ((n % 128 : Nat) : Int) < 128 := by omega
  simp only [List.cons_append, List.nil_append, dec, h1, if_true]
  congr 1
  omega

theorem dec_ge : ∀ (y : List Int) (n : Nat), n ≤ (dec n y).1
  | [], n => Nat.le_refl _
  | b :: r, n => by
    unfold dec
    split
    · simp; omega
    · exact Nat.le_trans (by omega) (dec_ge r (n * 128 + (b.toNat - 128)))

theorem more_big (n : Nat) : 128 ≤ n → ∀ l, ∃ h t, more n ++ l = h :: t ∧ 128 < h := by
  induction n using Nat.strongRecOn with
  | _ n ih =>
    intro hn l
    rw [more_ge hn, List.append_assoc]
    by_cases h : n / 128 ≤ 127
    · rw [more_lt h]
      exact ⟨_, _, rfl, by omega⟩
    · exact ih (n / 128) (by omega) (by omega) _

theorem groups_head (n : Nat) (x y : List Int) : groups n ++ x ≠ 128 :: y := by
  intro e
  unfold groups at e
  rw [List.append_assoc] at e
  by_cases h : n ≤ 127
  · rw [more_lt h] at e
    simp at e
    omega
  · obtain ⟨a, t, e1, h1⟩ := more_big n (by omega) ([((n % 128 : Nat) : Int)] ++ x)
    rw [e1] at e
    simp at e
    omega

theorem more_byte (n : Nat) : ∀ z ∈ more n, 128 ≤ z ∧ z ≤ 255 := by
  induction n using Nat.strongRecOn with
  | _ n ih =>
    intro z hz
    by_cases h : n ≤ 127
    · rw [more_lt h] at hz; cases hz
    · rw [more_ge (by omega)] at hz
      rcases List.mem_append.1 hz with h1 | h1
      · exact ih (n / 128) (by omega) z h1
      · simp at h1; omega

theorem groups_byte (n : Nat) : ∀ z ∈ groups n, 0 ≤ z ∧ z ≤ 255 := by
  intro z hz
  rcases List.mem_append.1 hz with h1 | h1
  · have := more_byte n z h1; omega
  · simp at h1; omega

theorem more_length (k : Nat) : ∀ n, n < 128 ^ (k + 1) → (more n).length ≤ k := by
  induction k with
  | zero => intro n h; rw [more_lt (by omega)]; simp
  | succ k ih =>
    intro n h
    by_cases h1 : n ≤ 127
    · rw [more_lt h1]; simp
    · rw [more_ge (by omega)]
      have : n / 128 < 128 ^ (k + 1) := by
        rw [Nat.div_lt_iff_lt_mul (by omega)]
        rw [Nat.pow_succ] at h; exact h
      have := ih _ this
      simp; omega

theorem groups_length (k n : Nat) (h : n < 128 ^ (k + 1)) : (groups n).length ≤ k + 1 := by
  have := more_length k n h
  simp [groups]; omega

theorem groups_short {n : Nat} (h : n ≤ 100000) : (groups n).length ≤ 3 := groups_length 2 n (by omega)
theorem groups_four {n : Nat} (h : n < 268435456) : (groups n).length ≤ 4 := groups_length 3 n (by omega)

/-- What a reader of a number holds when k groups are read that go on: n. -/
def Rd (rest : List Int) (k n : Nat) : Prop := dec 0 rest = dec n (rest.drop k) ∧ (∀ z ∈ rest.take k, 128 ≤ z) ∧
  ((k = 0 ∧ n = 0) ∨ (1 ≤ k ∧ 1 ≤ n ∧ rest.take k = more (n * 128)) ∨ (1 ≤ k ∧ rest.head? = some 128 ∧ n < 128 ^ (k - 1)))

theorem rd_start (rest : List Int) : Rd rest 0 0 := ⟨by simp, by simp, .inl ⟨rfl, rfl⟩⟩

theorem drop_at {l : List Int} {k : Nat} (h : k < l.length) : l.drop k = l.getD k 0 :: l.drop (k + 1) := by
  rw [List.drop_eq_getElem_cons h]; simp [h]
theorem take_at {l : List Int} {k : Nat} (h : k < l.length) : l.take (k + 1) = l.take k ++ [l.getD k 0] := by
  rw [List.take_succ_eq_append_getElem h]; simp [h]

theorem rd_more {rest : List Int} {k n : Nat} {z : Int} (h : Rd rest k n) (hk : k < rest.length) (hz : rest.getD k 0 = z) (h1 : 128 ≤ z) (h2 : z ≤ 255) : Rd rest (k + 1) (n * 128 + (z.toNat - 128)) := by
  obtain ⟨hd, ha, hc⟩ := h
  have e : rest.take (k + 1) = rest.take k ++ [z] := by rw [take_at hk, hz]
  refine ⟨?_, ?_, ?_⟩
  · rw [hd, drop_at hk, hz]
    conv => lhs; unfold dec
    rw [if_neg (by omega)]
  · rw [e]
    intro y hy
    rcases List.mem_append.1 hy with h3 | h3
    · exact ha y h3
    · simp at h3; omega
  · rcases hc with ⟨rfl, rfl⟩ | ⟨k1, n1, ht⟩ | ⟨k1, hh1, hp⟩
    · by_cases hq : z = 128
      · refine .inr (.inr ⟨by omega, ?_, by subst hq; simp⟩)
        cases rest with
        | nil => simp at hk
        | cons a r => simp at hz; simp; omega
      · refine .inr (.inl ⟨by omega, by omega, ?_⟩)
        rw [e, more_ge (by omega), more_lt (by omega)]
        simp
        omega
    · refine .inr (.inl ⟨by omega, by omega, ?_⟩)
      rw [e, ht, more_ge (n := (n * 128 + (z.toNat - 128)) * 128) (by omega)]
      have q : (n * 128 + (z.toNat - 128)) * 128 / 128 = n * 128 + (z.toNat - 128) := by omega
      rw [q]
      have q2 : more (n * 128 + (z.toNat - 128)) = more (n * 128) := by
        rw [more_ge (by omega), more_ge (n := n * 128) (by omega)]
        have : (n * 128 + (z.toNat - 128)) / 128 = n * 128 / 128 := by omega
        rw [this]
      rw [q2]
      congr 2
      omega
    · refine .inr (.inr ⟨by omega, hh1, ?_⟩)
      obtain ⟨j, rfl⟩ : ∃ j, k = j + 1 := ⟨k - 1, by omega⟩
      have : 128 ^ (j + 1 + 1 - 1) = 128 ^ (j + 1 - 1) * 128 := by simp [Nat.pow_succ]
      rw [this]
      omega

/-- The last group: the number, and whether it is told in as few groups as may be. -/
theorem rd_last {rest : List Int} {k n : Nat} {z : Int} (h : Rd rest k n) (hk : k < rest.length) (hz : rest.getD k 0 = z) (h0 : 0 ≤ z) (h1 : z < 128) :
    dec 0 rest = (n * 128 + z.toNat, rest.drop (k + 1)) ∧ ((groups (n * 128 + z.toNat)).length = k + 1 → rest = groups (n * 128 + z.toNat) ++ rest.drop (k + 1)) ∧ (rest.head? ≠ some 128 → rest = groups (n * 128 + z.toNat) ++ rest.drop (k + 1)) := by
  obtain ⟨hd, ha, hc⟩ := h
  have e : rest.take (k + 1) = rest.take k ++ [z] := by rw [take_at hk, hz]
  have hm : (n * 128 + z.toNat) % 128 = z.toNat := by omega
  have fin : rest.take k = more (n * 128 + z.toNat) → rest = groups (n * 128 + z.toNat) ++ rest.drop (k + 1) := by
    intro ht
    conv => lhs; rw [← List.take_append_drop (k + 1) rest, e, ht]
    unfold groups
    rw [hm]
    have : ((z.toNat : Nat) : Int) = z := by omega
    rw [this]
  have good : 1 ≤ n → rest.take k = more (n * 128) → rest.take k = more (n * 128 + z.toNat) := by
    intro n1 ht
    rw [ht, more_ge (by omega), more_ge (n := n * 128 + z.toNat) (by omega)]
    have : (n * 128 + z.toNat) / 128 = n * 128 / 128 := by omega
    rw [this]
  refine ⟨?_, ?_, ?_⟩
  · rw [hd, drop_at hk, hz]
    conv => lhs; unfold dec
    rw [if_pos h1]
  · intro hl
    rcases hc with ⟨rfl, rfl⟩ | ⟨k1, n1, ht⟩ | ⟨k1, hh1, hp⟩
    · exact fin (by rw [more_lt (by omega)]; simp)
    · exact fin (good n1 ht)
    · exfalso
      obtain ⟨j, rfl⟩ : ∃ j, k = j + 1 := ⟨k - 1, by omega⟩
      have hp' : n < 128 ^ j := by simpa using hp
      have := groups_length j (n * 128 + z.toNat) (by rw [Nat.pow_succ]; omega)
      omega
  · intro hh
    rcases hc with ⟨rfl, rfl⟩ | ⟨k1, n1, ht⟩ | ⟨k1, hh1, hp⟩
    · exact fin (by rw [more_lt (by omega)]; simp)
    · exact fin (good n1 ht)
    · exact absurd hh1 hh

/-- A number of which all groups go on is none. -/
theorem no_end {rest : List Int} (h : ∀ z ∈ rest, 128 ≤ z) (m : Nat) (x : List Int) : rest ≠ groups m ++ x := by
  intro e
  have hm : ((m % 128 : Nat) : Int) ∈ rest := by rw [e]; simp [groups]
  have := h _ hm
  omega

theorem no_end4 {rest : List Int} (h : ∀ z ∈ rest.take 4, 128 ≤ z) {m : Nat} (hm : m ≤ 100000) (x : List Int) : rest ≠ groups m ++ x := by
  intro e
  have hl := groups_short hm
  have ht : rest.take 4 = groups m ++ x.take (4 - (groups m).length) := by rw [e, List.take_append, List.take_of_length_le (by omega)]
  exact no_end (rest := rest.take 4) h m _ ht

theorem dec_inj {m n : Nat} {x y : List Int} (h : groups m ++ x = groups n ++ y) : m = n ∧ x = y := by
  have := dec_groups m x
  rw [h, dec_groups] at this
  simp at this
  exact ⟨this.1.symm, this.2.symm⟩

theorem flat_nil : flatO [] = [] := rfl
theorem flat_cons (z : Int) (o : List Int) : flatO (z :: o) = groups z.toNat ++ flatO o := by simp [flatO]
theorem flat_append (a b : List Int) : flatO (a ++ b) = flatO a ++ flatO b := by simp [flatO]
theorem flat_snoc (o : List Int) (z : Int) : flatO (o ++ [z]) = flatO o ++ groups z.toNat := by simp [flatO]

theorem groups_ne (n : Nat) (x : List Int) : groups n ++ x ≠ [] := by simp [groups]

/-- What has been read is the beginning of whatever has these bytes. -/
theorem flat_prefix : ∀ (o o' rest : List Int), (∀ z ∈ o, 0 ≤ z) → (∀ z ∈ o', 0 ≤ z) → flatO o' = flatO o ++ rest → ∃ o2, o' = o ++ o2 ∧ flatO o2 = rest
  | [], o', rest, _, _, h => ⟨o', rfl, by simpa [flatO] using h⟩
  | z :: o, [], rest, _, _, h => by
    rw [flat_cons, List.append_assoc, flat_nil] at h
    exact absurd h.symm (groups_ne _ _)
  | z :: o, z' :: o', rest, h0, h1, h => by
    rw [flat_cons, flat_cons, List.append_assoc] at h
    obtain ⟨e1, e2⟩ := dec_inj h
    obtain ⟨o2, e3, e4⟩ := flat_prefix o o' rest (fun y hy => h0 y (List.mem_cons_of_mem _ hy)) (fun y hy => h1 y (List.mem_cons_of_mem _ hy)) e2
    refine ⟨o2, ?_, e4⟩
    have a := h0 z (by simp)
    have b := h1 z' (by simp)
    have : z = z' := by omega
    rw [e3, this]
    rfl

theorem ok_all {o : List Int} (h : oidOk o = true) : (∀ z ∈ o, 0 ≤ z ∧ z ≤ 100000) ∧ 1 ≤ o.length ∧ o.length ≤ 10 := by
  simp [oidOk, okN] at h
  exact ⟨fun z hz => h.1 z hz, h.2⟩

theorem ok_of {o : List Int} (h : ∀ z ∈ o, 0 ≤ z ∧ z ≤ 100000) (h1 : 1 ≤ o.length) (h2 : o.length ≤ 10) : oidOk o = true := by
  simp [oidOk, okN]
  exact ⟨fun z hz => h z hz, h1, h2⟩

theorem put_ok {o : List Int} (h : oidOk o = true) : putO o = flatO o := by simp [putO, h]

/-- No right name has these bytes. -/
def NoOid (b : List Int) : Prop := ∀ o, oidOk o = true → putO o ≠ b

/-- Numbers read one behind the other, f of them at most. -/
def decs : Nat → List Int → List Int
  | 0, _ => []
  | _ + 1, [] => []
  | f + 1, b :: r => ((dec 0 (b :: r)).1 : Int) :: decs f (dec 0 (b :: r)).2

theorem decs_flat : ∀ (f : Nat) (o : List Int), (∀ z ∈ o, 0 ≤ z) → o.length ≤ f → decs f (flatO o) = o
  | 0, [], _, _ => rfl
  | _ + 1, [], _, _ => rfl
  | 0, _ :: _, _, h => by simp at h
  | f + 1, z :: o, hz, h => by
    have h0 := hz z (by simp)
    have ih := decs_flat f o (fun x hx => hz x (List.mem_cons_of_mem _ hx)) (by simpa using h)
    rw [flat_cons]
    have hd := dec_groups z.toNat (flatO o)
    cases hg : groups z.toNat ++ flatO o with
    | nil => exact absurd hg (groups_ne _ _)
    | cons b r =>
      rw [hg] at hd
      simp only [decs, hd, ih]
      congr 1
      omega

def getO (b : List Int) : Option (List Int) := if oidOk (decs 11 b) = true ∧ putO (decs 11 b) = b then some (decs 11 b) else none

theorem put_inj {o o' : List Int} (h : oidOk o = true) (h' : oidOk o' = true) (e : putO o = putO o') : o = o' := by
  rw [put_ok h, put_ok h'] at e
  obtain ⟨o2, e1, e2⟩ := flat_prefix o' o [] (fun z hz => ((ok_all h').1 z hz).1) (fun z hz => ((ok_all h).1 z hz).1) (by simpa using e)
  cases o2 with
  | nil => simpa using e1
  | cons z r => rw [flat_cons] at e2; exact absurd e2 (groups_ne _ _)

theorem getO_put {o : List Int} (h : oidOk o = true) : getO (putO o) = some o := by
  obtain ⟨h1, _, h3⟩ := ok_all h
  have e : decs 11 (putO o) = o := by rw [put_ok h]; exact decs_flat 11 o (fun z hz => (h1 z hz).1) (by omega)
  unfold getO
  rw [e, if_pos ⟨h, rfl⟩]

theorem getO_some {b o : List Int} (h : oidOk o = true) (hb : flatO o = b) : getO b = some o := by
  rw [← hb, ← put_ok h]; exact getO_put h

theorem getO_none {b : List Int} (h : NoOid b) : getO b = none := by
  unfold getO
  rw [if_neg]
  rintro ⟨h1, h2⟩
  exact h _ h1 h2

theorem getO_is {b o : List Int} (h : getO b = some o) : oidOk o = true ∧ putO o = b := by
  unfold getO at h
  split at h
  · rename_i hex
    cases h
    exact hex
  · cases h

/-- Where a part is read and what stands behind is no number, there is no name. -/
theorem none_bad {b o rest : List Int} (hb : flatO o ++ rest = b) (h0 : ∀ z ∈ o, 0 ≤ z) (hne : rest ≠ []) (hbad : ∀ m, m ≤ 100000 → ∀ x, rest ≠ groups m ++ x) : NoOid b := by
  intro o' hok e
  rw [put_ok hok, ← hb] at e
  have ho := (ok_all hok).1
  obtain ⟨o2, e1, e2⟩ := flat_prefix o o' rest h0 (fun z hz => (ho z hz).1) e
  cases o2 with
  | nil => exact hne e2.symm
  | cons z r =>
    rw [flat_cons] at e2
    have := ho z (by rw [e1]; simp)
    exact hbad z.toNat (by omega) _ e2.symm

/-- Where more than ten are read, or one that is too great, there is no name. -/
theorem none_long {b o rest : List Int} (hb : flatO o ++ rest = b) (h0 : ∀ z ∈ o, 0 ≤ z) (hlen : 10 < o.length ∨ (o.length = 10 ∧ rest ≠ [])) : NoOid b := by
  intro o' hok e
  rw [put_ok hok, ← hb] at e
  obtain ⟨ho, h1, h2⟩ := ok_all hok
  obtain ⟨o2, e1, e2⟩ := flat_prefix o o' rest h0 (fun z hz => (ho z hz).1) e
  have hl : o'.length = o.length + o2.length := by rw [e1]; simp
  rcases hlen with h3 | ⟨h3, h4⟩
  · omega
  · cases o2 with
    | nil => exact h4 e2.symm
    | cons z r => simp at hl; omega

theorem none_not {b o : List Int} (hb : flatO o = b) (h0 : ∀ z ∈ o, 0 ≤ z) (hno : ¬ oidOk o = true) : NoOid b := by
  intro o' hok e
  rw [put_ok hok, ← hb] at e
  obtain ⟨o2, e1, e2⟩ := flat_prefix o o' [] h0 (fun z hz => ((ok_all hok).1 z hz).1) (by simpa using e)
  cases o2 with
  | nil => simp at e1; exact hno (by rw [← e1]; exact hok)
  | cons z r => rw [flat_cons] at e2; exact absurd e2 (groups_ne _ _)

/-- A number too great on its way. -/
theorem bad_great {rest : List Int} {n : Nat} {y : List Int} (hd : dec 0 rest = dec n y) (hn : 100000 < n) : ∀ m, m ≤ 100000 → ∀ x, rest ≠ groups m ++ x := by
  intro m hm x e
  rw [e, dec_groups] at hd
  have := dec_ge y n
  rw [← hd] at this
  simp at this
  omega

theorem bad_great' {rest : List Int} {v : Nat} {y : List Int} (hd : dec 0 rest = (v, y)) (hn : 100000 < v) : ∀ m, m ≤ 100000 → ∀ x, rest ≠ groups m ++ x := by
  intro m hm x e
  rw [e, dec_groups] at hd
  simp at hd
  omega

theorem bad_size {rest : List Int} {v k : Nat} (hd : dec 0 rest = (v, rest.drop k)) (hk : k ≤ rest.length) (hl : (groups v).length ≠ k) : ∀ m, m ≤ 100000 → ∀ x, rest ≠ groups m ++ x := by
  intro m hm x e
  have hd' := hd
  rw [e, dec_groups] at hd
  simp only [Prod.mk.injEq] at hd
  obtain ⟨rfl, hx⟩ := hd
  have h1 : rest.length = (groups m).length + x.length := by rw [e]; simp
  have h2 : x.length = (rest.drop k).length := by conv => lhs; rw [hx, ← e]
  rw [List.length_drop] at h2
  omega

/-! The order. -/

theorem less_at : ∀ (k : Nat) (a b : List Int), a.take k = b.take k → k < a.length → k < b.length → a.getD k 0 ≠ b.getD k 0 → lessL a b = decide (a.getD k 0 < b.getD k 0)
  | _, [], _, _, h, _, _ => by simp at h
  | _, _, [], _, _, h, _ => by simp at h
  | 0, x :: a, y :: b, _, _, _, h => by simp at h; simp [lessL, h]
  | k + 1, x :: a, y :: b, ht, h1, h2, h => by
    simp at ht h1 h2 h
    simp only [lessL, ht.1, if_true]
    rw [less_at k a b ht.2 h1 h2 (by simpa using h)]
    simp

theorem less_end : ∀ (k : Nat) (a b : List Int), a.take k = b.take k → k ≤ a.length → k ≤ b.length → (k = a.length ∨ k = b.length) → lessL a b = decide (a.length < b.length)
  | 0, [], [], _, _, _, _ => rfl
  | 0, [], _ :: _, _, _, _, _ => by simp [lessL]
  | 0, _ :: _, [], _, _, _, _ => by simp [lessL]
  | 0, _ :: _, _ :: _, _, _, _, h => by simp at h
  | k + 1, [], _, _, h, _, _ => by simp at h
  | k + 1, _ :: _, [], _, _, h, _ => by simp at h
  | k + 1, x :: a, y :: b, ht, h1, h2, h => by
    simp at ht h1 h2 h
    simp only [lessL, ht.1, if_true]
    rw [less_end k a b ht.2 h1 h2 h]
    simp

theorem less_same (a : List Int) : lessL a a = false := by
  rw [less_end a.length a a rfl (Nat.le_refl _) (Nat.le_refl _) (.inl rfl)]; simp

theorem less_anti : ∀ (a b : List Int), ¬ (lessL a b = true ∧ lessL b a = true)
  | [], [] => by simp [lessL]
  | [], _ :: _ => by simp [lessL]
  | _ :: _, [] => by simp [lessL]
  | x :: a, y :: b => by
    intro ⟨h1, h2⟩
    unfold lessL at h1 h2
    by_cases e : x = y
    · subst e
      simp at h1 h2
      exact less_anti a b ⟨h1, h2⟩
    · rw [if_neg e] at h1
      rw [if_neg (by intro e2; exact e e2.symm)] at h2
      simp at h1 h2
      omega

theorem less_total : ∀ (a b : List Int), a ≠ b → (lessL a b = true ∨ lessL b a = true)
  | [], [], h => absurd rfl h
  | [], _ :: _, _ => by simp [lessL]
  | _ :: _, [], _ => by simp [lessL]
  | x :: a, y :: b, h => by
    unfold lessL
    by_cases e : x = y
    · subst e
      simp
      exact less_total a b (by intro e2; exact h (by rw [e2]))
    · rw [if_neg e, if_neg (by intro e2; exact e e2.symm)]
      simp
      omega

theorem below_less : ∀ (o h : List Int), belowL o h = true → lessL h o = true
  | [], h, hb => by simp [belowL] at hb
  | _ :: _, [], _ => by simp [lessL]
  | y :: o, x :: h, hb => by
    simp [belowL] at hb
    simp only [lessL, hb.2.1, if_true]
    exact below_less o h (by simp [belowL]; exact ⟨hb.1, hb.2.2⟩)

set_option maxRecDepth 100000 in
set_option maxHeartbeats 400000 in
theorem in_any (x lo hi : Int) (w : World) :
    Calls Tryz.prog 49 #[.int .i64 x, .int .i64 lo, .int .i64 hi] w fun e w' => e = .returned (.bool (decide (lo ≤ x) && decide (x ≤ hi))) ∧ w' = w := by
  by_cases h1 : lo ≤ x
  · go_enter Tryz.func49, Tryz.ntmps49
    go_wp2
    go_ret
    exact ⟨ret_bool (by simp [h1]), rfl⟩
  · go_enter Tryz.func49, Tryz.ntmps49
    go_wp2
    go_ret
    exact ⟨ret_bool (by rw [decide_eq_false (show ¬ lo ≤ x by omega)]; rfl), rfl⟩

theorem all_succ (zs : List Int) (k : Nat) (h : k < zs.length) (hk : (zs.take k).all okN = true) (hz : okN (zs.getD k 0) = true) : (zs.take (k + 1)).all okN = true := by
  rw [take_succ_getD _ _ h, List.all_append, hk]; simpa using hz

theorem ok_no {zs : List Int} {k : Nat} (h : k < zs.length) (hz : okN (zs.getD k 0) = false) : oidOk zs = false := by
  have hm : zs.getD k 0 ∈ zs := by rw [List.getD_eq_getElem?_getD, List.getElem?_eq_getElem h]; exact List.getElem_mem h
  have : zs.all okN = false := by
    rw [Bool.eq_false_iff]
    intro ha
    rw [List.all_eq_true] at ha
    rw [ha _ hm] at hz
    cases hz
  simp [oidOk, this]

theorem ok_end {zs : List Int} {k : Nat} (h : k = zs.length) (hk : (zs.take k).all okN = true) : oidOk zs = decide (1 ≤ zs.length ∧ zs.length ≤ 10) := by
  subst h; rw [List.take_length] at hk; simp [oidOk, hk]

set_option maxRecDepth 100000 in
set_option maxHeartbeats 400000 in
theorem specOk_any (a1 : Option Addr) (l1 c1 : Nat) (z1 : List Int) (w : World) (h1 : IRow w a1 l1 c1 z1) :
    Calls Tryz.prog 70 #[.slice a1 l1 c1] w fun e w' => e = .returned (.bool (oidOk z1)) ∧ w' = w := by
  have m1 := h1.top; have s1 := h1.size; have e1 := h1.le
  unfold maxLen at m1
  have hcell := h1.cell
  clear h1
  go_enter Tryz.func70, Tryz.ntmps70
  go_wp2
  go_loop [3] (fun i => ∃ k : Nat, k ≤ l1 ∧ i = .int .i64 k ∧ (z1.take k).all okN = true) (fun i => l1 - (intOf i).toNat)
  case atStart => exact ⟨0, Nat.zero_le _, rfl, rfl⟩
  case round =>
    obtain ⟨k, hk, rfl, ht⟩ := hrel
    have HT := hide ht
    clear ht
    by_cases hlt : k < l1
    · rcases hcell with h0 | ⟨b, off, rfl, hc⟩
      · omega
      have cx := hc k hlt
      generalize hx : z1.getD k 0 = x at cx
      have HX := hide hx
      clear hx hc
      by_cases hq : 0 ≤ x ∧ x ≤ 100000
      · go_wp2_with fail
        refine (in_any x 0 100000 _).mono ?_
        rintro e w1 ⟨rfl, rfl⟩
        rw [decide_eq_true hq.1, decide_eq_true hq.2]
        go_wp2
        go_round
        case rel => exact ⟨k + 1, by omega, by go_num, all_succ _ _ (by omega) HT.out (by rw [HX.out]; unfold okN; exact decide_eq_true hq)⟩
        case measure => simp [intOf]; omega
      · go_wp2_with fail
        refine (in_any x 0 100000 _).mono ?_
        rintro e w1 ⟨rfl, rfl⟩
        rw [show (decide ((0 : Int) ≤ x) && decide (x ≤ 100000)) = false by rw [← Bool.decide_and]; exact decide_eq_false hq]
        go_wp2
        go_ret
        exact ⟨ret_bool (ok_no (k := k) (by omega) (by rw [HX.out]; unfold okN; exact decide_eq_false hq)).symm, rfl⟩
    · go_wp2_with fail
      refine (in_any l1 1 10 _).mono ?_
      rintro e w1 ⟨rfl, rfl⟩
      go_wp2
      go_ret
      refine ⟨ret_bool ?_, rfl⟩
      rw [ok_end (k := k) (by omega) HT.out, s1, Bool.eq_iff_iff]
      simp
      omega

set_option maxRecDepth 100000 in
set_option maxHeartbeats 400000 in
theorem implOk_any (a1 : Option Addr) (l1 c1 : Nat) (z1 : List Int) (w : World) (h1 : IRow w a1 l1 c1 z1) :
    Calls Tryz.prog 92 #[.slice a1 l1 c1] w fun e w' => e = .returned (.bool (oidOk z1)) ∧ w' = w := by
  have m1 := h1.top; have s1 := h1.size; have e1 := h1.le
  unfold maxLen at m1
  have hcell := h1.cell
  clear h1
  go_enter Tryz.func92, Tryz.ntmps92
  go_wp2
  go_loop [7] (fun i => ∃ k : Nat, k ≤ l1 ∧ i = .int .i64 k ∧ (z1.take k).all okN = true) (fun i => l1 - (intOf i).toNat)
  case atStart => exact ⟨0, Nat.zero_le _, rfl, rfl⟩
  case round =>
    obtain ⟨k, hk, rfl, ht⟩ := hrel
    have HT := hide ht
    clear ht
    by_cases hlt : k < l1
    · rcases hcell with h0 | ⟨b, off, rfl, hc⟩
      · omega
      have cx := hc k hlt
      generalize hx : z1.getD k 0 = x at cx
      have HX := hide hx
      clear hx hc
      by_cases hn : x < 0
      · go_wp2
        go_ret
        exact ⟨ret_bool (ok_no (k := k) (by omega) (by rw [HX.out]; unfold okN; exact decide_eq_false (by omega))).symm, rfl⟩
      · by_cases hg : 100000 < x
        · go_wp2
          go_ret
          exact ⟨ret_bool (ok_no (k := k) (by omega) (by rw [HX.out]; unfold okN; exact decide_eq_false (by omega))).symm, rfl⟩
        · go_wp2
          go_round
          case rel => exact ⟨k + 1, by omega, by go_num, all_succ _ _ (by omega) HT.out (by rw [HX.out]; unfold okN; exact decide_eq_true (by omega))⟩
          case measure => simp [intOf]; omega
    · by_cases hq : 1 ≤ l1
      · go_wp2
        go_ret
        refine ⟨ret_bool ?_, rfl⟩
        rw [ok_end (k := k) (by omega) HT.out, s1, Bool.eq_iff_iff]
        simp
        omega
      · go_wp2
        go_ret
        refine ⟨ret_bool ?_, rfl⟩
        rw [ok_end (k := k) (by omega) HT.out, s1, Bool.eq_iff_iff]
        simp
        omega

set_option maxRecDepth 100000 in
set_option maxHeartbeats 400000 in
theorem equal_any (a1 : Option Addr) (l1 c1 : Nat) (z1 : List Int) (a2 : Option Addr) (l2 c2 : Nat) (z2 : List Int) (w : World) (h1 : IRow w a1 l1 c1 z1) (h2 : IRow w a2 l2 c2 z2) :
    Calls Tryz.prog 103 #[.slice a1 l1 c1, .slice a2 l2 c2] w fun e w' => e = .returned (.bool (decide (z1 = z2))) ∧ ∃ n, w' = w.drewN n := by
  have m1 := h1.top; have m2 := h2.top; have s1 := h1.size; have s2 := h2.size; have e1 := h1.le; have e2 := h2.le
  unfold maxLen at m1 m2
  by_cases hl : l1 = l2
  · subst hl
    by_cases h0 : l1 = 0
    · subst h0
      have hz : z1 = z2 := by rw [List.eq_nil_of_length_eq_zero s1, List.eq_nil_of_length_eq_zero s2]
      go_enter Tryz.func103, Tryz.ntmps103
      go_wp2
      go_loop [13] (fun i => i = .int .i64 0) (fun _ => 0)
      case atStart => rfl
      case round =>
        subst hrel
        go_wp2
        go_ret
        exact ⟨by simp, 0, rfl⟩
    · rcases h1.cell with h | ⟨b1, o1, rfl, g1⟩
      · exact absurd h h0
      rcases h2.cell with h | ⟨b2, o2, rfl, g2⟩
      · exact absurd h h0
      clear h1 h2
      have G1 : Hid (∀ i, i < l1 → w.cell? ⟨b1, o1 + i, none⟩ = some (.int .i64 (z1.getD i 0))) := g1
      have G2 : Hid (∀ i, i < l1 → w.cell? ⟨b2, o2 + i, none⟩ = some (.int .i64 (z2.getD i 0))) := g2
      clear g1 g2
      go_enter Tryz.func103, Tryz.ntmps103
      go_wp2
      go_loopw [13] (fun i wr => ∃ k : Nat, k ≤ l1 ∧ i = .int .i64 k ∧ z1.take k = z2.take k ∧ ∃ n, wr = w.drewN n) (fun i _ => l1 - (intOf i).toNat)
      case atStart => exact ⟨0, Nat.zero_le _, rfl, rfl, 0, rfl⟩
      case round =>
        obtain ⟨k, hk, rfl, ht, n, rfl⟩ := hrel
        have HT : Hid (z1.take k = z2.take k) := ht
        clear ht
        by_cases hlt : k < l1
        · have c1 := G1.out k hlt
          have c2 := G2.out k hlt
          generalize hx : z1.getD k 0 = x at c1
          generalize hy : z2.getD k 0 = y at c2
          have HX : Hid (z1.getD k 0 = x) := hx
          have HY : Hid (z2.getD k 0 = y) := hy
          clear hx hy
          by_cases hq : x = y
          · subst hq
            go_wp2
            go_quiet (fail)
            go_wp2
            go_roundw
            case rel => exact ⟨k + 1, by omega, by go_num, by rw [take_succ_getD _ _ (by omega), take_succ_getD _ _ (by omega), HT.out, HX.out, HY.out], _, rfl⟩
            case measure => simp [intOf]; omega
          · have hne : (x != y) = true := by simp [hq]
            go_wp2
            go_quiet (fail)
            go_wp2
            go_ret
            exact ⟨ret_bool (decide_eq_false (ne_at k (by rw [HX.out, HY.out]; exact hq))).symm, _, World.drewN_drewN _ _ _⟩
        · go_wp2
          go_ret
          have hk' : k = l1 := by omega
          exact ⟨ret_bool (decide_eq_true (eq_of_takes (by omega) (by rw [s1, ← hk']; exact HT.out))).symm, _, rfl⟩
  · have hne : ((l1 : Int) != (l2 : Int)) = true := by simp; omega
    have hz : ¬ z1 = z2 := by intro e; rw [e] at s1; omega
    go_enter Tryz.func103, Tryz.ntmps103
    go_wp2
    go_ret
    exact ⟨ret_bool (decide_eq_false hz).symm, 0, rfl⟩

set_option maxRecDepth 100000 in
set_option maxHeartbeats 400000 in
theorem implSame_any (a1 : Option Addr) (l1 c1 : Nat) (z1 : List Int) (a2 : Option Addr) (l2 c2 : Nat) (z2 : List Int) (w : World) (h1 : IRow w a1 l1 c1 z1) (h2 : IRow w a2 l2 c2 z2) :
    Calls Tryz.prog 81 #[.slice a1 l1 c1, .slice a2 l2 c2] w fun e w' => e = .returned (.bool (decide (z1 = z2))) ∧ ∃ n, w' = w.drewN n := by
  go_enter Tryz.func81, Tryz.ntmps81
  go_wp2_with fail
  refine (equal_any _ _ _ z1 _ _ _ z2 _ h1 h2).mono ?_
  rintro e w1 ⟨rfl, n, rfl⟩
  go_wp2
  go_ret
  exact ⟨rfl, n, rfl⟩

theorem and127 (x : Int) : bits .and .i64 x 127 = x % 128 := by
  have e1 : (BitVec.ofInt 64 x).toNat = (x % 18446744073709551616).toNat := by
    rw [BitVec.toNat_ofInt]
    have : ((2 ^ 64 : Nat) : Int) = 18446744073709551616 := by decide
    rw [this]
  have e2 : (BitVec.ofInt 64 127).toNat = 2 ^ 7 - 1 := by decide
  have e3 : ((BitVec.ofInt 64 x) &&& (BitVec.ofInt 64 127)).toNat = (x % 18446744073709551616).toNat % 2 ^ 7 := by
    rw [BitVec.toNat_and, e1, e2, Nat.and_two_pow_sub_one_eq_mod]
  show IntKind.i64.wrap (((BitVec.ofInt 64 x) &&& (BitVec.ofInt 64 127)).toNat : Int) = _
  rw [e3, IntKind.wrap_i64]
  simp only [Nat.reducePow]
  omega

theorem and127b (x : Int) (h : 0 ≤ x ∧ x ≤ 255) : bits .and .u8 x 127 = x % 128 := by
  have e1 : (BitVec.ofInt 8 x).toNat = x.toNat := by
    rw [BitVec.toNat_ofInt]
    have : ((2 ^ 8 : Nat) : Int) = 256 := by decide
    rw [this]; omega
  have e2 : (BitVec.ofInt 8 127).toNat = 2 ^ 7 - 1 := by decide
  have e3 : ((BitVec.ofInt 8 x) &&& (BitVec.ofInt 8 127)).toNat = x.toNat % 2 ^ 7 := by
    rw [BitVec.toNat_and, e1, e2, Nat.and_two_pow_sub_one_eq_mod]
  show IntKind.u8.wrap (((BitVec.ofInt 8 x) &&& (BitVec.ofInt 8 127)).toNat : Int) = _
  rw [e3]
  simp only [Nat.reducePow, IntKind.wrap, IntKind.bits, IntKind.signed]
  simp
  omega

theorem or128 (x : Int) (h : 0 ≤ x ∧ x < 128) : bits .or .i64 x 128 = x + 128 := by
  have e1 : (BitVec.ofInt 64 x).toNat = x.toNat := by
    rw [BitVec.toNat_ofInt]
    have : ((2 ^ 64 : Nat) : Int) = 18446744073709551616 := by decide
    rw [this]; omega
  have e2 : (BitVec.ofInt 64 128).toNat = 2 ^ 7 * 1 := by decide
  have e3 : ((BitVec.ofInt 64 x) ||| (BitVec.ofInt 64 128)).toNat = 2 ^ 7 * 1 + x.toNat := by
    rw [BitVec.toNat_or, e1, e2, Nat.or_comm, Nat.two_pow_add_eq_or_of_lt (by omega)]
  show IntKind.i64.wrap (((BitVec.ofInt 64 x) ||| (BitVec.ofInt 64 128)).toNat : Int) = _
  rw [e3, IntKind.wrap_i64]
  simp only [Nat.reducePow]
  omega

theorem or_group (n x : Int) (hn : 0 ≤ n ∧ n ≤ 36028797018963967) (hx : 0 ≤ x ∧ x < 128) : bits .or .i64 (n * 128) x = n * 128 + x := by
  have e1 : (BitVec.ofInt 64 (n * 128)).toNat = 2 ^ 7 * n.toNat := by
    rw [BitVec.toNat_ofInt]
    have : ((2 ^ 64 : Nat) : Int) = 18446744073709551616 := by decide
    rw [this]; omega
  have e2 : (BitVec.ofInt 64 x).toNat = x.toNat := by
    rw [BitVec.toNat_ofInt]
    have : ((2 ^ 64 : Nat) : Int) = 18446744073709551616 := by decide
    rw [this]; omega
  have e3 : ((BitVec.ofInt 64 (n * 128)) ||| (BitVec.ofInt 64 x)).toNat = 2 ^ 7 * n.toNat + x.toNat := by
    rw [BitVec.toNat_or, e1, e2, Nat.two_pow_add_eq_or_of_lt (by omega)]
  show IntKind.i64.wrap (((BitVec.ofInt 64 (n * 128)) ||| (BitVec.ofInt 64 x)).toNat : Int) = _
  rw [e3, IntKind.wrap_i64]
  simp only [Nat.reducePow]
  omega

/-- What is laid of a number's groups, and what is left of it: x. -/
def Laid (x : Int) (zs R : List Int) : Prop := more x.toNat ++ zs = R

theorem laid_start (n : Int) (h : 0 ≤ n) : Laid n [n % 128] (groups n.toNat) := by
  have : ((n.toNat % 128 : Nat) : Int) = n % 128 := by omega
  simp only [Laid, groups, this]

theorem laid_step {x : Int} {zs R : List Int} (h : Laid x zs R) (h1 : 127 < x) : Laid (x / 128) ((x / 128 % 128 + 128) :: zs) R := by
  unfold Laid at *
  rw [← h, more_ge (n := x.toNat) (by omega), List.append_assoc]
  have e1 : (x / 128).toNat = x.toNat / 128 := by omega
  have e2 : ((x.toNat / 128 % 128 + 128 : Nat) : Int) = x / 128 % 128 + 128 := by omega
  rw [e1, e2]
  rfl

theorem laid_end {x : Int} {zs R : List Int} (h : Laid x zs R) (h1 : ¬ 127 < x) : zs = R := by
  unfold Laid at h
  rw [more_lt (by omega)] at h
  simpa using h

theorem byte_group (x : Int) : Byt [x % 128] := by
  intro z hz; simp at hz; subst hz; omega

theorem gbyte_cons {x : Int} {zs : List Int} (h : 0 ≤ x ∧ x ≤ 255) (hz : Byt zs) : Byt (x :: zs) := by
  intro z h2
  rcases List.mem_cons.1 h2 with rfl | h2
  · exact h
  · exact hz z h2

theorem grow_one (w : World) (b : Int) (h : 0 ≤ b ∧ b ≤ 255) : Row (w.alloc (.cells #[.int .u8 b] 5)) (some ⟨w.heap.size, 0, none⟩) 1 1 [b] where
  size := rfl
  le := Nat.le_refl _
  top := by unfold maxLen; omega
  nil := by intro h; cases h
  byte := by intro z hz; simp at hz; subst hz; exact h
  cell := .inr ⟨w.heap.size, 0, rfl, fun i hi => by
    obtain rfl : i = 0 := by omega
    simp⟩

set_option maxRecDepth 100000 in
set_option maxHeartbeats 400000 in
theorem specGroup_any (n : Int) (w : World) (h0 : 0 ≤ n) (h1 : n < 268435456) : Calls Tryz.prog 104 #[.int .i64 n] w fun e w' => ∃ v, e = .returned v ∧
    w'.ownsRow w.heap.size 5 1 v (groups n.toNat).length (cB (groups n.toNat)) ∧ Below w.heap.size w w' := by
  obtain ⟨i0, hi, hz0, hz1, hz2⟩ := info_parts Tryz.infoU8
  have hst := laid_start n h0
  have hL := groups_four (n := n.toNat) (by omega)
  generalize hR : groups n.toNat = R at hst hL
  have HST := hide hst
  clear hst hR
  have a1 := and127 n
  go_enter Tryz.func104, Tryz.ntmps104
  go_wp2
  go_loopw [0, 3] (fun m v wr => ∃ (x : Int) (zs : List Int), 0 ≤ x ∧ x < 268435456 ∧ m = .int .i64 x ∧ Laid x zs R ∧ Byt zs ∧ 1 ≤ zs.length ∧ zs.length ≤ R.length ∧ wr.ownsRow w.heap.size 5 1 v zs.length (cB zs) ∧ Below w.heap.size w wr) (fun m _ _ => (intOf m).natAbs)
  case atStart => exact ⟨n, _, h0, h1, rfl, HST.out, byte_group _, by simp, by have := HST.out; unfold Laid at this; rw [← this]; simp, World.ownsRow_lit w #[.int .u8 (n % 128)] 1 (Nat.le_refl _) (by unfold maxLen; omega) rfl, (Below.refl _ _).alloc (Nat.le_refl _) _⟩
  case round =>
    obtain ⟨x, zs, hx1, hx2, rfl, hr, hby, hl1, hlen, how, hb⟩ := hrel
    clear a1
    obtain ⟨ao, cp, rfl, hrow⟩ := row_of_own how hby
    rcases hrow.cell with h0 | ⟨b, off, rfl, hc0⟩
    · omega
    by_cases hc : 127 < x
    · have hbw := hb.size
      have HG := hide (laid_step hr hc)
      have hlen2 : ((x / 128 % 128 + 128) :: zs).length ≤ R.length := by have := HG.out; unfold Laid at this; rw [← this]; simp
      have a1 := and127 (x / 128)
      have a2 := or128 (x / 128 % 128) (by omega)
      clear hr HST
      go_wp2_with (at_builtin; refine wpList_append_own _ rfl _ _ 22 rfl w.heap.size 5 i0 (.int .u8 0) 1 1 Tryz.underlying22 hi hz0 hz1 hz2 rfl (by decide) _ 1 _ rfl (World.ownsRow_lit wr #[_] 1 (by omega) (by unfold maxLen; omega) rfl) ⟨b, off, none⟩ zs.length cp (cB zs) rfl ?c0b ?c1b ?c2b ?c3b ?c4b ?c5b ?_)
      case c0b => rw [cB_length]; omega
      case c1b => exact fun j u hu => (hrow.below ((Below.refl _ _).alloc (Nat.le_refl _) _)).news _ rfl j u hu
      case c2b => exact cB_oneCell zs
      case c3b => unfold maxLen; omega
      case c4b => omega
      case c5b => simp; omega
      intro v1 w1 how1 hgr1 _
      have hb1 : Below w.heap.size w w1 := (hb.alloc hbw _).grown hgr1 (by simp; omega) (by intro k hk; cases hk; exact hbw)
      have how2 : w1.ownsRow w.heap.size 5 1 v1 ((x / 128 % 128 + 128) :: zs).length (cB ((x / 128 % 128 + 128) :: zs)) := by
        rw [List.length_cons, Nat.add_comm]; exact how1
      clear how1 hgr1 how hb hrow hc0
      go_wp2
      go_roundw
      case rel => exact ⟨x / 128, _, by omega, by omega, rfl, HG.out, gbyte_cons (by omega) hby, by simp, hlen2, how2, hb1⟩
      case measure => simp [intOf]; omega
    · have hz := laid_end hr hc
      subst hz
      clear hr HST
      go_wp2
      go_ret
      exact ⟨_, rfl, how, hb⟩

set_option maxRecDepth 100000 in
set_option maxHeartbeats 400000 in
theorem implGroup_any (n : Int) (w : World) (h0 : 0 ≤ n) (h1 : n < 268435456) : Calls Tryz.prog 93 #[.int .i64 n] w fun e w' => ∃ v, e = .returned v ∧
    w'.ownsRow w.heap.size 5 1 v (groups n.toNat).length (cB (groups n.toNat)) ∧ Below w.heap.size w w' := by
  have hst := laid_start n h0
  have hL := groups_four (n := n.toNat) (by omega)
  generalize hR : groups n.toNat = R at hst hL
  have HST := hide hst
  clear hst hR
  have a1 := and127 n
  go_enter Tryz.func93, Tryz.ntmps93
  go_wp2
  go_loopw [0, 3] (fun m v wr => ∃ (x : Int) (zs : List Int), 0 ≤ x ∧ x < 268435456 ∧ m = .int .i64 (x / 128) ∧ Laid x zs R ∧ Byt zs ∧ 1 ≤ zs.length ∧ zs.length ≤ R.length ∧ wr.ownsRow w.heap.size 5 1 v zs.length (cB zs) ∧ Below w.heap.size w wr) (fun m _ _ => (intOf m).natAbs)
  case atStart => exact ⟨n, _, h0, h1, rfl, HST.out, byte_group _, by simp, by have := HST.out; unfold Laid at this; rw [← this]; simp, World.ownsRow_lit w #[.int .u8 (n % 128)] 1 (Nat.le_refl _) (by unfold maxLen; omega) rfl, (Below.refl _ _).alloc (Nat.le_refl _) _⟩
  case round =>
    obtain ⟨x, zs, hx1, hx2, rfl, hr, hby, hl1, hlen, how, hb⟩ := hrel
    clear a1
    obtain ⟨ao, cp, rfl, hrow⟩ := row_of_own how hby
    by_cases hc : 127 < x
    · have hbw := hb.size
      have HG := hide (laid_step hr hc)
      have hlen2 : ((x / 128 % 128 + 128) :: zs).length ≤ R.length := by have := HG.out; unfold Laid at this; rw [← this]; simp
      have a1 := and127 (x / 128)
      have a2 := or128 (x / 128 % 128) (by omega)
      have hpos : 0 < x / 128 := by omega
      clear hr HST
      go_wp2_with fail
      refine (pieces_any _ _ _ [x / 128 % 128 + 128] _ _ _ [⟨ao, zs.length, cp, zs⟩] _ ?_ ?_ ?_).mono ?_
      · exact (grow_one wr _ (by omega)).below ((Below.refl _ _).alloc (Nat.le_refl _) _)
      · exact pieces_lit _ _ [⟨ao, zs.length, cp, zs⟩] 1 _ (by simp) rfl (by omega) (fun i hi => by obtain rfl : i = 0 := by omega
                                                                                                    exact hrow.below ((Below.refl _ _).alloc (Nat.le_refl _) _))
      · simp [tot]; omega
      rintro e w1 ⟨rfl, how1, hb1⟩
      have hbn : Below w.heap.size w w1 := ((hb.alloc hbw _).alloc (by simp; omega) _).trans (hb1.mono (by simp; omega))
      have how2 : w1.ownsRow w.heap.size 5 1 (.slice (some ⟨wr.heap.size + 1 + 1, 0, none⟩) (1 + zs.length) (1 + zs.length)) ((x / 128 % 128 + 128) :: zs).length (cB ((x / 128 % 128 + 128) :: zs)) := by
        have := own_lt how1 (base' := w.heap.size) (by simp; omega)
        simpa [tot, flat, Nat.add_comm] using this
      clear how1 hb1 how hb hrow
      go_wp2
      go_roundw
      case rel => exact ⟨x / 128, _, by omega, by omega, rfl, HG.out, gbyte_cons (by omega) hby, by simp, hlen2, how2, hbn⟩
      case measure => simp [intOf]; omega
    · have hz := laid_end hr hc
      subst hz
      have hpos : ¬ 0 < x / 128 := by omega
      clear hr HST
      go_wp2
      go_ret
      exact ⟨_, rfl, how, hb⟩

theorem groups_byt (n : Nat) : Byt (groups n) := groups_byte n

theorem specGroup_made (n : Int) (P : List Int) (hP : groups n.toNat = P) (w : World) (h0 : 0 ≤ n) (h1 : n < 268435456) : Calls Tryz.prog 104 #[.int .i64 n] w fun e w' => ∃ ao cap, e = .returned (.slice ao P.length cap) ∧
    w'.ownsRow w.heap.size 5 1 (.slice ao P.length cap) P.length (cB P) ∧ Row w' ao P.length cap P ∧ Below w.heap.size w w' := by
  subst hP
  refine (specGroup_any n w h0 h1).mono ?_
  rintro e w' ⟨v, rfl, ho, hb⟩
  obtain ⟨ao, cap, rfl, hr⟩ := row_of_own ho (groups_byt _)
  exact ⟨ao, cap, rfl, ho, hr, hb⟩

theorem implGroup_made (n : Int) (P : List Int) (hP : groups n.toNat = P) (w : World) (h0 : 0 ≤ n) (h1 : n < 268435456) : Calls Tryz.prog 93 #[.int .i64 n] w fun e w' => ∃ ao cap, e = .returned (.slice ao P.length cap) ∧
    w'.ownsRow w.heap.size 5 1 (.slice ao P.length cap) P.length (cB P) ∧ Row w' ao P.length cap P ∧ Below w.heap.size w w' := by
  subst hP
  refine (implGroup_any n w h0 h1).mono ?_
  rintro e w' ⟨v, rfl, ho, hb⟩
  obtain ⟨ao, cap, rfl, hr⟩ := row_of_own ho (groups_byt _)
  exact ⟨ao, cap, rfl, ho, hr, hb⟩

theorem flat_byte (o : List Int) : Byt (flatO o) := by
  intro z hz
  simp only [flatO, List.mem_flatten, List.mem_map] at hz
  obtain ⟨l, ⟨n, _, rfl⟩, h⟩ := hz
  exact groups_byte _ z h

theorem put_byte (o : List Int) : Byt (putO o) := by
  unfold putO
  split
  · exact flat_byte o
  · intro z hz; cases hz

theorem flat_length : ∀ (o : List Int), (∀ z ∈ o, 0 ≤ z ∧ z ≤ 100000) → (flatO o).length ≤ 3 * o.length
  | [], _ => by simp [flatO]
  | z :: o, h => by
    rw [flat_cons, List.length_append]
    have h1 := flat_length o (fun y hy => h y (List.mem_cons_of_mem _ hy))
    have h2 := h z (by simp)
    have h3 := groups_short (n := z.toNat) (by omega)
    simp only [List.length_cons]
    omega

theorem put_length (o : List Int) : (putO o).length ≤ 30 := by
  unfold putO
  split
  · rename_i h
    obtain ⟨h1, h2, h3⟩ := ok_all h
    have := flat_length o h1
    omega
  · simp

theorem flat_take {o : List Int} {k : Nat} (h : k < o.length) : flatO (o.take (k + 1)) = flatO (o.take k) ++ groups (o.getD k 0).toNat := by
  rw [take_succ_getD _ _ h, flat_snoc]

theorem flat_take_length {o : List Int} (h : ∀ z ∈ o, 0 ≤ z ∧ z ≤ 100000) (hl : o.length ≤ 10) (k : Nat) : (flatO (o.take k)).length ≤ 30 := by
  have := flat_length (o.take k) (fun z hz => h z (List.mem_of_mem_take hz))
  have : (o.take k).length ≤ 10 := by simp; omega
  omega

theorem getD_mem {o : List Int} {k : Nat} (h : k < o.length) : o.getD k 0 ∈ o := by
  rw [List.getD_eq_getElem?_getD, List.getElem?_eq_getElem h]; exact List.getElem_mem h

set_option maxRecDepth 100000 in
set_option maxHeartbeats 1000000 in
theorem specPut_any (a1 : Option Addr) (l1 c1 : Nat) (z1 P : List Int) (hP : putO z1 = P) (w : World) (h1 : IRow w a1 l1 c1 z1) :
    Calls Tryz.prog 95 #[.slice a1 l1 c1] w fun e w' => ∃ v, e = .returned v ∧ w'.ownsRow w.heap.size 5 1 v P.length (cB P) ∧ Below w.heap.size w w' := by
  have s1 := h1.size
  by_cases hok : oidOk z1 = true
  · obtain ⟨hz, hl1, hl2⟩ := ok_all hok
    rw [put_ok hok] at hP
    have HP := hide hP
    have hft := flat_take_length hz hl2
    clear hP
    have hcell := h1.cell
    have hrow := h1.below ((Below.refl _ _).alloc (Nat.le_refl w.heap.size) (.cells #[] 5))
    have HOK := hide hok
    clear hok
    go_enter Tryz.func95, Tryz.ntmps95
    go_wp2_with fail
    refine (specOk_any _ _ _ z1 _ hrow).mono ?_
    rintro e w1 ⟨rfl, rfl⟩
    rw [HOK.out]
    have HZ := hide hz
    have HFT := hide hft
    clear hz hft hrow
    go_wp2
    go_loopw [3, 4] (fun v i wr => ∃ k : Nat, k ≤ l1 ∧ i = .int .i64 k ∧ wr.ownsRow w.heap.size 5 1 v (flatO (z1.take k)).length (cB (flatO (z1.take k))) ∧ Below w.heap.size w wr) (fun _ i _ => l1 - (intOf i).toNat)
    case atStart => exact ⟨0, Nat.zero_le _, rfl, World.ownsRow_lit w #[] 0 (Nat.le_refl _) (Nat.zero_le _) rfl, (Below.refl _ _).alloc (Nat.le_refl _) _⟩
    case round =>
      obtain ⟨k, hk, rfl, how, hb⟩ := hrel
      have hby := flat_byte (z1.take k)
      by_cases hlt : k < l1
      · obtain ⟨ao, cp, rfl, hrow⟩ := row_of_own how hby
        rcases hcell with h0 | ⟨b, off, rfl, hc⟩
        · omega
        have cx : wr.cell? ⟨b, off + k, none⟩ = some (.int .i64 (z1.getD k 0)) := by rw [hb.cell (block_lt (hc k hlt))]; exact hc k hlt
        have hx := HZ.out (z1.getD k 0) (getD_mem (by omega))
        have hf := flat_take (o := z1) (k := k) (by omega)
        have hlen := HFT.out k
        have hbw := hb.size
        clear hc
        generalize z1.getD k 0 = x at cx hx hf
        generalize hG : groups x.toNat = G at hf
        have HG := hide hG
        have hg3 := groups_short (n := x.toNat) (by omega)
        rw [hG] at hg3
        generalize flatO (z1.take k) = F at how hrow hby hlen hf
        have HF := hide hf
        clear hG hf
        go_wp2_with fail
        refine (specGroup_made x G HG.out _ (by omega) (by omega)).mono ?_
        rintro e w2 ⟨ao2, cp2, rfl, -, r2, hb2⟩
        have hs2 := hb2.size
        have how2 := own_below how hb2
        go_wp2_with (at_builtin; refine wpList_append_row _ rfl _ _ 22 rfl w.heap.size Tryz.underlying22 Tryz.infoU8 _ F.length F rfl how2 hby ao2 G.length cp2 G rfl r2 (by omega) (by omega) ?_)
        intro ao3 cp3 w3 how3 r3 hb3
        have hbn : Below w.heap.size w w3 := (hb.trans (hb2.mono hbw)).trans hb3
        have how4 : w3.ownsRow w.heap.size 5 1 (.slice ao3 (F.length + G.length) cp3) (flatO (z1.take (k + 1))).length (cB (flatO (z1.take (k + 1)))) := by
          rw [HF.out, List.length_append]; exact how3
        clear how how2 how3 r3 hb hb2 hb3 hrow r2
        go_wp2
        go_roundw
        case rel => exact ⟨k + 1, by omega, by go_num, how4, hbn⟩
        case measure => simp [intOf]; omega
      · have hk' : k = l1 := by omega
        have he : flatO (z1.take k) = P := by rw [hk', ← s1, List.take_length]; exact HP.out
        rw [he] at how hby
        obtain ⟨ao, cp, rfl, hrow⟩ := row_of_own how hby
        clear he
        go_wp2
        go_ret
        exact ⟨_, rfl, how, hb⟩
  · have hP0 : P = [] := by rw [← hP]; simp [putO, hok]
    subst hP0
    clear hP
    have hok' : oidOk z1 = false := by simpa using hok
    have HOK := hide hok'
    clear hok hok'
    have hrow := h1.below ((Below.refl _ _).alloc (Nat.le_refl w.heap.size) (.cells #[] 5))
    go_enter Tryz.func95, Tryz.ntmps95
    go_wp2_with fail
    refine (specOk_any _ _ _ z1 _ hrow).mono ?_
    rintro e w1 ⟨rfl, rfl⟩
    rw [HOK.out]
    go_wp2
    go_ret
    exact ⟨_, rfl, World.ownsRow_lit w #[] 0 (Nat.le_refl _) (Nat.zero_le _) rfl, (Below.refl _ _).alloc (Nat.le_refl _) _⟩

theorem Row.grown {w w' : World} {ao : Option Addr} {len cap : Nat} {zs : List Int} {g : Nat} (h : Row w ao len cap zs) (hne : ∀ a, ao = some a → a.block ≠ g) (hg : w.grownBy w' (some g)) : Row w' ao len cap zs where
  size := h.size
  le := h.le
  top := h.top
  nil := h.nil
  byte := h.byte
  cell := by
    rcases h.cell with h0 | ⟨b, off, rfl, hc⟩
    · exact .inl h0
    · refine .inr ⟨b, off, rfl, fun i hi => ?_⟩
      have h1 := hc i hi
      have h2 := block_lt h1
      have h3 := hg.block b h2 (by intro e; exact hne _ rfl (by simpa using e))
      rw [← h1]
      unfold World.cell?
      simp only [h3]

theorem Tryz.infoSl : (Tryz.prog.info? 22).map (fun i => (i.zero, i.size, i.bytes)) = some (some (.slice none 0 0), 1, 24) := by kernel_rfl

/-- The pieces of a name on their way. -/
structure Part (w wr : World) (o : List Int) (k : Nat) (ps : List Piece) : Prop where
  size : ps.length = k
  own : wr.ownsRow w.heap.size 22 1 (.slice (some ⟨w.heap.size, 0, none⟩) k o.length) k (ps.map fun p => Value.slice p.ao p.len p.cap)
  row : ∀ i, i < k → Row wr (ps.getD i noPiece).ao (ps.getD i noPiece).len (ps.getD i noPiece).cap (ps.getD i noPiece).zs
  far : ∀ i, i < k → ∀ a, (ps.getD i noPiece).ao = some a → a.block ≠ w.heap.size
  is : ps.map Piece.zs = (o.take k).map fun z => groups z.toNat
  len : ∀ p ∈ ps, p.len = p.zs.length

theorem part_flat {w wr : World} {o : List Int} {k : Nat} {ps : List Piece} (h : Part w wr o k ps) (hk : k = o.length) : flat ps k = flatO o ∧ tot ps k = (flatO o).length := by
  have hl : ps.take k = ps := by rw [← h.size, List.take_length]
  have hf : flat ps k = flatO o := by
    unfold flat flatO
    rw [hl, h.is, hk, List.take_length]
  refine ⟨hf, ?_⟩
  rw [← hf]
  unfold tot flat
  rw [hl, List.length_flatten, List.map_map]
  congr 1
  apply List.map_congr_left
  intro p hp
  exact h.len p hp

theorem part_pieces {w wr : World} {o : List Int} {k : Nat} {ps : List Piece} (h : Part w wr o k ps) (hs : k ≤ 1000) : Pieces wr (some ⟨w.heap.size, 0, none⟩) k o.length ps where
  size := h.size
  small := hs
  cell := .inr ⟨w.heap.size, 0, rfl, fun i hi => by
    rw [Nat.zero_add, h.own.cellAt i (by omega)]
    have : i < ps.length := by rw [h.size]; exact hi
    simp [this]⟩
  row := h.row

theorem getD_snoc (ps : List Piece) (p : Piece) (i : Nat) (h : i < ps.length) : (ps ++ [p]).getD i noPiece = ps.getD i noPiece := by
  simp [List.getD_eq_getElem?_getD, List.getElem?_append_left h]
theorem getD_last (ps : List Piece) (p : Piece) : (ps ++ [p]).getD ps.length noPiece = p := by
  simp [List.getD_eq_getElem?_getD]

theorem Part.more {w wr w2 w3 : World} {o : List Int} {k : Nat} {ps : List Piece} {p : Piece} (h : Part w wr o k ps) (hk : k < o.length) (hb : Below wr.heap.size wr w2) (hg : w2.grownBy w3 (some w.heap.size))
    (how : w3.ownsRow w.heap.size 22 1 (.slice (some ⟨w.heap.size, 0, none⟩) (k + 1) o.length) (k + 1) ((ps.map fun p => Value.slice p.ao p.len p.cap) ++ [.slice p.ao p.len p.cap]))
    (hr : Row w2 p.ao p.len p.cap p.zs) (hf : ∀ a, p.ao = some a → a.block ≠ w.heap.size) (hz : p.zs = groups (o.getD k 0).toNat) : Part w w3 o (k + 1) (ps ++ [p]) where
  size := by simp [h.size]
  own := by simpa using how
  row := by
    intro i hi
    by_cases hik : i < k
    · rw [getD_snoc _ _ _ (by rw [h.size]; exact hik)]
      exact ((h.row i hik).below hb).grown (h.far i hik) hg
    · obtain rfl : i = ps.length := by rw [h.size]; omega
      rw [getD_last]
      exact hr.grown hf hg
  far := by
    intro i hi
    by_cases hik : i < k
    · rw [getD_snoc _ _ _ (by rw [h.size]; exact hik)]
      exact h.far i hik
    · obtain rfl : i = ps.length := by rw [h.size]; omega
      rw [getD_last]
      exact hf
  is := by rw [List.map_append, h.is, take_succ_getD _ _ hk, List.map_append]; simp [hz]
  len := by
    intro q hq
    rcases List.mem_append.1 hq with h1 | h1
    · exact h.len q h1
    · simp at h1
      subst h1
      exact hr.size.symm

set_option maxRecDepth 100000 in
set_option maxHeartbeats 1000000 in
theorem implPut_any (a1 : Option Addr) (l1 c1 : Nat) (z1 P : List Int) (hP : putO z1 = P) (w : World) (h1 : IRow w a1 l1 c1 z1) :
    Calls Tryz.prog 69 #[.slice a1 l1 c1] w fun e w' => ∃ v, e = .returned v ∧ w'.ownsRow w.heap.size 5 1 v P.length (cB P) ∧ Below w.heap.size w w' := by
  have s1 := h1.size
  obtain ⟨i0, hi, hz0, hz1, hz2⟩ := info_parts Tryz.infoSl
  by_cases hok : oidOk z1 = true
  · obtain ⟨hz, hl1, hl2⟩ := ok_all hok
    have hpl := put_length z1
    rw [hP] at hpl
    rw [put_ok hok] at hP
    have HP := hide hP
    clear hP
    have hcell := h1.cell
    have HOK := hide hok
    clear hok
    go_enter Tryz.func69, Tryz.ntmps69
    go_wp2_with fail
    refine (implOk_any _ _ _ z1 _ h1).mono ?_
    rintro e w1 ⟨rfl, rfl⟩
    rw [HOK.out]
    have HZ := hide hz
    clear hz
    go_wp2_with (at_make; refine wpList_make_own _ rfl _ _ 83 rfl w1.heap.size 22 i0 (.slice none 0 0) 1 Tryz.underlying83 hi hz0 hz1 .i64 .i64 _ l1 rfl rfl rfl ?c1 ?c2 ?c3 ?_)
    case c1 => rw [hz2]; omega
    case c2 => unfold maxLen; omega
    case c3 => exact Nat.le_refl _
    intro w2 how2 hgr2
    have hb2 : Below w1.heap.size w1 w2 := (Below.refl _ _).grown hgr2 (Nat.le_refl _) (by intro k hk; cases hk)
    have hp2 : Part w1 w2 z1 0 [] := ⟨rfl, by rw [s1]; exact how2, (by intro i hi; omega), (by intro i hi; omega), rfl, (by intro p hp; cases hp)⟩
    have hsz : w1.heap.size < w2.heap.size := (how2.lt _ rfl).2
    clear how2 hgr2
    go_wp2
    go_loopw [3, 14] (fun v i wr => ∃ (k : Nat) (ps : List Piece), k ≤ l1 ∧ i = .int .i64 k ∧ v = .slice (some ⟨w1.heap.size, 0, none⟩) k l1 ∧ Part w1 wr z1 k ps ∧ Below w1.heap.size w1 wr ∧ w1.heap.size < wr.heap.size) (fun _ i _ => l1 - (intOf i).toNat)
    case atStart => exact ⟨0, [], Nat.zero_le _, rfl, rfl, hp2, hb2, hsz⟩
    case round =>
      obtain ⟨k, ps, hk, rfl, rfl, hp, hb, hsz⟩ := hrel
      clear hp2 hb2
      by_cases hlt : k < l1
      · rcases hcell with h0 | ⟨b, off, rfl, hc⟩
        · omega
        have cx : wr.cell? ⟨b, off + k, none⟩ = some (.int .i64 (z1.getD k 0)) := by rw [hb.cell (block_lt (hc k hlt))]; exact hc k hlt
        have hx := HZ.out (z1.getD k 0) (getD_mem (by omega))
        have hbw := hb.size
        clear hc
        generalize hxx : z1.getD k 0 = x at cx hx
        have HX := hide hxx
        generalize hG : groups x.toNat = G
        have HG := hide hG
        have hg1 : 1 ≤ G.length := by rw [← hG]; simp [groups]
        have hg3 := groups_short (n := x.toNat) (by omega)
        rw [hG] at hg3
        clear hG hxx
        go_wp2_with fail
        refine (implGroup_made x G HG.out _ (by omega) (by omega)).mono ?_
        rintro e w3 ⟨ao3, cp3, rfl, ho3, r3, hb3⟩
        have hs3 := hb3.size
        have how3 := own_below hp.own hb3
        rw [s1] at how3
        have how4 := how3.alloc (.cells #[.slice ao3 G.length cp3] 22)
        have hfar : ∀ a, ao3 = some a → a.block ≠ w1.heap.size := by
          intro a ha
          subst ha
          have := (ho3.lt a.block rfl).1
          omega
        go_wp2_with (at_builtin; refine wpList_append_fits_any _ rfl _ _ 83 rfl w1.heap.size 22 i0 1 Tryz.underlying83 hi hz1 w1.heap.size k l1 _ rfl how4 (some ⟨w3.heap.size, 0, none⟩) 1 1 [.slice ao3 G.length cp3] rfl rfl ?e2 ?e3 ?e4 ?e5 ?_)
        case e2 => intro h; cases h
        case e3 => intro ad ha j u hu; cases ha; cases j with
          | zero => simp at hu; subst hu; simp [Addr.add]
          | succ j => simp at hu
        case e4 => intro u hu; simp at hu; subst hu; rfl
        case e5 => omega
        intro w4 how5 hgr5
        rw [← s1] at how5
        have hp4 : Part w1 w4 z1 (k + 1) (ps ++ [⟨ao3, G.length, cp3, G⟩]) :=
          hp.more (by omega) (hb3.trans ((Below.refl _ _).alloc hs3 _)) hgr5 how5 (r3.below ((Below.refl _ _).alloc (Nat.le_refl _) _)) hfar (by rw [HX.out]; exact HG.out.symm)
        have hb4 : Below w1.heap.size w1 w4 := ((hb.trans (hb3.mono hbw)).alloc (by omega) _).grown hgr5 (by simp; omega) (by intro j hj; cases hj; exact Nat.le_refl _)
        have hsz4 : w1.heap.size < w4.heap.size := by have := hgr5.size; simp at this; omega
        clear how3 how4 how5 hgr5 hb3 r3 ho3 hp hb
        go_wp2
        go_roundw
        case rel => exact ⟨k + 1, _, by omega, by go_num, rfl, hp4, hb4, hsz4⟩
        case measure => simp [intOf]; omega
      · obtain rfl : k = l1 := by omega
        obtain ⟨hf1, hf2⟩ := part_flat hp s1.symm
        rw [HP.out] at hf1 hf2
        have hpp := part_pieces hp (by omega)
        rw [s1] at hpp
        have HF1 := hide hf1
        have HF2 := hide hf2
        clear hf1 hf2 hp
        go_wp2_with fail
        refine (pieces_any none 0 0 [] _ _ _ ps _ (row_nil _) hpp (by rw [HF2.out]; omega)).mono ?_
        rintro e w3 ⟨rfl, how3, hb3⟩
        rw [HF1.out, HF2.out, Nat.zero_add, List.nil_append] at how3
        have hbw := hb.size
        have hbn := hb.trans (hb3.mono hbw)
        go_wp2
        go_ret
        exact ⟨_, rfl, by rw [HF2.out]; exact own_lt how3 hbw, hbn⟩
  · have hP0 : P = [] := by rw [← hP]; simp [putO, hok]
    subst hP0
    clear hP
    have hok' : oidOk z1 = false := by simpa using hok
    have HOK := hide hok'
    clear hok hok'
    go_enter Tryz.func69, Tryz.ntmps69
    go_wp2_with fail
    refine (implOk_any _ _ _ z1 _ h1).mono ?_
    rintro e w1 ⟨rfl, rfl⟩
    rw [HOK.out]
    go_wp2
    go_ret
    exact ⟨_, rfl, World.ownsRow_nil _ _ _ _, Below.refl _ _⟩

theorem specPut_made (a1 : Option Addr) (l1 c1 : Nat) (z1 P : List Int) (hP : putO z1 = P) (w : World) (h1 : IRow w a1 l1 c1 z1) :
    Calls Tryz.prog 95 #[.slice a1 l1 c1] w fun e w' => ∃ ao cap, e = .returned (.slice ao P.length cap) ∧
      w'.ownsRow w.heap.size 5 1 (.slice ao P.length cap) P.length (cB P) ∧ Row w' ao P.length cap P ∧ Below w.heap.size w w' := by
  refine (specPut_any a1 l1 c1 z1 P hP w h1).mono ?_
  rintro e w' ⟨v, rfl, ho, hb⟩
  obtain ⟨ao, cap, rfl, hr⟩ := row_of_own ho (by rw [← hP]; exact put_byte _)
  exact ⟨ao, cap, rfl, ho, hr, hb⟩

theorem implPut_made (a1 : Option Addr) (l1 c1 : Nat) (z1 P : List Int) (hP : putO z1 = P) (w : World) (h1 : IRow w a1 l1 c1 z1) :
    Calls Tryz.prog 69 #[.slice a1 l1 c1] w fun e w' => ∃ ao cap, e = .returned (.slice ao P.length cap) ∧
      w'.ownsRow w.heap.size 5 1 (.slice ao P.length cap) P.length (cB P) ∧ Row w' ao P.length cap P ∧ Below w.heap.size w w' := by
  refine (implPut_any a1 l1 c1 z1 P hP w h1).mono ?_
  rintro e w' ⟨v, rfl, ho, hb⟩
  obtain ⟨ao, cap, rfl, hr⟩ := row_of_own ho (by rw [← hP]; exact put_byte _)
  exact ⟨ao, cap, rfl, ho, hr, hb⟩

end Go.Proofs.YtamglfhnhjgdjaaGreatDoor
