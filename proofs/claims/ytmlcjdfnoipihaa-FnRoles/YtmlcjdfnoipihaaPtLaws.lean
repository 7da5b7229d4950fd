/-
  What holds of the best vector and of roles, as plain mathematics: the best is a port's offer, none that is offered is less; which port is for the root; the bits of the ports that send.
-/
import Derived.Test.YtmlcjdfnoipihaaPtMem
import Derived.Test.YtmlcjdfnoipihaaVtabMath
namespace Go.Proofs.Ytmlcjdfnoipihaa
open Go.RowKit

theorem lessV_trans {x y f : VD} (h1 : lessV y f = true) (h2 : lessV x f = false) : lessV x y = false := by
  unfold lessV lessVc at *
  simp only [bne_iff_ne, ne_eq, ite_not] at *
  repeat' split at h1
  all_goals repeat' split at h2
  all_goals repeat' split
  all_goals simp at *
  all_goals omega

theorem lessV_self (x : VD) : lessV x x = false := by
  unfold lessV lessVc
  simp

/-- The best is what its port offers. -/
theorem best_is {id : Int} {l : List PT} : ∀ {k : Nat} {f : VD} {j : Nat}, bestTo id l k = some (f, j) → ∃ x, l[j]? = some x ∧ offers id x = true ∧ f = stepV x.v x.k
  | 0, f, j, h => by simp [bestTo] at h
  | k + 1, f, j, h => by
    rw [bestTo] at h
    cases hx : l[k]? with
    | none => rw [hx] at h; exact best_is (k := k) h
    | some x =>
      rw [hx] at h
      simp only [bestStep] at h
      by_cases ho : offers id x = true
      · rw [if_pos ho] at h
        cases hs : bestTo id l k with
        | none =>
          rw [hs] at h
          simp at h
          obtain ⟨rfl, rfl⟩ := h
          exact ⟨x, hx, ho, rfl⟩
        | some s =>
          obtain ⟨g, i⟩ := s
          rw [hs] at h
          simp only at h
          split at h
          · simp at h
            obtain ⟨rfl, rfl⟩ := h
            exact ⟨x, hx, ho, rfl⟩
          · simp at h
            obtain ⟨rfl, rfl⟩ := h
            exact best_is hs
      · rw [if_neg ho] at h
        exact best_is h

/-- None that is offered is less. -/
theorem best_least {id : Int} {l : List PT} : ∀ {k i : Nat} {x : PT}, i < k → l[i]? = some x → offers id x = true → ∃ f j, bestTo id l k = some (f, j) ∧ lessV (stepV x.v x.k) f = false
  | 0, i, x, h, _, _ => by omega
  | k + 1, i, x, h, hx, ho => by
    by_cases hik : i = k
    · subst hik
      rw [bestTo_next hx]
      unfold bestStep
      rw [if_pos ho]
      cases hs : bestTo id l i with
      | none => exact ⟨_, _, rfl, lessV_self _⟩
      | some s =>
        obtain ⟨g, j⟩ := s
        simp only
        cases hl : lessV (stepV x.v x.k) g
        · exact ⟨g, j, by simp, hl⟩
        · exact ⟨_, i, by simp, lessV_self _⟩
    · obtain ⟨f, j, hf, hle⟩ := best_least (k := k) (i := i) (by omega) hx ho
      rw [bestTo]
      cases hy : l[k]? with
      | none => exact ⟨f, j, hf, hle⟩
      | some y =>
        simp only [bestStep]
        by_cases hoy : offers id y = true
        · rw [if_pos hoy, hf]
          simp only
          cases hl : lessV (stepV y.v y.k) f
          · exact ⟨f, j, by simp, hle⟩
          · exact ⟨_, k, by simp, lessV_trans hl hle⟩
        · rw [if_neg hoy]
          exact ⟨f, j, hf, hle⟩

theorem offers_parts {id : Int} {x : PT} (h : offers id x = true) : x.up = true ∧ x.has = true ∧ stepsV x.v x.k = true ∧ x.v.r < id := by
  unfold offers at h
  simp only [Bool.and_eq_true, decide_eq_true_eq] at h
  exact h

theorem lessV_not {x f : VD} (h : lessV x f = false) : f.r < x.r ∨ (f.r = x.r ∧ f.c ≤ x.c) := by
  unfold lessV lessVc at h
  simp only [bne_iff_ne, ne_eq, ite_not] at h
  repeat' split at h
  all_goals simp at h
  all_goals omega

/-- What is offered is never ahead of the best. -/
theorem best_behind {id : Int} {l : List PT} {i : Nat} {x : PT} (hx : l[i]? = some x) (hu : x.up = true) (hh : x.has = true) (hs : stepsV x.v x.k = true) :
    ¬ ((stepV x.v x.k).r < (bestV id (bestOf id l)).r ∨ ((stepV x.v x.k).r = (bestV id (bestOf id l)).r ∧ (stepV x.v x.k).c < (bestV id (bestOf id l)).c ∧ (stepV x.v x.k).r < id)) := by
  intro hbad
  have hle : (bestV id (bestOf id l)).r ≤ id := by
    cases hb : bestOf id l with
    | none => exact Int.le_refl id
    | some s =>
      obtain ⟨f, j⟩ := s
      obtain ⟨y, -, ho, rfl⟩ := best_is hb
      have := (offers_parts ho).2.2.2
      simp only [bestV, stepV]
      omega
  have hr : x.v.r < id := by simp only [stepV] at hbad; omega
  have ho : offers id x = true := by
    unfold offers
    rw [hu, hh, hs]
    simp [hr]
  obtain ⟨f, j, hf, hl⟩ := best_least (k := l.length) (List.getElem?_eq_some_iff.1 hx).1 hx ho
  have hb : bestOf id l = some (f, j) := hf
  rw [hb] at hbad
  simp only [bestV] at hbad
  have := lessV_not hl
  omega

theorem best_root {id : Int} {l : List PT} : (bestV id (bestOf id l)).b = id ∧ (bestV id (bestOf id l)).r ≤ id ∧ ((bestV id (bestOf id l)).r = id ↔ bestP (bestOf id l) = -1) ∧ -1 ≤ bestP (bestOf id l) ∧ bestP (bestOf id l) < l.length := by
  cases hb : bestOf id l with
  | none => simp [bestV, bestP]; omega
  | some s =>
    obtain ⟨f, j⟩ := s
    obtain ⟨y, hy, ho, rfl⟩ := best_is hb
    have h1 := (offers_parts ho).2.2.2
    have h2 := (List.getElem?_eq_some_iff.1 hy).1
    simp only [bestV, bestP, stepV]
    refine ⟨trivial, by omega, ⟨fun h => by omega, fun h => by omega⟩, by omega, by omega⟩

/-- A port is for the root just if it is the best one's. -/
theorem role_root {id : Int} {l : List PT} {i : Nat} {x : PT} (hx : l[i]? = some x) : roleOf id l (i : Int) = 1 ↔ bestP (bestOf id l) = (i : Int) := by
  have hi := (List.getElem?_eq_some_iff.1 hx).1
  have e : roleOf id l (i : Int) = roleAt id l i x := by
    unfold roleOf
    rw [if_pos (by simp; omega)]
    simp [hx]
  rw [e]
  unfold roleAt
  constructor
  · intro h
    split at h
    · omega
    · split at h
      · assumption
      · split at h <;> omega
  · intro h
    have hu : x.up = true := by
      cases hb : bestOf id l with
      | none => rw [hb] at h; simp [bestP] at h
      | some s =>
        obtain ⟨f, j⟩ := s
        rw [hb] at h
        simp only [bestP] at h
        have hj : j = i := by omega
        subst hj
        obtain ⟨y, hy, ho, -⟩ := best_is hb
        rw [hx] at hy
        cases hy
        exact (offers_parts ho).1
    rw [if_neg (by rw [hu]; decide), if_pos h]

theorem role_down {id : Int} {l : List PT} {i : Nat} {x : PT} (hx : l[i]? = some x) : roleOf id l (i : Int) = 4 ↔ x.up = false := by
  have hi := (List.getElem?_eq_some_iff.1 hx).1
  have e : roleOf id l (i : Int) = roleAt id l i x := by
    unfold roleOf
    rw [if_pos (by simp; omega)]
    simp [hx]
  rw [e]
  unfold roleAt
  constructor
  · intro h
    split at h
    · assumption
    · split at h
      · omega
      · split at h <;> omega
  · intro h
    rw [if_pos h]

theorem role_one {id : Int} {l : List PT} (port : Int) : 1 ≤ roleOf id l port ∧ roleOf id l port ≤ 4 := by
  unfold roleOf
  split
  · split
    · unfold roleAt
      repeat' split
      all_goals omega
    · omega
  · omega

/-- The bits of those that are so. -/
def sendsB (f : Nat → Bool) : Nat → Int
  | 0 => 0
  | k + 1 => if f k = true then bits .or .i64 (sendsB f k) (2 ^ k) else sendsB f k

theorem sends_is (id : Int) (l : List PT) : ∀ k, sendsTo id l k = sendsB (fun i => decide (roleOf id l (i : Int) ≤ 2)) k
  | 0 => rfl
  | k + 1 => by
    rw [sendsTo, sendsB, sends_is id l k]
    simp

theorem sendsB_cut (f g : Nat → Bool) : ∀ k, (∀ i, i < k → f i = g i) → sendsB f k = sendsB g k
  | 0, _ => rfl
  | k + 1, h => by
    rw [sendsB, sendsB, sendsB_cut f g k (fun i hi => h i (by omega)), h k (by omega)]

/-- Six ports, each of which sends or not: which bits there are. -/
def six (b0 b1 b2 b3 b4 b5 : Bool) : Nat → Bool
  | 0 => b0
  | 1 => b1
  | 2 => b2
  | 3 => b3
  | 4 => b4
  | _ => b5

theorem six_bits : ∀ b0 b1 b2 b3 b4 b5 : Bool, ∀ n : Fin 7, ∀ i : Fin 6, bitOf (sendsB (six b0 b1 b2 b3 b4 b5) n.val) (i.val : Int) = (decide (i.val < n.val) && six b0 b1 b2 b3 b4 b5 i.val) := by
  decide +kernel

theorem sendsB_bit (f : Nat → Bool) (n i : Nat) (hn : n ≤ 6) (hi : i < n) : bitOf (sendsB f n) (i : Int) = f i := by
  have h := six_bits (f 0) (f 1) (f 2) (f 3) (f 4) (f 5) ⟨n, by omega⟩ ⟨i, by omega⟩
  have e : ∀ j, j < 6 → f j = six (f 0) (f 1) (f 2) (f 3) (f 4) (f 5) j := by
    intro j hj
    rcases (show j = 0 ∨ j = 1 ∨ j = 2 ∨ j = 3 ∨ j = 4 ∨ j = 5 by omega) with rfl | rfl | rfl | rfl | rfl | rfl <;> rfl
  rw [sendsB_cut f _ n (fun j hj => e j (by omega)), e i (by omega)]
  simpa [hi] using h

/-- A port's bit is there just if it sends. -/
theorem sends_bit (id : Int) (l : List PT) (i : Nat) (hi : i < l.length) (h6 : i < 6) : bitOf (sendsOf id l) (i : Int) = decide (roleOf id l (i : Int) ≤ 2) := by
  unfold sendsOf
  rw [sends_is, sendsB_bit _ _ i (by omega) (by omega)]

end Go.Proofs.Ytmlcjdfnoipihaa
