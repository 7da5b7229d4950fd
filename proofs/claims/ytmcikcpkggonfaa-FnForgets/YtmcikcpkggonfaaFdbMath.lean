/-
  Who is where, as plain lists: which are right, who is found, learned, grown old, flushed, set and dropped, who is next; and what the laws say of these.
-/
import Derived.Test.YtmcikcpkggonfaaBase
namespace Go.Proofs.Ytmcikcpkggonfaa
open Go.RowKit

/-- One entry: network, who, port, how old, static. -/
structure FE where
  t : Int
  m : Int
  p : Int
  a : Int
  s : Bool

def entOk (e : FE) : Bool :=
  (decide (1 ≤ e.t) && decide (e.t ≤ 99)) && ((decide (1 ≤ e.m) && decide (e.m ≤ 9999)) && ((decide (0 ≤ e.p) && decide (e.p ≤ 7)) && ((decide (0 ≤ e.a) && decide (e.a ≤ 4)) && (!e.s || (e.a == 0)))))

theorem entOk_iff (e : FE) : entOk e = true ↔ (1 ≤ e.t ∧ e.t ≤ 99) ∧ (1 ≤ e.m ∧ e.m ≤ 9999) ∧ (0 ≤ e.p ∧ e.p ≤ 7) ∧ (0 ≤ e.a ∧ e.a ≤ 4) ∧ (e.s = true → e.a = 0) := by
  unfold entOk
  cases e.s <;> simp

/-- Does an entry stand ahead of a network and a who? -/
def ahead (e : FE) (t m : Int) : Bool := if (e.t != t) = true then decide (e.t < t) else decide (e.m < m)

/-- Is it the entry of both? -/
def both (e : FE) (t m : Int) : Bool := (e.t == t) && (e.m == m)

theorem both_iff {e : FE} {t m : Int} : both e t m = true ↔ e.t = t ∧ e.m = m := by simp [both]
theorem both_not {e : FE} {t m : Int} : both e t m = false ↔ ¬ (e.t = t ∧ e.m = m) := by
  rw [← both_iff]; simp

theorem ahead_iff {e : FE} {t m : Int} : ahead e t m = true ↔ e.t < t ∨ (e.t = t ∧ e.m < m) := by
  unfold ahead
  by_cases h : e.t = t
  · simp [h]
  · simp [h]
theorem ahead_not {e : FE} {t m : Int} : ahead e t m = false ↔ ¬ (e.t < t ∨ (e.t = t ∧ e.m < m)) := by
  rw [← ahead_iff]; simp

/-- The rising of entries, one behind the other. -/
def rises : List FE → Bool
  | [] => true
  | [e] => entOk e
  | e :: f :: r => entOk e && (ahead e f.t f.m && rises (f :: r))

def fdbOk (l : List FE) : Bool := rises l && decide ((l.length : Int) ≤ 12)

/-- Each is right, and each stands ahead of all behind it. -/
def Sorted (l : List FE) : Prop := (∀ e ∈ l, entOk e = true) ∧ l.Pairwise (fun e f => ahead e f.t f.m = true)

theorem ahead_trans {e f g : FE} (h1 : ahead e f.t f.m = true) (h2 : ahead f g.t g.m = true) : ahead e g.t g.m = true := by
  rw [ahead_iff] at *
  omega

theorem rises_sorted : ∀ (l : List FE), rises l = true ↔ Sorted l
  | [] => by simp [rises, Sorted]
  | [e] => by simp [rises, Sorted]
  | e :: f :: r => by
    have ih := rises_sorted (f :: r)
    unfold rises
    simp only [Bool.and_eq_true, ih]
    constructor
    · rintro ⟨h1, h2, h3, h4⟩
      refine ⟨?_, ?_⟩
      · intro x hx
        rcases List.mem_cons.1 hx with rfl | hx
        · exact h1
        · exact h3 x hx
      · refine List.pairwise_cons.2 ⟨?_, h4⟩
        intro x hx
        rcases List.mem_cons.1 hx with rfl | hx
        · exact h2
        · exact ahead_trans h2 ((List.pairwise_cons.1 h4).1 x hx)
    · rintro ⟨h1, h2⟩
      obtain ⟨h3, h4⟩ := List.pairwise_cons.1 h2
      exact ⟨h1 e (by simp), h3 f (by simp), fun x hx => h1 x (List.mem_cons_of_mem _ hx), h4⟩

theorem fdbOk_iff (l : List FE) : fdbOk l = true ↔ Sorted l ∧ l.length ≤ 12 := by
  unfold fdbOk
  rw [Bool.and_eq_true, rises_sorted, decide_eq_true_eq]
  constructor <;> rintro ⟨h1, h2⟩ <;> exact ⟨h1, by omega⟩

theorem sorted_nil : Sorted [] := ⟨by simp, List.Pairwise.nil⟩

theorem sorted_tail {e : FE} {l : List FE} (h : Sorted (e :: l)) : Sorted l := ⟨fun x hx => h.1 x (List.mem_cons_of_mem _ hx), (List.pairwise_cons.1 h.2).2⟩
theorem sorted_head {e : FE} {l : List FE} (h : Sorted (e :: l)) : entOk e = true ∧ ∀ x ∈ l, ahead e x.t x.m = true := ⟨h.1 e (by simp), (List.pairwise_cons.1 h.2).1⟩

/-- The first of both. -/
def lookE (l : List FE) (t m : Int) : Option FE := l.find? (fun e => both e t m)

def lookUp (l : List FE) (t m : Int) : Int :=
  match lookE l t m with
  | some e => e.p
  | none => -1

theorem look_mem {l : List FE} (h : Sorted l) {e : FE} (he : e ∈ l) : lookE l e.t e.m = some e := by
  induction l with
  | nil => cases he
  | cons x r ih =>
    obtain ⟨_, hx⟩ := sorted_head h
    unfold lookE
    rw [List.find?_cons]
    rcases List.mem_cons.1 he with rfl | he
    · rw [both_iff.2 ⟨rfl, rfl⟩]
    · have := hx e he
      rw [ahead_iff] at this
      rw [both_not.2 (by omega)]
      exact ih (sorted_tail h) he

theorem look_some {l : List FE} {t m : Int} {e : FE} (h : lookE l t m = some e) : e ∈ l ∧ e.t = t ∧ e.m = m :=
  ⟨List.mem_of_find?_eq_some h, both_iff.1 (List.find?_some (p := fun e => both e t m) h)⟩

theorem look_none {l : List FE} {t m : Int} : lookE l t m = none ↔ ∀ e ∈ l, ¬ (e.t = t ∧ e.m = m) := by
  unfold lookE
  rw [List.find?_eq_none]
  constructor
  · intro h e he hb
    exact h e he (both_iff.2 hb)
  · intro h e he hb
    exact h e he (both_iff.1 hb)

/-- An entry is put in its place, in the place of one of both: as the specification goes, behind whatever is ahead already (d: is it put?). -/
def putGo (e : FE) : Bool → List FE → List FE
  | d, [] => if d = true then [] else [e]
  | d, x :: r =>
    if (!d && !ahead x e.t e.m) = true then e :: (if both x e.t e.m = true then putGo e true r else x :: putGo e true r)
    else if both x e.t e.m = true then putGo e d r else x :: putGo e d r

def putF8 (e : FE) (l : List FE) : List FE := putGo e false l

theorem putGo_behind {e : FE} {l : List FE} (h : ∀ x ∈ l, ahead e x.t x.m = true) : putGo e true l = l := by
  induction l with
  | nil => rfl
  | cons x r ih =>
    unfold putGo
    have hx := h x (by simp)
    rw [ahead_iff] at hx
    rw [both_not.2 (by omega)]
    simp [ih (fun y hy => h y (List.mem_cons_of_mem _ hy))]

/-- In entries that rise there is nothing more to it than this. -/
def insF (e : FE) : List FE → List FE
  | [] => [e]
  | x :: r => if ahead x e.t e.m = true then x :: insF e r else if both x e.t e.m = true then e :: r else e :: x :: r

theorem putF8_sorted {e : FE} {l : List FE} (h : Sorted l) : putF8 e l = insF e l := by
  unfold putF8
  induction l with
  | nil => rfl
  | cons x r ih =>
    obtain ⟨_, hx⟩ := sorted_head h
    unfold putGo insF
    cases ha : ahead x e.t e.m
    · have hb : ∀ y ∈ r, ahead e y.t y.m = true := by
        intro y hy
        have := hx y hy
        rw [ahead_iff] at *
        rw [ahead_not] at ha
        omega
      rw [putGo_behind hb]
      simp
      split <;> rfl
    · have ha' := ha
      rw [ahead_iff] at ha'
      rw [both_not.2 (by omega)]
      simp [ih (sorted_tail h)]

theorem mem_insF {e : FE} {l : List FE} (h : Sorted l) {x : FE} : x ∈ insF e l ↔ x = e ∨ (x ∈ l ∧ ¬ (x.t = e.t ∧ x.m = e.m)) := by
  induction l with
  | nil => simp [insF]
  | cons y r ih =>
    obtain ⟨_, hy⟩ := sorted_head h
    unfold insF
    cases ha : ahead y e.t e.m
    · have hr : ∀ z ∈ r, ¬ (z.t = e.t ∧ z.m = e.m) := by
        intro z hz
        have := hy z hz
        rw [ahead_iff] at this
        rw [ahead_not] at ha
        omega
      cases hb : both y e.t e.m
      · rw [both_not] at hb
        simp only [Bool.false_eq_true, if_false, List.mem_cons]
        constructor
        · rintro (rfl | rfl | hx)
          · exact .inl rfl
          · exact .inr ⟨.inl rfl, hb⟩
          · exact .inr ⟨.inr hx, hr x hx⟩
        · rintro (rfl | ⟨rfl | hx, _⟩)
          · exact .inl rfl
          · exact .inr (.inl rfl)
          · exact .inr (.inr hx)
      · rw [both_iff] at hb
        simp only [Bool.false_eq_true, if_false, if_true, List.mem_cons]
        constructor
        · rintro (rfl | hx)
          · exact .inl rfl
          · exact .inr ⟨.inr hx, hr x hx⟩
        · rintro (rfl | ⟨rfl | hx, hn⟩)
          · exact .inl rfl
          · exact absurd hb hn
          · exact .inr hx
    · simp only [if_true, List.mem_cons, ih (sorted_tail h)]
      have hb : ¬ (y.t = e.t ∧ y.m = e.m) := by rw [ahead_iff] at ha; omega
      constructor
      · rintro (rfl | rfl | ⟨hx, hn⟩)
        · exact .inr ⟨.inl rfl, hb⟩
        · exact .inl rfl
        · exact .inr ⟨.inr hx, hn⟩
      · rintro (rfl | ⟨rfl | hx, hn⟩)
        · exact .inr (.inl rfl)
        · exact .inl rfl
        · exact .inr (.inr ⟨hx, hn⟩)

theorem sorted_insF {e : FE} (he : entOk e = true) {l : List FE} (h : Sorted l) : Sorted (insF e l) := by
  refine ⟨?_, ?_⟩
  · intro x hx
    rcases (mem_insF h).1 hx with rfl | ⟨hx, _⟩
    · exact he
    · exact h.1 x hx
  · induction l with
    | nil => simp [insF]
    | cons y r ih =>
      obtain ⟨_, hy⟩ := sorted_head h
      unfold insF
      cases ha : ahead y e.t e.m
      · have hr : ∀ z ∈ r, ahead e z.t z.m = true := by
          intro z hz
          have := hy z hz
          rw [ahead_iff] at *
          rw [ahead_not] at ha
          omega
        cases hb : both y e.t e.m
        · simp only [Bool.false_eq_true, if_false]
          refine List.pairwise_cons.2 ⟨?_, h.2⟩
          intro z hz
          rcases List.mem_cons.1 hz with rfl | hz
          · rw [ahead_not] at ha
            rw [both_not] at hb
            rw [ahead_iff]
            omega
          · exact hr z hz
        · simp only [Bool.false_eq_true, if_false, if_true]
          exact List.pairwise_cons.2 ⟨hr, (List.pairwise_cons.1 h.2).2⟩
      · simp only [if_true]
        refine List.pairwise_cons.2 ⟨?_, ih (sorted_tail h)⟩
        intro z hz
        rcases (mem_insF (sorted_tail h)).1 hz with rfl | ⟨hz, _⟩
        · exact ha
        · exact hy z hz

theorem length_insF {e : FE} {l : List FE} (h : Sorted l) : (insF e l).length = if (lookE l e.t e.m).isSome = true then l.length else l.length + 1 := by
  induction l with
  | nil => rfl
  | cons y r ih =>
    obtain ⟨_, hy⟩ := sorted_head h
    unfold insF lookE
    rw [List.find?_cons]
    cases ha : ahead y e.t e.m
    · cases hb : both y e.t e.m
      · have hr : lookE r e.t e.m = none := look_none.2 (by
          intro z hz
          have := hy z hz
          rw [ahead_iff] at this
          rw [ahead_not] at ha
          omega)
        unfold lookE at hr
        simp [hr]
      · simp
    · have hb : both y e.t e.m = false := both_not.2 (by rw [ahead_iff] at ha; omega)
      rw [hb]
      have ih := ih (sorted_tail h)
      unfold lookE at ih
      simp only [if_true, List.length_cons, ih]
      split <;> rfl

/-- The place of the first of both; -1. -/
def atF (l : List FE) (t m : Int) : Int :=
  match l.findIdx? (fun e => both e t m) with
  | some i => i
  | none => -1

/-- Who is learned: a new entry, or the old ones. -/
def canLearn (l : List FE) (t m p : Int) : Bool :=
  fdbOk l && (entOk ⟨t, m, p, 0, false⟩ && (match lookE l t m with | some e => !e.s | none => decide (l.length < 12)))
def learnF (l : List FE) (t m p : Int) : List FE := if canLearn l t m p = true then putF8 ⟨t, m, p, 0, false⟩ l else l

def ageE (e : FE) : Option FE := if e.s = true then some e else if e.a < 4 then some ⟨e.t, e.m, e.p, e.a + 1, e.s⟩ else none
def ageF (l : List FE) : List FE := l.filterMap ageE

def flushF (l : List FE) (p : Int) : List FE := l.filter (fun e => e.s || (e.p != p))

def canSet (l : List FE) (t m p : Int) : Bool :=
  fdbOk l && (entOk ⟨t, m, p, 0, true⟩ && ((lookE l t m).isSome || decide (l.length < 12)))
def setF (l : List FE) (t m p : Int) : List FE := if canSet l t m p = true then putF8 ⟨t, m, p, 0, true⟩ l else l

/-- The first static one of both goes. -/
def dropF : List FE → Int → Int → List FE
  | [], _, _ => []
  | e :: r, t, m => if (e.s && both e t m) = true then r else e :: dropF r t m
def canDrop (l : List FE) (t m : Int) : Bool := l.any (fun e => e.s && both e t m)

/-- The place of the first that is behind both; -1. -/
def nextF (l : List FE) (t m : Int) : Int :=
  match l.findIdx? (fun e => !ahead e t m && !both e t m) with
  | some i => i
  | none => -1

/-! What is made is right. -/

theorem learn_ok {l : List FE} (h : fdbOk l = true) (t m p : Int) : fdbOk (learnF l t m p) = true := by
  unfold learnF
  split
  · rename_i hc
    unfold canLearn at hc
    simp only [Bool.and_eq_true] at hc
    obtain ⟨_, he, hm⟩ := hc
    obtain ⟨hs, hl⟩ := (fdbOk_iff l).1 h
    rw [putF8_sorted hs, fdbOk_iff]
    refine ⟨sorted_insF he hs, ?_⟩
    rw [length_insF hs]
    cases hk : lookE l t m with
    | some e => simp [hl]
    | none =>
      rw [hk] at hm
      simp at hm
      simp
      omega
  · exact h

theorem set_ok {l : List FE} (h : fdbOk l = true) (t m p : Int) : fdbOk (setF l t m p) = true := by
  unfold setF
  split
  · rename_i hc
    unfold canSet at hc
    simp only [Bool.and_eq_true] at hc
    obtain ⟨_, he, hm⟩ := hc
    obtain ⟨hs, hl⟩ := (fdbOk_iff l).1 h
    rw [putF8_sorted hs, fdbOk_iff]
    refine ⟨sorted_insF he hs, ?_⟩
    rw [length_insF hs]
    cases hk : lookE l t m with
    | some e => simp [hl]
    | none =>
      rw [hk] at hm
      simp at hm
      simp
      omega
  · exact h

theorem ageE_some {e f : FE} (h : ageE e = some f) : f.t = e.t ∧ f.m = e.m ∧ f.p = e.p ∧ f.s = e.s ∧ ((e.s = true ∧ f.a = e.a) ∨ (e.s = false ∧ e.a < 4 ∧ f.a = e.a + 1)) := by
  unfold ageE at h
  cases hs : e.s
  · rw [hs] at h
    simp only [Bool.false_eq_true, if_false] at h
    split at h
    · rename_i ha
      cases h
      exact ⟨rfl, rfl, rfl, rfl, .inr ⟨rfl, ha, rfl⟩⟩
    · cases h
  · rw [hs] at h
    simp only [if_true] at h
    cases h
    exact ⟨rfl, rfl, rfl, hs, .inl ⟨rfl, rfl⟩⟩

theorem age_sorted {l : List FE} (h : Sorted l) : Sorted (ageF l) := by
  unfold ageF
  refine ⟨?_, ?_⟩
  · intro f hf
    obtain ⟨e, he, hef⟩ := List.mem_filterMap.1 hf
    have h1 := h.1 e he
    obtain ⟨a1, a2, a3, a4, a5⟩ := ageE_some hef
    rw [entOk_iff] at *
    rcases a5 with ⟨b1, b2⟩ | ⟨b1, b2, b3⟩
    · rw [a1, a2, a3, a4, b2]; exact h1
    · rw [a1, a2, a3, a4, b3, b1]
      refine ⟨h1.1, h1.2.1, h1.2.2.1, by omega, by simp⟩
  · rw [List.pairwise_filterMap]
    refine h.2.imp ?_
    intro a b hab x hx y hy
    obtain ⟨a1, a2, -⟩ := ageE_some hx
    obtain ⟨b1, b2, -⟩ := ageE_some hy
    rw [ahead_iff] at *
    rw [a1, a2, b1, b2]
    exact hab

theorem age_ok {l : List FE} (h : fdbOk l = true) : fdbOk (ageF l) = true := by
  rw [fdbOk_iff] at *
  exact ⟨age_sorted h.1, Nat.le_trans (List.length_filterMap_le _ _) h.2⟩

theorem sub_sorted {l k : List FE} (h : Sorted l) (hs : k.Sublist l) : Sorted k := ⟨fun e he => h.1 e (hs.subset he), h.2.sublist hs⟩

theorem flush_ok {l : List FE} (h : fdbOk l = true) (p : Int) : fdbOk (flushF l p) = true := by
  rw [fdbOk_iff] at *
  exact ⟨sub_sorted h.1 List.filter_sublist, Nat.le_trans (List.length_filter_le _ _) h.2⟩

theorem drop_sub : ∀ (l : List FE) (t m : Int), (dropF l t m).Sublist l
  | [], _, _ => by simp [dropF]
  | e :: r, t, m => by
    unfold dropF
    split
    · exact List.sublist_cons_self e r
    · exact (drop_sub r t m).cons_cons e

theorem drop_ok {l : List FE} (h : fdbOk l = true) (t m : Int) : fdbOk (dropF l t m) = true := by
  rw [fdbOk_iff] at *
  exact ⟨sub_sorted h.1 (drop_sub l t m), Nat.le_trans (drop_sub l t m).length_le h.2⟩

end Go.Proofs.Ytmcikcpkggonfaa
