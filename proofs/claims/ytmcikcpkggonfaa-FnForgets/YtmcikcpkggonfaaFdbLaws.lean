/-
  What the laws say of who is where: who is learned is there; who is old is gone; who is set is there, static, till dropped.
-/
import Derived.Test.YtmcikcpkggonfaaFdbMath
namespace Go.Proofs.Ytmcikcpkggonfaa
open Go.RowKit

/-- Is the one of both static? -/
def staticF (l : List FE) (t m : Int) : Bool :=
  match lookE l t m with
  | some e => e.s
  | none => false

theorem lookUp_of {l : List FE} {t m : Int} {e : FE} (h : lookE l t m = some e) : lookUp l t m = e.p := by unfold lookUp; rw [h]
theorem lookUp_no {l : List FE} {t m : Int} (h : lookE l t m = none) : lookUp l t m = -1 := by unfold lookUp; rw [h]

theorem look_ins_self {e : FE} {l : List FE} (he : entOk e = true) (h : Sorted l) : lookE (insF e l) e.t e.m = some e :=
  look_mem (sorted_insF he h) ((mem_insF h).2 (.inl rfl))

theorem look_ins_other {e x : FE} {l : List FE} (he : entOk e = true) (h : Sorted l) (hx : x ∈ l) (hn : ¬ (x.t = e.t ∧ x.m = e.m)) : lookE (insF e l) x.t x.m = some x :=
  look_mem (sorted_insF he h) ((mem_insF h).2 (.inr ⟨hx, hn⟩))

theorem learn_others {l : List FE} (h : fdbOk l = true) (t m p : Int) {x : FE} (hx : x ∈ l) (hn : ¬ (x.t = t ∧ x.m = m)) : lookUp (learnF l t m p) x.t x.m = x.p := by
  obtain ⟨hs, _⟩ := (fdbOk_iff l).1 h
  unfold learnF
  split
  · rename_i hc
    unfold canLearn at hc
    simp only [Bool.and_eq_true] at hc
    rw [putF8_sorted hs]
    exact lookUp_of (look_ins_other hc.2.1 hs hx hn)
  · exact lookUp_of (look_mem hs hx)

theorem learn_says {l : List FE} (h : fdbOk l = true) {t m p : Int} (he : entOk ⟨t, m, p, 0, false⟩ = true) :
    lookUp (learnF l t m p) t m = p ∨ (staticF l t m = true ∧ lookUp (learnF l t m p) t m = lookUp l t m) ∨ (lookUp (learnF l t m p) t m = -1 ∧ l.length = 12) := by
  obtain ⟨hs, hl⟩ := (fdbOk_iff l).1 h
  unfold learnF
  split
  · rename_i hc
    rw [putF8_sorted hs]
    exact .inl (lookUp_of (e := ⟨t, m, p, 0, false⟩) (look_ins_self he hs))
  · rename_i hc
    unfold canLearn at hc
    rw [h, he, Bool.true_and, Bool.true_and] at hc
    cases hk : lookE l t m with
    | some e =>
      rw [hk] at hc
      simp only [Bool.not_eq_true', Bool.not_eq_false] at hc
      exact .inr (.inl ⟨by unfold staticF; rw [hk]; exact hc, rfl⟩)
    | none =>
      rw [hk] at hc
      simp at hc
      exact .inr (.inr ⟨lookUp_no hk, by omega⟩)

theorem flush_says (l : List FE) (p : Int) : ∀ e ∈ flushF l p, ¬ (e.p = p ∧ e.s = false) := by
  intro e he
  unfold flushF at he
  have := (List.mem_filter.1 he).2
  rintro ⟨h1, h2⟩
  simp [h1, h2] at this

/-- So often grown older. -/
def ageN : Nat → List FE → List FE
  | 0, l => l
  | k + 1, l => ageF (ageN k l)

theorem ageN_ok {l : List FE} (h : fdbOk l = true) : ∀ k, fdbOk (ageN k l) = true
  | 0 => h
  | k + 1 => age_ok (ageN_ok h k)

theorem ageN_mem {l : List FE} : ∀ (k : Nat) (f : FE), f ∈ ageN k l → f.s = false → ∃ e ∈ l, f.a = e.a + k
  | 0, f, hf, _ => ⟨f, hf, by simp⟩
  | k + 1, f, hf, hs => by
    obtain ⟨e, he, hef⟩ := List.mem_filterMap.1 (show f ∈ (ageN k l).filterMap ageE from hf)
    obtain ⟨_, _, _, a4, a5⟩ := ageE_some hef
    rcases a5 with ⟨b1, _⟩ | ⟨b1, _, b3⟩
    · rw [← a4, hs] at b1; cases b1
    · obtain ⟨d, hd, hda⟩ := ageN_mem k e he b1
      exact ⟨d, hd, by rw [b3, hda]; simp; omega⟩

theorem age_statics (l : List FE) : ((ageF l).filter (fun e => e.s)).length = (l.filter (fun e => e.s)).length := by
  induction l with
  | nil => rfl
  | cons e r ih =>
    have hc : ageF (e :: r) = match ageE e with | some f => f :: ageF r | none => ageF r := by
      unfold ageF
      rw [List.filterMap_cons]
      cases ageE e <;> rfl
    rw [hc]
    cases hs : e.s
    · cases hf : ageE e with
      | none => simp [hs, ih]
      | some f =>
        have hfs := (ageE_some hf).2.2.2.1
        simp [hs, hfs, ih]
    · have hf : ageE e = some e := by unfold ageE; rw [hs]; rfl
      rw [hf]
      simp [hs, ih]

theorem ageN_statics (l : List FE) : ∀ k, ((ageN k l).filter (fun e => e.s)).length = (l.filter (fun e => e.s)).length
  | 0 => rfl
  | k + 1 => (age_statics (ageN k l)).trans (ageN_statics l k)

theorem age_five {l : List FE} (h : fdbOk l = true) : (ageN 5 l).length = (l.filter (fun e => e.s)).length := by
  rw [← ageN_statics l 5]
  have h5 := (fdbOk_iff _).1 (ageN_ok h 5)
  have hl := ((fdbOk_iff l).1 h).1
  have : (ageN 5 l).filter (fun e => e.s) = ageN 5 l := by
    rw [List.filter_eq_self]
    intro f hf
    cases hs : f.s
    · obtain ⟨e, he, ha⟩ := ageN_mem 5 f hf hs
      have h1 := (entOk_iff e).1 (hl.1 e he)
      have h2 := (entOk_iff f).1 (h5.1.1 f hf)
      omega
    · rfl
  rw [this]

theorem set_no {l : List FE} (h : fdbOk l = true) {t m p : Int} (he : entOk ⟨t, m, p, 0, true⟩ = true) (hc : canSet l t m p = false) : setF l t m p = l ∧ l.length = 12 := by
  obtain ⟨_, hl⟩ := (fdbOk_iff l).1 h
  refine ⟨by unfold setF; rw [hc]; rfl, ?_⟩
  unfold canSet at hc
  rw [h, he, Bool.true_and, Bool.true_and] at hc
  simp at hc
  omega

theorem set_yes {l : List FE} {t m p : Int} (hc : canSet l t m p = true) : setF l t m p = insF ⟨t, m, p, 0, true⟩ l ∧ Sorted l ∧ entOk ⟨t, m, p, 0, true⟩ = true := by
  have hc' := hc
  unfold canSet at hc'
  simp only [Bool.and_eq_true] at hc'
  obtain ⟨h, he, _⟩ := hc'
  obtain ⟨hs, _⟩ := (fdbOk_iff l).1 h
  exact ⟨by unfold setF; rw [hc, if_pos rfl, putF8_sorted hs], hs, he⟩

/-- A static one is not learned anew. -/
theorem learn_static {l : List FE} {t m p : Int} (hs : staticF l t m = true) : learnF l t m p = l := by
  unfold learnF
  rw [if_neg]
  unfold staticF at hs
  unfold canLearn
  cases hk : lookE l t m with
  | none => rw [hk] at hs; cases hs
  | some e => rw [hk] at hs; simp [hs]

theorem drop_gone {l : List FE} (h : Sorted l) {t m : Int} (hd : canDrop l t m = true) : lookE (dropF l t m) t m = none ∧ (dropF l t m).length + 1 = l.length := by
  induction l with
  | nil => simp [canDrop] at hd
  | cons e r ih =>
    obtain ⟨_, hx⟩ := sorted_head h
    unfold dropF
    cases hb : (e.s && both e t m)
    · have hd' : canDrop r t m = true := by
        unfold canDrop at hd
        rw [List.any_cons, hb, Bool.false_or] at hd
        exact hd
      obtain ⟨i1, i2⟩ := ih (sorted_tail h) hd'
      have hne : both e t m = false := by
        unfold canDrop at hd'
        obtain ⟨f, hf, hfb⟩ := List.any_eq_true.1 hd'
        simp only [Bool.and_eq_true] at hfb
        have h1 := hx f hf
        have h2 := both_iff.1 hfb.2
        rw [ahead_iff] at h1
        exact both_not.2 (by omega)
      simp only [Bool.false_eq_true, if_false, List.length_cons]
      refine ⟨?_, by omega⟩
      unfold lookE at *
      rw [List.find?_cons, hne]
      exact i1
    · simp only [if_true, List.length_cons]
      refine ⟨look_none.2 ?_, trivial⟩
      simp only [Bool.and_eq_true] at hb
      intro f hf
      have h1 := hx f hf
      have h2 := both_iff.1 hb.2
      rw [ahead_iff] at h1
      omega

theorem set_says {l : List FE} {t m p : Int} (hc : canSet l t m p = true) :
    lookUp (setF l t m p) t m = p ∧ staticF (setF l t m p) t m = true ∧ canDrop (setF l t m p) t m = true ∧ Sorted (setF l t m p) := by
  obtain ⟨e1, hs, he⟩ := set_yes hc
  have hk : lookE (insF ⟨t, m, p, 0, true⟩ l) t m = some ⟨t, m, p, 0, true⟩ := look_ins_self he hs
  rw [e1]
  refine ⟨lookUp_of hk, by unfold staticF; rw [hk], ?_, sorted_insF he hs⟩
  unfold canDrop
  rw [List.any_eq_true]
  exact ⟨⟨t, m, p, 0, true⟩, (mem_insF hs).2 (.inl rfl), by simp [both]⟩

theorem next_says {l : List FE} {t m : Int} {i : Nat} (h : l.findIdx? (fun e => !ahead e t m && !both e t m) = some i) : ∃ e, l[i]? = some e ∧ ¬ (e.t < t ∨ (e.t = t ∧ e.m ≤ m)) := by
  obtain ⟨hi, hp, _⟩ := List.findIdx?_eq_some_iff_getElem.1 h
  refine ⟨l[i], List.getElem?_eq_getElem hi, ?_⟩
  simp only [Bool.and_eq_true, Bool.not_eq_true'] at hp
  have h1 := ahead_not.1 hp.1
  have h2 := both_not.1 hp.2
  omega

/-! How many there are. -/

theorem putGo_true_len (e : FE) : ∀ (l : List FE), (putGo e true l).length ≤ l.length
  | [] => by simp [putGo]
  | x :: r => by
    have h := putGo_true_len e r
    unfold putGo
    simp only [Bool.not_true, Bool.false_and, Bool.false_eq_true, if_false]
    split <;> simp <;> omega

theorem putGo_len (e : FE) : ∀ (d : Bool) (l : List FE), (putGo e d l).length ≤ l.length + 1
  | d, [] => by cases d <;> simp [putGo]
  | d, x :: r => by
    have h1 := putGo_true_len e r
    have h2 := putGo_len e d r
    unfold putGo
    split
    · split <;> simp <;> omega
    · split <;> simp <;> omega

theorem learn_len (l : List FE) (t m p : Int) : (learnF l t m p).length ≤ l.length + 1 := by
  unfold learnF
  split
  · exact putGo_len _ _ _
  · omega
theorem set_len (l : List FE) (t m p : Int) : (setF l t m p).length ≤ l.length + 1 := by
  unfold setF
  split
  · exact putGo_len _ _ _
  · omega
theorem age_len (l : List FE) : (ageF l).length ≤ l.length + 1 := Nat.le_trans (List.length_filterMap_le _ _) (by omega)
theorem flush_len (l : List FE) (p : Int) : (flushF l p).length ≤ l.length + 1 := Nat.le_trans (List.length_filter_le _ _) (by omega)
theorem drop_len (l : List FE) (t m : Int) : (dropF l t m).length ≤ l.length + 1 := Nat.le_trans (drop_sub l t m).length_le (by omega)

end Go.Proofs.Ytmcikcpkggonfaa
