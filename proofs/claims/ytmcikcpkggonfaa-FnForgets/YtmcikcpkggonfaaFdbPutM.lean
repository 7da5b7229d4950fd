/-
  Entries that rise, their keys, and one that is put among them: where it comes, and what comes out.
-/
import Derived.Test.YtmcikcpkggonfaaFdbCmp
namespace Go.Proofs.Ytmcikcpkggonfaa
open Go.RowKit

/-- The only key that an entry has where the entries rise. -/
def key0 (e : FE) : FK := (e.t, e.m, 0)

theorem keysGo_rise : ∀ (l pre : List FE), (∀ x ∈ l, ∀ z ∈ pre, both z x.t x.m = false) → l.Pairwise (fun e f => ahead e f.t f.m = true) → keysGo pre l = l.map key0
  | [], _, _, _ => rfl
  | x :: r, pre, h1, h2 => by
    obtain ⟨h3, h4⟩ := List.pairwise_cons.1 h2
    rw [keysGo, List.map_cons, keysGo_rise r (pre ++ [x]) ?_ h4]
    · have : cnt pre x.t x.m = 0 := by
        unfold cnt
        rw [List.filter_eq_nil_iff.2]
        · rfl
        · intro z hz hb
          rw [h1 x (by simp) z hz] at hb
          cases hb
      show keyIn pre x :: _ = _
      unfold keyIn key0
      rw [this]
    · intro y hy z hz
      rcases List.mem_append.1 hz with hz | hz
      · exact h1 y (List.mem_cons_of_mem _ hy) z hz
      · simp at hz
        subst hz
        have := h3 y hy
        rw [ahead_iff] at this
        exact both_not.2 (by omega)

theorem keys_rise {l : List FE} (h : Sorted l) : keysOf l = l.map key0 := keysGo_rise l [] (by simp) h.2

theorem cmp_key (x e : FE) : cmpK (key0 x) (key0 e) < 0 ↔ ahead x e.t e.m = true := by
  rw [cmpK_less, ahead_iff]
  rfl
theorem cmp_key0 (x e : FE) : cmpK (key0 x) (key0 e) = 0 ↔ both x e.t e.m = true := by
  rw [cmpK_same, both_iff]
  rfl

theorem rise_mono {l : List FE} (h : Sorted l) (e : FE) : ∀ (a b : Nat) (x z : FK), a ≤ b → (keysOf l)[a]? = some x → (keysOf l)[b]? = some z → cmpK z (key0 e) < 0 → cmpK x (key0 e) < 0 := by
  intro a b x z hab hx hz hc
  rw [keys_rise h, List.getElem?_map] at hx hz
  obtain ⟨u, hu, rfl⟩ := Option.map_eq_some_iff.1 hx
  obtain ⟨v, hv, rfl⟩ := Option.map_eq_some_iff.1 hz
  rw [cmp_key] at *
  by_cases e1 : a = b
  · subst e1
    rw [hu] at hv
    cases hv
    exact hc
  · have ha := (List.getElem?_eq_some_iff.1 hu).1
    have hb := (List.getElem?_eq_some_iff.1 hv).1
    have := List.pairwise_iff_getElem.1 h.2 a b ha hb (by omega)
    rw [List.getElem?_eq_getElem ha] at hu
    rw [List.getElem?_eq_getElem hb] at hv
    cases hu
    cases hv
    exact ahead_trans this (by rw [ahead_iff] at *; exact hc)

/-- Where it comes. -/
theorem ins_at {e : FE} : ∀ {l : List FE} {pos : Nat}, pos ≤ l.length → (∀ j x, j < pos → l[j]? = some x → ahead x e.t e.m = true) → (∀ x, l[pos]? = some x → ahead x e.t e.m = false) →
    insF e l = l.take pos ++ e :: (match l[pos]? with | some x => if both x e.t e.m = true then l.drop (pos + 1) else l.drop pos | none => [])
  | [], pos, hp, _, _ => by
    have : pos = 0 := by simpa using hp
    subst this
    simp [insF]
  | x :: r, 0, _, _, h2 => by
    have ha := h2 x rfl
    unfold insF
    rw [ha]
    simp only [Bool.false_eq_true, if_false, List.take_zero, List.nil_append, List.getElem?_cons_zero]
    split <;> simp
  | x :: r, pos + 1, hp, h1, h2 => by
    have ha := h1 0 x (by omega) rfl
    have ih := ins_at (e := e) (l := r) (pos := pos) (by simpa using hp) (fun j z hj hz => h1 (j + 1) z (by omega) (by simpa using hz)) (fun z hz => h2 z (by simpa using hz))
    unfold insF
    rw [ha, if_pos rfl, ih]
    simp

theorem look_at {l : List FE} (h : Sorted l) {e : FE} {pos : Nat} (h1 : ∀ j x, j < pos → l[j]? = some x → ahead x e.t e.m = true) (h2 : ∀ j x, pos ≤ j → l[j]? = some x → ahead x e.t e.m = false) :
    (lookE l e.t e.m).isSome = (match l[pos]? with | some x => both x e.t e.m | none => false) := by
  cases hk : l[pos]? with
  | none =>
    have : lookE l e.t e.m = none := look_none.2 (by
      intro x hx hb
      obtain ⟨j, hj⟩ := List.getElem?_of_mem hx
      have hjl := (List.getElem?_eq_some_iff.1 hj).1
      have hpl := List.getElem?_eq_none_iff.1 hk
      have := h1 j x (by omega) hj
      rw [ahead_iff] at this
      omega)
    rw [this]
    rfl
  | some x =>
    cases hb : both x e.t e.m
    · have : lookE l e.t e.m = none := look_none.2 (by
        intro z hz hbz
        obtain ⟨j, hj⟩ := List.getElem?_of_mem hz
        have hjl := (List.getElem?_eq_some_iff.1 hj).1
        have hpl := (List.getElem?_eq_some_iff.1 hk).1
        rcases Nat.lt_trichotomy j pos with hlt | heq | hgt
        · have := h1 j z hlt hj
          rw [ahead_iff] at this
          omega
        · subst heq
          rw [hk] at hj
          cases hj
          rw [both_not] at hb
          exact hb hbz
        · have h3 := List.pairwise_iff_getElem.1 h.2 pos j hpl hjl hgt
          rw [List.getElem?_eq_getElem hpl] at hk
          rw [List.getElem?_eq_getElem hjl] at hj
          cases hk
          cases hj
          have h4 := h2 pos _ (Nat.le_refl _) (List.getElem?_eq_getElem hpl)
          rw [ahead_iff] at h3
          rw [ahead_not] at h4
          rw [both_not] at hb
          omega)
      rw [this]
      simp [hb]
    · have hm := List.mem_of_getElem? hk
      have := look_mem h hm
      obtain ⟨e1, e2⟩ := both_iff.1 hb
      rw [e1, e2] at this
      rw [this]
      simp [hb]

/-- One key's element is another one: what comes out has it in its place. -/
theorem out_set {l : List FE} {i : Nat} {e' : FE} {k : FK} (hk : (keysOf l)[i]? = some k) : (keysOf l).filterMap (upd (entsOf l) k (some e')) = l.take i ++ e' :: l.drop (i + 1) := by
  have hik := (List.getElem?_eq_some_iff.1 hk).1
  have hkk : (keysOf l)[i] = k := by rw [List.getElem?_eq_getElem hik] at hk; exact Option.some.inj hk
  have hsp : keysOf l = (keysOf l).take i ++ k :: (keysOf l).drop (i + 1) := by
    rw [← hkk, ← List.drop_eq_getElem_cons hik, List.take_append_drop]
  have hnd := keys_nodup l
  rw [hsp] at hnd
  have hn1 : k ∉ (keysOf l).take i := by
    intro h
    exact (List.nodup_append.1 hnd).2.2 k h k (by simp) rfl
  have hn2 : k ∉ (keysOf l).drop (i + 1) := (List.nodup_cons.1 (List.nodup_append.1 hnd).2.1).1
  have hm := ents_map l
  have hm1 : ((keysOf l).take i).map (entsOf l) = (l.take i).map some := by rw [List.map_take, hm, List.map_take]
  have hm2 : ((keysOf l).drop (i + 1)).map (entsOf l) = (l.drop (i + 1)).map some := by rw [List.map_drop, hm, List.map_drop]
  rw [hsp, List.filterMap_append, List.filterMap_cons, upd_same]
  have e1 : ((keysOf l).take i).filterMap (upd (entsOf l) k (some e')) = l.take i := by
    rw [map_out (g := entsOf l) (fun x hx => upd_other (entsOf l) (a := k) (some e') (fun e => hn1 (by rw [← e]; exact hx)))]
    exact out_all hm1
  have e2 : ((keysOf l).drop (i + 1)).filterMap (upd (entsOf l) k (some e')) = l.drop (i + 1) := by
    rw [map_out (g := entsOf l) (fun x hx => upd_other (entsOf l) (a := k) (some e') (fun e => hn2 (by rw [← e]; exact hx)))]
    exact out_all hm2
  rw [e1]
  simp only
  rw [e2]

/-- A new key comes in: what comes out has its element there. -/
theorem out_new {l : List FE} {i : Nat} {e' : FE} {k : FK} (hk : k ∉ keysOf l) : ((keysOf l).take i ++ k :: (keysOf l).drop i).filterMap (upd (entsOf l) k (some e')) = l.take i ++ e' :: l.drop i := by
  have hm := ents_map l
  have hm1 : ((keysOf l).take i).map (entsOf l) = (l.take i).map some := by rw [List.map_take, hm, List.map_take]
  have hm2 : ((keysOf l).drop i).map (entsOf l) = (l.drop i).map some := by rw [List.map_drop, hm, List.map_drop]
  rw [List.filterMap_append, List.filterMap_cons, upd_same]
  have e1 : ((keysOf l).take i).filterMap (upd (entsOf l) k (some e')) = l.take i := by
    rw [map_out (g := entsOf l) (fun x hx => upd_other (entsOf l) (a := k) (some e') (fun e => hk (by rw [← e]; exact List.mem_of_mem_take hx)))]
    exact out_all hm1
  have e2 : ((keysOf l).drop i).filterMap (upd (entsOf l) k (some e')) = l.drop i := by
    rw [map_out (g := entsOf l) (fun x hx => upd_other (entsOf l) (a := k) (some e') (fun e => hk (by rw [← e]; exact List.mem_of_mem_drop hx)))]
    exact out_all hm2
  rw [e1]
  simp only
  rw [e2]

/-- What a search among the keys tells of the entries. -/
theorem found_says {l : List FE} (h : Sorted l) {e : FE} {pos : Nat} {there : Bool} (F : Found (keysOf l) (key0 e) pos there) :
    pos ≤ l.length ∧ (lookE l e.t e.m).isSome = there ∧
    (there = true → ∃ x, l[pos]? = some x ∧ (keysOf l)[pos]? = some (key0 e) ∧ insF e l = l.take pos ++ e :: l.drop (pos + 1)) ∧
    (there = false → key0 e ∉ keysOf l ∧ insF e l = l.take pos ++ e :: l.drop pos) := by
  have hlen := keys_length l
  have hkr := keys_rise h
  have h1 : ∀ j x, j < pos → l[j]? = some x → ahead x e.t e.m = true := fun j x hj hx => (cmp_key x e).1 (F.low j (key0 x) hj (by rw [hkr, List.getElem?_map, hx]; rfl))
  have h2 : ∀ j x, pos ≤ j → l[j]? = some x → ahead x e.t e.m = false := fun j x hj hx => by
    have := F.high j (key0 x) hj (by rw [hkr, List.getElem?_map, hx]; rfl)
    cases ha : ahead x e.t e.m
    · rfl
    · have := (cmp_key x e).2 ha
      omega
  have hle : pos ≤ l.length := by have := F.le; omega
  have hla := look_at h h1 h2
  have hth : there = (match l[pos]? with | some x => both x e.t e.m | none => false) := by
    rw [F.is, hkr, List.getElem?_map]
    cases l[pos]? with
    | none => rfl
    | some x =>
      simp only [Option.map_some]
      rw [Bool.eq_iff_iff, decide_eq_true_eq, cmp_key0]
  have hin := ins_at (e := e) hle h1 (fun x hx => h2 pos x (Nat.le_refl _) hx)
  refine ⟨hle, hla.trans hth.symm, ?_, ?_⟩
  · intro ht
    rw [ht] at hth
    cases hx : l[pos]? with
    | none => rw [hx] at hth; cases hth
    | some x =>
      rw [hx] at hth hin
      have hb : both x e.t e.m = true := hth.symm
      simp only [hb, if_true] at hin
      refine ⟨x, rfl, ?_, hin⟩
      rw [hkr, List.getElem?_map, hx]
      obtain ⟨e1, e2⟩ := both_iff.1 hb
      show some (key0 x) = _
      unfold key0
      rw [e1, e2]
  · intro ht
    rw [ht] at hth
    refine ⟨?_, ?_⟩
    · intro hm
      rw [hkr] at hm
      obtain ⟨x, hx, hxe⟩ := List.mem_map.1 hm
      have hxe : x.t = e.t ∧ x.m = e.m := by
        unfold key0 at hxe
        simp at hxe
        exact hxe
      have hl := look_mem h hx
      rw [hxe.1, hxe.2] at hl
      rw [hl, ← hth] at hla
      cases hla
    · cases hx : l[pos]? with
      | none =>
        rw [hx] at hin
        rw [hin, List.drop_eq_nil_of_le (List.getElem?_eq_none_iff.1 hx)]
      | some x =>
        rw [hx] at hth hin
        have hb : both x e.t e.m = false := hth.symm
        simp only [hb, Bool.false_eq_true, if_false] at hin
        exact hin

end Go.Proofs.Ytmcikcpkggonfaa
