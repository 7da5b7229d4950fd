/-
  The keys under which entries stand in a map: tag, mac, and how many of both stand ahead; the map as a function; what comes out of it in the order of the keys.
-/
import Derived.Test.YtmcikcpkggonfaaFdbLaws
import Derived.Test.YtmcikcpkggonfaaFentMem
import Derived.Test.YtmcikcpkggonfaaMapEnt
namespace Go.Proofs.Ytmcikcpkggonfaa
open Go.RowKit

/-- A key. -/
abbrev FK := Int × Int × Int

/-- How many of both there are. -/
def cnt (l : List FE) (t m : Int) : Int := ((l.filter (fun e => both e t m)).length : Int)

theorem cnt_nil (t m : Int) : cnt [] t m = 0 := rfl
theorem cnt_append (a b : List FE) (t m : Int) : cnt (a ++ b) t m = cnt a t m + cnt b t m := by simp [cnt]
theorem cnt_one (x : FE) (t m : Int) : cnt [x] t m = if both x t m = true then 1 else 0 := by
  unfold cnt
  cases h : both x t m <;> simp [h]
theorem cnt_self (x : FE) : cnt [x] x.t x.m = 1 := by rw [cnt_one, if_pos (both_iff.2 ⟨rfl, rfl⟩)]
theorem cnt_pos (l : List FE) (t m : Int) : 0 ≤ cnt l t m := by unfold cnt; omega
theorem cnt_le (l : List FE) (t m : Int) : cnt l t m ≤ l.length := by
  unfold cnt
  have := List.length_filter_le (fun e => both e t m) l
  omega

def keyIn (pre : List FE) (x : FE) : FK := (x.t, x.m, cnt pre x.t x.m)

def keysGo : List FE → List FE → List FK
  | _, [] => []
  | pre, x :: r => keyIn pre x :: keysGo (pre ++ [x]) r

def entsGo (g : FK → Option FE) : List FE → List FE → FK → Option FE
  | _, [] => g
  | pre, x :: r => entsGo (upd g (keyIn pre x) (some x)) (pre ++ [x]) r

def keysOf (l : List FE) : List FK := keysGo [] l
def entsOf (l : List FE) : FK → Option FE := entsGo (fun _ => none) [] l

theorem keysGo_snoc (x : FE) : ∀ (l pre : List FE), keysGo pre (l ++ [x]) = keysGo pre l ++ [keyIn (pre ++ l) x]
  | [], pre => by simp [keysGo]
  | y :: l, pre => by
    rw [List.cons_append, keysGo, keysGo_snoc x l (pre ++ [y]), keysGo, List.cons_append, List.append_assoc]
    rfl

theorem entsGo_snoc (x : FE) : ∀ (l pre : List FE) (g : FK → Option FE), entsGo g pre (l ++ [x]) = upd (entsGo g pre l) (keyIn (pre ++ l) x) (some x)
  | [], pre, g => by simp [entsGo]
  | y :: l, pre, g => by
    rw [List.cons_append, entsGo, entsGo_snoc x l (pre ++ [y]), entsGo, List.append_assoc]
    rfl

theorem keys_snoc (l : List FE) (x : FE) : keysOf (l ++ [x]) = keysOf l ++ [keyIn l x] := by
  unfold keysOf
  rw [keysGo_snoc, List.nil_append]
theorem ents_snoc (l : List FE) (x : FE) : entsOf (l ++ [x]) = upd (entsOf l) (keyIn l x) (some x) := by
  unfold entsOf
  rw [entsGo_snoc, List.nil_append]

theorem keysGo_length : ∀ (l pre : List FE), (keysGo pre l).length = l.length
  | [], _ => rfl
  | x :: r, pre => by rw [keysGo, List.length_cons, keysGo_length r, List.length_cons]
theorem keys_length (l : List FE) : (keysOf l).length = l.length := keysGo_length l []

theorem keysGo_least : ∀ (l pre : List FE) (k : FK), k ∈ keysGo pre l → cnt pre k.1 k.2.1 ≤ k.2.2
  | [], _, _, h => by cases h
  | x :: r, pre, k, h => by
    rw [keysGo] at h
    rcases List.mem_cons.1 h with rfl | h
    · exact Int.le_refl _
    · have := keysGo_least r (pre ++ [x]) k h
      rw [cnt_append] at this
      have := cnt_pos [x] k.1 k.2.1
      omega

theorem keysGo_new (l pre : List FE) (x : FE) : keyIn pre x ∉ keysGo (pre ++ [x]) l := by
  intro h
  have := keysGo_least _ _ _ h
  unfold keyIn at this
  simp only at this
  rw [cnt_append, cnt_self] at this
  omega

theorem keysGo_nodup : ∀ (l pre : List FE), (keysGo pre l).Nodup
  | [], _ => List.nodup_nil
  | x :: r, pre => by
    rw [keysGo]
    exact List.nodup_cons.2 ⟨keysGo_new r pre x, keysGo_nodup r _⟩
theorem keys_nodup (l : List FE) : (keysOf l).Nodup := keysGo_nodup l []

theorem entsGo_other : ∀ (l pre : List FE) (g : FK → Option FE) (k : FK), k ∉ keysGo pre l → entsGo g pre l k = g k
  | [], _, _, _, _ => rfl
  | x :: r, pre, g, k, h => by
    rw [keysGo] at h
    have h1 : k ≠ keyIn pre x := fun e => h (by rw [e]; exact List.mem_cons_self)
    rw [entsGo, entsGo_other r (pre ++ [x]) _ k (fun hk => h (List.mem_cons_of_mem _ hk)), upd_other g _ h1]

theorem entsGo_map : ∀ (l pre : List FE) (g : FK → Option FE), (keysGo pre l).map (entsGo g pre l) = l.map some
  | [], _, _ => rfl
  | x :: r, pre, g => by
    rw [keysGo, entsGo, List.map_cons, List.map_cons, entsGo_map r (pre ++ [x])]
    rw [entsGo_other r (pre ++ [x]) _ _ (keysGo_new r pre x), upd_same]
theorem ents_map (l : List FE) : (keysOf l).map (entsOf l) = l.map some := entsGo_map l [] _

theorem ents_none (l : List FE) {k : FK} (h : k ∉ keysOf l) : entsOf l k = none := entsGo_other l [] _ k h

/-- What comes out, in the order of the keys, where each element is made another one or none. -/
theorem out_bind {ks : List FK} {g : FK → Option FE} {l : List FE} (h : ks.map g = l.map some) (f : FE → Option FE) : ks.filterMap (fun k => (g k).bind f) = l.filterMap f := by
  induction ks generalizing l with
  | nil =>
    cases l with
    | nil => rfl
    | cons y r => simp at h
  | cons k r ih =>
    cases l with
    | nil => simp at h
    | cons y r' =>
      simp only [List.map_cons, List.cons.injEq] at h
      rw [List.filterMap_cons, List.filterMap_cons, h.1, ih h.2]
      rfl

theorem out_all {ks : List FK} {g : FK → Option FE} {l : List FE} (h : ks.map g = l.map some) : ks.filterMap g = l := by
  have := out_bind h some
  have e : (fun k => (g k).bind some) = g := by funext k; cases g k <;> rfl
  rw [e] at this
  rw [this]
  exact List.filterMap_some

/-- The keys are numbers. -/
def FKok (k : FK) : Prop := (-9223372036854775808 ≤ k.1 ∧ k.1 ≤ 9223372036854775807) ∧ (-9223372036854775808 ≤ k.2.1 ∧ k.2.1 ≤ 9223372036854775807) ∧ (-9223372036854775808 ≤ k.2.2 ∧ k.2.2 ≤ 9223372036854775807)

theorem key_ok {pre : List FE} {x : FE} (hx : x.Rng) (hp : pre.length ≤ 16777216) : FKok (keyIn pre x) := by
  have h1 := cnt_pos pre x.t x.m
  have h2 := cnt_le pre x.t x.m
  exact ⟨hx.1, hx.2.1, by unfold keyIn; simp only; omega⟩

theorem keysGo_ok : ∀ (l pre : List FE), (∀ x ∈ l, x.Rng) → pre.length + l.length ≤ 16777216 → ∀ k ∈ keysGo pre l, FKok k
  | [], _, _, _, _, h => by cases h
  | x :: r, pre, hR, hl, k, h => by
    rw [keysGo] at h
    simp only [List.length_cons] at hl
    rcases List.mem_cons.1 h with rfl | h
    · exact key_ok (hR x (by simp)) (by omega)
    · exact keysGo_ok r (pre ++ [x]) (fun y hy => hR y (List.mem_cons_of_mem _ hy)) (by simp; omega) k h
theorem keys_ok {l : List FE} (hR : ∀ x ∈ l, x.Rng) (hl : l.length ≤ 16777216) : ∀ k ∈ keysOf l, FKok k := keysGo_ok l [] hR (by simpa using hl)

/-- How often each pair came so far, by its first key. -/
def cntF (l : List FE) : FK → Option Int := fun k => if k.2.2 = 0 ∧ 0 < cnt l k.1 k.2.1 then some (cnt l k.1 k.2.1) else none

theorem cntF_nil : cntF [] = fun _ => none := by
  funext k
  unfold cntF
  rw [if_neg]
  rw [cnt_nil]
  omega

theorem cntF_get (l : List FE) (t m : Int) : (cntF l (t, m, 0)).getD 0 = cnt l t m := by
  unfold cntF
  have := cnt_pos l t m
  simp only
  split
  · rfl
  · rename_i h
    simp only [true_and] at h
    show (0 : Int) = _
    omega

theorem cntF_snoc (l : List FE) (x : FE) : cntF (l ++ [x]) = upd (cntF l) (x.t, x.m, 0) (some (cnt l x.t x.m + 1)) := by
  funext k
  obtain ⟨t, m, c⟩ := k
  by_cases e : ((t, m, c) : FK) = (x.t, x.m, 0)
  · cases e
    rw [upd_same]
    unfold cntF
    simp only
    have := cnt_pos l x.t x.m
    rw [cnt_append, cnt_self, if_pos ⟨trivial, by omega⟩]
  · rw [upd_other _ _ e]
    unfold cntF
    simp only
    rw [cnt_append, cnt_one]
    by_cases hc : c = 0
    · have hb : both x t m = false := by
        rw [both_not]
        rintro ⟨rfl, rfl⟩
        exact e (by rw [hc])
      rw [hb]
      simp
    · simp [hc]

/-- The first static one of both goes. -/
theorem drop_pre {pre post : List FE} {e : FE} {t m : Int} (hp : ∀ x ∈ pre, (x.s && both x t m) = false) (he : (e.s && both e t m) = true) : dropF (pre ++ e :: post) t m = pre ++ post ∧ canDrop (pre ++ e :: post) t m = true := by
  induction pre with
  | nil =>
    refine ⟨?_, ?_⟩
    · rw [List.nil_append, List.nil_append, dropF, he]; rfl
    · unfold canDrop; rw [List.nil_append, List.any_cons, he]; rfl
  | cons y r ih =>
    obtain ⟨h1, h2⟩ := ih (fun x hx => hp x (List.mem_cons_of_mem _ hx))
    have hy := hp y (by simp)
    refine ⟨?_, ?_⟩
    · rw [List.cons_append, dropF, hy, if_neg Bool.false_ne_true, h1, List.cons_append]
    · unfold canDrop at *; rw [List.cons_append, List.any_cons, h2, Bool.or_true]

theorem drop_none {l : List FE} {t m : Int} (hp : ∀ x ∈ l, (x.s && both x t m) = false) : dropF l t m = l ∧ canDrop l t m = false := by
  induction l with
  | nil => exact ⟨rfl, rfl⟩
  | cons y r ih =>
    obtain ⟨h1, h2⟩ := ih (fun x hx => hp x (List.mem_cons_of_mem _ hx))
    have hy := hp y (by simp)
    refine ⟨?_, ?_⟩
    · rw [dropF, hy, if_neg Bool.false_ne_true, h1]
    · unfold canDrop at *; rw [List.any_cons, h2, hy]; rfl

theorem map_out {ks : List FK} {g g' : FK → Option FE} (h : ∀ k ∈ ks, g' k = g k) : ks.filterMap g' = ks.filterMap g := by
  induction ks with
  | nil => rfl
  | cons k r ih =>
    rw [List.filterMap_cons, List.filterMap_cons, h k (by simp), ih (fun x hx => h x (List.mem_cons_of_mem _ hx))]

/-- One key is struck out: what comes out lacks its element alone. -/
theorem out_struck {l : List FE} {i : Nat} {e : FE} {k : FK} (hk : (keysOf l)[i]? = some k) (he : l[i]? = some e) : (keysOf l).filterMap (upd (entsOf l) k none) = l.take i ++ l.drop (i + 1) := by
  have hik := (List.getElem?_eq_some_iff.1 hk).1
  have hil := (List.getElem?_eq_some_iff.1 he).1
  have hkk : (keysOf l)[i] = k := by rw [List.getElem?_eq_getElem hik] at hk; exact Option.some.inj hk
  have hsp : keysOf l = (keysOf l).take i ++ k :: (keysOf l).drop (i + 1) := by
    rw [← hkk, ← List.drop_eq_getElem_cons hik, List.take_append_drop]
  have hnd := keys_nodup l
  rw [hsp] at hnd
  have hn1 : k ∉ (keysOf l).take i := by
    intro h
    exact (List.nodup_append.1 hnd).2.2 k h k (by simp) rfl
  have hn2 : k ∉ (keysOf l).drop (i + 1) := (List.nodup_cons.1 (List.nodup_append.1 hnd).2.1).1
  have hm := ents_map l
  have hm1 : ((keysOf l).take i).map (entsOf l) = (l.take i).map some := by rw [List.map_take, hm, List.map_take]
  have hm2 : ((keysOf l).drop (i + 1)).map (entsOf l) = (l.drop (i + 1)).map some := by rw [List.map_drop, hm, List.map_drop]
  rw [hsp, List.filterMap_append, List.filterMap_cons, upd_same]
  have e1 : ((keysOf l).take i).filterMap (upd (entsOf l) k none) = l.take i := by
    rw [map_out (g := entsOf l) (fun x hx => upd_other (entsOf l) (a := k) none (fun e => hn1 (by rw [← e]; exact hx)))]
    exact out_all hm1
  have e2 : ((keysOf l).drop (i + 1)).filterMap (upd (entsOf l) k none) = l.drop (i + 1) := by
    rw [map_out (g := entsOf l) (fun x hx => upd_other (entsOf l) (a := k) none (fun e => hn2 (by rw [← e]; exact hx)))]
    exact out_all hm2
  rw [e1]
  simp only
  rw [e2]

/-- The keys and the entries, place by place. -/
theorem keys_at {l : List FE} {i : Nat} {k : FK} (hk : (keysOf l)[i]? = some k) : ∃ e, l[i]? = some e ∧ entsOf l k = some e := by
  have hm := ents_map l
  have h1 : ((keysOf l).map (entsOf l))[i]? = some (entsOf l k) := by rw [List.getElem?_map, hk]; rfl
  rw [hm, List.getElem?_map] at h1
  cases he : l[i]? with
  | none => rw [he] at h1; cases h1
  | some e =>
    rw [he] at h1
    simp at h1
    exact ⟨e, rfl, h1.symm⟩

theorem keysGo_pair : ∀ (l pre : List FE) (i : Nat) (k : FK) (e : FE), (keysGo pre l)[i]? = some k → l[i]? = some e → k.1 = e.t ∧ k.2.1 = e.m
  | [], _, _, _, _, _, h => by simp at h
  | x :: r, pre, 0, k, e, h1, h2 => by
    rw [keysGo] at h1
    simp at h1 h2
    subst h1 h2
    exact ⟨rfl, rfl⟩
  | x :: r, pre, i + 1, k, e, h1, h2 => by
    rw [keysGo] at h1
    exact keysGo_pair r (pre ++ [x]) i k e (by simpa using h1) (by simpa using h2)
theorem keys_pair {l : List FE} {i : Nat} {k : FK} {e : FE} (h1 : (keysOf l)[i]? = some k) (h2 : l[i]? = some e) : k.1 = e.t ∧ k.2.1 = e.m := keysGo_pair l [] i k e h1 h2

end Go.Proofs.Ytmcikcpkggonfaa
