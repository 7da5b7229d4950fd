/-
  Maps as functions: which key has which element; how that stays, how it is looked up, stored and deleted, and how a range over the map goes while its own entries are stored anew or deleted.
-/
import Derived.Test.YtmcikcpkggonfaaMem
import Derived.Maps.RangeWalk
namespace Go.Proofs.Ytmcikcpkggonfaa
open Go.RowKit Go.ChangeMaps Go.MapKept
open Go.WideElems (Fit rd rd_mk rd_key other_key)
open Go.Maps (Keyed)

/-- Every element reads: what it is the function tells. -/
def rdAny (_ : Value) : Option (DataW Unit × List MemPlace) := some (.nil, [])

/-- A kind of map: its types, how a key and an element lie in memory. -/
structure MK (P : Program) (α β : Type) where
  T : TypeId
  K : TypeId
  E : TypeId
  law : Keyed P K
  und : P.underlying T = some (.map K E)
  kv : α → Value
  vv : β → Value
  ok : α → Prop
  key : ∀ a, ok a → ∃ l, keyOf P K (kv a) = some l
  inj : ∀ a b, kv a = kv b → a = b
  z : β
  zero : ∀ w, (zeroValue E).run P w = .ok (vv z) w

/-- One place of a function turned. -/
def upd {α γ : Type} [DecidableEq α] (g : α → γ) (a : α) (v : γ) : α → γ := fun x => if x = a then v else g x

theorem upd_same {α γ : Type} [DecidableEq α] (g : α → γ) (a : α) (v : γ) : upd g a v a = v := if_pos rfl
theorem upd_other {α γ : Type} [DecidableEq α] (g : α → γ) {a b : α} (v : γ) (h : b ≠ a) : upd g a v b = g b := if_neg h

variable {P : Program} {α β : Type}

/-- These entries hold just this function. -/
structure Ents (M : MK P α β) (es : Array MapEntry) (clock n : Nat) (g : α → Option β) : Prop where
  fit : Fit P M.K rdAny es clock
  size : es.size ≤ n
  down : ∀ x ∈ es.toList, ∃ a v, M.ok a ∧ x.key = M.kv a ∧ x.val = M.vv v ∧ g a = some v
  up : ∀ a v, g a = some v → ∃ x ∈ es.toList, x.key = M.kv a ∧ x.val = M.vv v

/-- Block b is a map that holds just this function, of at most n entries. -/
def MapIs (M : MK P α β) (w : World) (b n : Nat) (g : α → Option β) : Prop := ∃ es clock, w.heap[b]? = some (.map es clock) ∧ Ents M es clock n g

theorem MapIs.made (M : MK P α β) (w : World) : MapIs M (w.alloc (.map #[] 0)) w.heap.size 0 (fun _ => none) :=
  ⟨#[], 0, block_last w _, ⟨⟨by simp, stamped_empty 0, by simp⟩, Nat.le_refl _, by simp, by simp⟩⟩

theorem MapIs.block {M : MK P α β} {w w' : World} {b n : Nat} {g : α → Option β} (h : MapIs M w b n g) (hb : w'.heap[b]? = w.heap[b]?) : MapIs M w' b n g := by
  obtain ⟨es, clock, h1, h2⟩ := h
  exact ⟨es, clock, hb.trans h1, h2⟩

theorem MapIs.lt {M : MK P α β} {w : World} {b n : Nat} {g : α → Option β} (h : MapIs M w b n g) : b < w.heap.size := by
  obtain ⟨es, clock, h1, -⟩ := h
  exact (Array.getElem?_eq_some_iff.1 h1).1

theorem MapIs.below {M : MK P α β} {w w' : World} {b n B : Nat} {g : α → Option β} (h : MapIs M w b n g) (hb : Below B w w') (hB : b < B) : MapIs M w' b n g := h.block (hb.block b hB)

theorem MapIs.kept {M : MK P α β} {w w' : World} {b n : Nat} {g : α → Option β} (h : MapIs M w b n g) (hb : Below w.heap.size w w') : MapIs M w' b n g := h.below hb h.lt

theorem MapIs.grown {M : MK P α β} {w w' : World} {b n : Nat} {g : α → Option β} (h : MapIs M w b n g) {row : Option Nat} (hg : w.grownBy w' row) (hne : row ≠ some b) : MapIs M w' b n g := h.block (hg.block b h.lt (fun e => hne e.symm))

theorem MapIs.mono {M : MK P α β} {w : World} {b n n' : Nat} {g : α → Option β} (h : MapIs M w b n g) (hn : n ≤ n') : MapIs M w b n' g := by
  obtain ⟨es, clock, h1, h2⟩ := h
  exact ⟨es, clock, h1, h2.fit, Nat.le_trans h2.size hn, h2.down, h2.up⟩

theorem ents_key {M : MK P α β} {es : Array MapEntry} {clock n : Nat} {g : α → Option β} (h : Ents M es clock n g) {x : MapEntry} (hx : x ∈ es.toList) {a : α} (hk : x.key = M.kv a) : ∃ v, x.val = M.vv v ∧ g a = some v := by
  obtain ⟨a', v, _, h1, h2, h3⟩ := h.down x hx
  have : a' = a := M.inj _ _ (h1.symm.trans hk)
  subst this
  exact ⟨v, h2, h3⟩

/-- What is looked up. -/
theorem MapIs.look {M : MK P α β} {w : World} {b n : Nat} {g : α → Option β} (h : MapIs M w b n g) (c : Bool) {a : α} (ha : M.ok a) :
    (Instr.lookup M.T (.map (some b)) (M.kv a) c).run P w = .ok (if c = true then .tuple #[M.vv ((g a).getD M.z), .bool (g a).isSome] else M.vv ((g a).getD M.z)) w := by
  obtain ⟨es, clock, hb, he⟩ := h
  obtain ⟨kl, hkey⟩ := M.key a ha
  rcases M.law.find w hkey es.toList he.fit.keys with ⟨h1, h2⟩ | ⟨j, e0, h1, h2, h3⟩
  · have hg : g a = none := by
      cases hga : g a with
      | none => rfl
      | some v =>
        obtain ⟨x, hx, hk, _⟩ := he.up a v hga
        exact absurd hk (h2 x hx)
    rw [hg]
    simp [Instr.lookup, run_underlying M.und, MapKept.run_getObj_map hb, M.law.check w _ hkey, h1, M.zero, Result.andThen]
  · obtain ⟨v, hv, hg⟩ := ents_key he (List.mem_of_getElem? h2) h3
    rw [hg]
    simp [Instr.lookup, run_underlying M.und, MapKept.run_getObj_map hb, M.law.check w _ hkey, h1, hv, Result.andThen]

/-- What a store makes of the entries: which were there, where the stamps are. -/
theorem ents_store [DecidableEq α] {M : MK P α β} {w : World} {b n : Nat} {es : Array MapEntry} {clock : Nat} {g : α → Option β} (hb : w.heap[b]? = some (.map es clock)) (he : Ents M es clock n g) (hn : n < maxLen) {a : α} (ha : M.ok a) (v : β) :
    ∃ es' clock', (Instr.mapUpdate M.T (.map (some b)) (M.kv a) (M.vv v)).run P w = .ok () (setBlock w b (.map es' clock')) ∧ Ents M es' clock' (n + 1) (upd g a (some v)) ∧
      ((g a).isSome = true → clock' = clock ∧ es'.size = es.size ∧ (∀ x' ∈ es'.toList, ∃ x ∈ es.toList, x.key = x'.key ∧ x.born = x'.born) ∧ es'.toList.map (·.born) = es.toList.map (·.born)) := by
  obtain ⟨kl, hkey⟩ := M.key a ha
  rcases M.law.find w hkey es.toList he.fit.keys with ⟨h1, h2⟩ | ⟨j, e0, h1, h2, h3⟩
  · have hg : g a = none := by
      cases hga : g a with
      | none => rfl
      | some u =>
        obtain ⟨x, hx, hk, _⟩ := he.up a u hga
        exact absurd hk (h2 x hx)
    have hsz := he.size
    refine ⟨es.push ⟨M.kv a, M.vv v, clock⟩, clock + 1, ?_, ⟨⟨by simp; omega, stamped_push he.fit.stamped h2, ?_⟩, by simp; omega, ?_, ?_⟩, ?_⟩
    · simp [Instr.mapUpdate, run_underlying M.und, MapKept.run_getObj_map hb, M.law.check w false hkey, h1, MapKept.run_setObj_map _ hb, Result.andThen, setBlock]
    · intro x hx
      simp only [Array.toList_push, List.mem_append, List.mem_singleton] at hx
      rcases hx with hx | rfl
      · exact he.fit.reads x hx
      · exact ⟨_, rd_mk (R := rdAny) hkey rfl⟩
    · intro x hx
      simp only [Array.toList_push, List.mem_append, List.mem_singleton] at hx
      rcases hx with hx | rfl
      · obtain ⟨a', v', h4, h5, h6, h7⟩ := he.down x hx
        refine ⟨a', v', h4, h5, h6, ?_⟩
        rw [upd_other g _ (fun e => h2 x hx (by rw [h5, e]))]
        exact h7
      · exact ⟨a, v, ha, rfl, rfl, upd_same g a _⟩
    · intro a' v' h4
      by_cases e : a' = a
      · subst e
        rw [upd_same] at h4
        cases h4
        exact ⟨⟨M.kv a', M.vv v, clock⟩, by simp, rfl, rfl⟩
      · rw [upd_other g _ e] at h4
        obtain ⟨x, hx, h5, h6⟩ := he.up a' v' h4
        exact ⟨x, by simp only [Array.toList_push, List.mem_append]; exact .inl hx, h5, h6⟩
    · rw [hg]; intro h; cases h
  · have hj : es[j]? = some e0 := by simpa using h2
    have hjl : j < es.toList.length := (List.getElem?_eq_some_iff.1 h2).1
    have hm0 := List.mem_of_getElem? h2
    have hlist : (es.modify j (fun e' => { e' with key := M.kv a, val := M.vv v })).toList = es.toList.set j { e0 with key := M.kv a, val := M.vv v } := by rw [Array.toList_modify, modify_eq_set _ _ _ _ h2]
    have who : ∀ x ∈ es.toList.set j { e0 with key := M.kv a, val := M.vv v }, x = { e0 with key := M.kv a, val := M.vv v } ∨ (x ∈ es.toList ∧ x.key ≠ M.kv a) := by
      intro x hx
      obtain ⟨i, hi, ex⟩ := List.getElem_of_mem hx
      rw [List.getElem_set] at ex
      split at ex
      · exact Or.inl ex.symm
      · rename_i hne
        have hi' : i < es.toList.length := by simpa using hi
        refine Or.inr ⟨ex ▸ List.getElem_mem hi', ?_⟩
        rw [← h3]
        exact other_key he.fit h2 (by rw [List.getElem?_eq_getElem hi', ex]) (fun e1 => hne e1.symm)
    have hkeyf : ∀ e', es[j]? = some e' → ({ e' with key := M.kv a, val := M.vv v } : MapEntry).key = e'.key := fun e' he' => by rw [hj] at he'; cases he'; exact h3.symm
    have hsz := he.size
    refine ⟨es.modify j (fun e' => { e' with key := M.kv a, val := M.vv v }), clock, ?_, ⟨⟨by simpa using he.fit.size, stamped_modify he.fit.stamped _ _ (fun _ _ => rfl) (fun e' _ he' => hkeyf e' he'), ?_⟩, by simp; omega, ?_, ?_⟩, ?_⟩
    · simp [Instr.mapUpdate, run_underlying M.und, MapKept.run_getObj_map hb, M.law.check w false hkey, h1, hj, h3, M.law.stays w hkey, MapKept.run_setObj_map _ hb, Result.andThen, setBlock]
    · intro x hx
      rw [hlist] at hx
      rcases who x hx with rfl | ⟨hx', _⟩
      · exact ⟨_, rd_mk (R := rdAny) hkey rfl⟩
      · exact he.fit.reads x hx'
    · intro x hx
      rw [hlist] at hx
      rcases who x hx with rfl | ⟨hx', hne⟩
      · exact ⟨a, v, ha, rfl, rfl, upd_same g a _⟩
      · obtain ⟨a', v', h4, h5, h6, h7⟩ := he.down x hx'
        refine ⟨a', v', h4, h5, h6, ?_⟩
        rw [upd_other g _ (fun e => hne (by rw [h5, e]))]
        exact h7
    · intro a' v' h4
      rw [hlist]
      by_cases e : a' = a
      · subst e
        rw [upd_same] at h4
        cases h4
        exact ⟨{ e0 with key := M.kv a', val := M.vv v }, List.mem_iff_getElem.2 ⟨j, by simpa using hjl, by simp⟩, rfl, rfl⟩
      · rw [upd_other g _ e] at h4
        obtain ⟨x, hx, h5, h6⟩ := he.up a' v' h4
        obtain ⟨i, hi, ex⟩ := List.getElem_of_mem hx
        have hij : j ≠ i := by
          intro e1
          subst e1
          rw [List.getElem?_eq_getElem hi] at h2
          cases h2
          rw [ex] at h3
          exact e (M.inj _ _ (h5.symm.trans h3))
        exact ⟨x, List.mem_iff_getElem.2 ⟨i, by simpa using hi, by rw [List.getElem_set_ne hij]; exact ex⟩, h5, h6⟩
    · intro _
      refine ⟨rfl, by simp, ?_, ?_⟩
      · intro x' hx'
        rw [hlist] at hx'
        rcases who x' hx' with rfl | ⟨hx, _⟩
        · exact ⟨e0, hm0, h3, rfl⟩
        · exact ⟨x', hx, rfl, rfl⟩
      · rw [hlist, List.map_set]
        have : (es.toList.map (·.born))[j]'(by simpa using hjl) = e0.born := by
          obtain ⟨hl, e1⟩ := List.getElem?_eq_some_iff.1 h2
          simp [← e1]
        rw [← this]
        exact List.set_getElem_self _

/-- What is stored. -/
theorem MapIs.store [DecidableEq α] {M : MK P α β} {w : World} {b n : Nat} {g : α → Option β} (h : MapIs M w b n g) (hn : n < maxLen) {a : α} (ha : M.ok a) (v : β) :
    ∃ w', (Instr.mapUpdate M.T (.map (some b)) (M.kv a) (M.vv v)).run P w = .ok () w' ∧ MapIs M w' b (n + 1) (upd g a (some v)) ∧ w.grownBy w' (some b) ∧ w'.heap.size = w.heap.size := by
  obtain ⟨es, clock, hb, he⟩ := h
  obtain ⟨es', clock', hrun, he', -⟩ := ents_store hb he hn ha v
  exact ⟨_, hrun, ⟨es', clock', heap_setBlock_same hb _, he'⟩, ⟨rfl, rfl, rfl, by simp [setBlock], fun i _ hi => heap_setBlock_other hb _ (fun e => hi (by rw [e]))⟩, by simp [setBlock]⟩

/-- What a delete makes of the entries. -/
theorem ents_drop [DecidableEq α] {M : MK P α β} {w : World} {b n : Nat} {es : Array MapEntry} {clock : Nat} {g : α → Option β} (hb : w.heap[b]? = some (.map es clock)) (he : Ents M es clock n g) {a : α} (ha : M.ok a) (ty : TypeId) :
    ∃ es', (Builtin.delete_ #[M.T, M.K] ty #[.map (some b), M.kv a]).run P w = .ok (.tuple #[]) (setBlock w b (.map es' clock)) ∧ Ents M es' clock n (upd g a none) ∧ es'.toList.Sublist es.toList ∧ ∀ x, x ∈ es'.toList ↔ (x ∈ es.toList ∧ x.key ≠ M.kv a) := by
  obtain ⟨kl, hkey⟩ := M.key a ha
  obtain ⟨es', hrun, hfit, hsz, -, hsub, hwho⟩ := fit_drop_who (ty := ty) M.law M.und hb he.fit hkey
  refine ⟨es', hrun, ⟨hfit, Nat.le_trans hsz he.size, ?_, ?_⟩, hsub, hwho⟩
  · intro x hx
    obtain ⟨hx1, hx2⟩ := (hwho x).1 hx
    obtain ⟨a', v', h4, h5, h6, h7⟩ := he.down x hx1
    refine ⟨a', v', h4, h5, h6, ?_⟩
    rw [upd_other g _ (fun e => hx2 (by rw [h5, e]))]
    exact h7
  · intro a' v' h4
    by_cases e : a' = a
    · subst e
      rw [upd_same] at h4
      cases h4
    · rw [upd_other g _ e] at h4
      obtain ⟨x, hx, h5, h6⟩ := he.up a' v' h4
      exact ⟨x, (hwho x).2 ⟨hx, fun e1 => e (M.inj _ _ (h5.symm.trans e1))⟩, h5, h6⟩

theorem MapIs.drop [DecidableEq α] {M : MK P α β} {w : World} {b n : Nat} {g : α → Option β} (h : MapIs M w b n g) {a : α} (ha : M.ok a) (ty : TypeId) :
    ∃ w', (Builtin.delete_ #[M.T, M.K] ty #[.map (some b), M.kv a]).run P w = .ok (.tuple #[]) w' ∧ MapIs M w' b n (upd g a none) ∧ w.grownBy w' (some b) ∧ w'.heap.size = w.heap.size := by
  obtain ⟨es, clock, hb, he⟩ := h
  obtain ⟨es', hrun, he', -, -⟩ := ents_drop hb he ha ty
  exact ⟨_, hrun, ⟨es', clock, heap_setBlock_same hb _, he'⟩, ⟨rfl, rfl, rfl, by simp [setBlock], fun i _ hi => heap_setBlock_other hb _ (fun e => hi (by rw [e]))⟩, by simp [setBlock]⟩

/-- A range over the map under way: block r is its iterator; who is still to come; how many. -/
def Ranging (M : MK P α β) (w : World) (b r n : Nat) (g : α → Option β) (left : α → Bool) (cnt : Nat) : Prop :=
  ∃ es clock since seen c0, w.heap[b]? = some (.map es clock) ∧ Ents M es clock n g ∧ w.heap[r]? = some (.mapIter (some b) since seen c0) ∧ (∀ x ∈ es.toList, x.born < since) ∧ (leftOf es seen).size = cnt ∧
    (∀ x ∈ es.toList, ∀ a, x.key = M.kv a → left a = !seen.contains x.born) ∧ (∀ a, left a = true → (g a).isSome = true) ∧ since ≤ c0 ∧ since ≤ clock

theorem Ranging.is {M : MK P α β} {w : World} {b r n : Nat} {g : α → Option β} {left : α → Bool} {cnt : Nat} (h : Ranging M w b r n g left cnt) : MapIs M w b n g := by
  obtain ⟨es, clock, since, seen, c0, hb, he, -⟩ := h
  exact ⟨es, clock, hb, he⟩

theorem Ranging.ne {M : MK P α β} {w : World} {b r n : Nat} {g : α → Option β} {left : α → Bool} {cnt : Nat} (h : Ranging M w b r n g left cnt) : r ≠ b := by
  obtain ⟨es, clock, since, seen, c0, hb, he, hr, -⟩ := h
  intro e
  rw [e, hb] at hr
  cases hr

theorem Ranging.lt {M : MK P α β} {w : World} {b r n : Nat} {g : α → Option β} {left : α → Bool} {cnt : Nat} (h : Ranging M w b r n g left cnt) : r < w.heap.size := by
  obtain ⟨es, clock, since, seen, c0, hb, he, hr, -⟩ := h
  exact (Array.getElem?_eq_some_iff.1 hr).1

theorem Ranging.kept {M : MK P α β} {w w' : World} {b r n : Nat} {g : α → Option β} {left : α → Bool} {cnt : Nat} (h : Ranging M w b r n g left cnt) (hb1 : w'.heap[b]? = w.heap[b]?) (hr1 : w'.heap[r]? = w.heap[r]?) : Ranging M w' b r n g left cnt := by
  obtain ⟨es, clock, since, seen, c0, hb, he, hr, rest⟩ := h
  exact ⟨es, clock, since, seen, c0, hb1.trans hb, he, hr1.trans hr, rest⟩

theorem Ranging.below {M : MK P α β} {w w' : World} {b r n : Nat} {g : α → Option β} {left : α → Bool} {cnt : Nat} (h : Ranging M w b r n g left cnt) (hb : Below w.heap.size w w') : Ranging M w' b r n g left cnt :=
  h.kept (hb.block b h.is.lt) (hb.block r h.lt)

/-- How many are still to come, read off the world: for the loop's measure. -/
theorem Ranging.left_eq {M : MK P α β} {w : World} {b r n : Nat} {g : α → Option β} {left : α → Bool} {cnt : Nat} (h : Ranging M w b r n g left cnt) : w.rangeLeft b r = cnt := by
  obtain ⟨es, clock, since, seen, c0, hb, he, hr, h1, h2, -⟩ := h
  simp only [World.rangeLeft, hb, hr]
  exact h2

/-- The range begins. -/
theorem MapIs.range {M : MK P α β} {w : World} {b n : Nat} {g : α → Option β} (h : MapIs M w b n g) :
    ∃ w' cnt, (Instr.range M.T (.map (some b))).run P w = .ok (.pointer (some ⟨w.heap.size, 0, none⟩)) w' ∧ Ranging M w' b w.heap.size n g (fun a => (g a).isSome) cnt ∧ Below w.heap.size w w' ∧ w'.heap.size = w.heap.size + 1 := by
  have hlt := h.lt
  obtain ⟨es, clock, hb, he⟩ := h
  refine ⟨_, _, run_range_map w M.T M.K M.E b es clock M.und hb, ⟨es, clock, clock, #[], clock, ((MapKept.heap_alloc w _).2 b hlt).trans hb, he, (MapKept.heap_alloc w _).1, he.fit.stamped.1, rfl, ?_, ?_, Nat.le_refl _, Nat.le_refl _⟩, below_one w _, by simp⟩
  · intro x hx a hk
    obtain ⟨v, _, hg⟩ := ents_key he hx hk
    simp [hg]
  · intro a ha
    exact ha

/-- The step. -/
theorem Ranging.next [DecidableEq α] {M : MK P α β} {w : World} {b r n : Nat} {g : α → Option β} {left : α → Bool} {cnt : Nat} (h : Ranging M w b r n g left cnt) (ty : TypeId) :
    (cnt = 0 ∧ (∀ a, left a = false) ∧ (Instr.next (.pointer (some ⟨r, 0, none⟩)) false ty).run P w = .ok (.tuple #[.bool false]) w) ∨
    ∃ a v w' cnt', M.ok a ∧ left a = true ∧ g a = some v ∧ (Instr.next (.pointer (some ⟨r, 0, none⟩)) false ty).run P w = .ok (.tuple #[.bool true, M.kv a, M.vv v]) w' ∧
      Ranging M w' b r n g (upd left a false) cnt' ∧ cnt' < cnt ∧ w.grownBy w' (some r) ∧ w'.heap.size = w.heap.size ∧ (Instr.entry (.pointer (some ⟨r, 0, none⟩))).run P w' = .ok (.tuple #[M.kv a, M.vv v]) w' := by
  have hne := h.ne
  obtain ⟨es, clock, since, seen, c0, hb, he, hr, hold, rfl, hl1, hl2, hsc, hsk⟩ := h
  have hst := (stamped_iff es clock).1 he.fit.stamped
  rcases run_next_at (P := P) w ty r b since c0 seen es clock hr hb hold hsc with ⟨h0, hrun⟩ | ⟨e, hem', w1, hal, hrun⟩
  · refine Or.inl ⟨h0, fun a => ?_, hrun⟩
    cases hk : left a
    · rfl
    · obtain ⟨v, hv⟩ := Option.isSome_iff_exists.1 (hl2 a hk)
      obtain ⟨x, hx, hxk, _⟩ := he.up a v hv
      rw [hl1 x hx a hxk, all_seen es seen h0 x hx] at hk
      cases hk
  · obtain ⟨hem, hes⟩ := mem_left hem'
    obtain ⟨a, v, hok, hka, hva, hga⟩ := he.down e hem
    have hr1 : w1.heap[r]? = some (.mapIter (some b) since seen c0) := by rcases hal with rfl | rfl <;> exact hr
    have hb1 : w1.heap[b]? = some (.map es clock) := by rcases hal with rfl | rfl <;> exact hb
    have hset := heap_set (o' := .mapIter (some b) since (seen.push e.born) clock) hr1
    have hb' : (setBlock w1 r (.mapIter (some b) since (seen.push e.born) clock)).heap[b]? = some (.map es clock) := (hset.2 b (fun e1 => hne e1.symm)).trans hb1
    rw [hka, hva] at hrun
    refine Or.inr ⟨a, v, _, _, hok, by rw [hl1 e hem a hka, hes]; rfl, hga, hrun,
      ⟨es, clock, since, seen.push e.born, clock, hb', he, hset.1, hold, rfl, fun x hx a' hxa => ?_, fun a' ha' => ?_, hsk, hsk⟩, left_shrinks es seen e hem', ?_, ?_, ?_⟩
    · rw [contains_push]
      by_cases e1 : a' = a
      · subst e1
        rw [upd_same]
        have : x = e := entry_eq_of_key hst.2.2 hx hem (hxa.trans hka.symm)
        subst this
        simp
      · rw [upd_other left _ e1, hl1 x hx a' hxa]
        have : (x.born == e.born) = false := by
          rw [beq_eq_false_iff_ne]
          intro e2
          have := born_inj hst.2.1 hx hem e2
          subst this
          exact e1 (M.inj _ _ (hxa.symm.trans hka))
        rw [this, Bool.or_false]
    · refine hl2 a' ?_
      by_cases e1 : a' = a
      · subst e1
        rw [upd_same] at ha'
        cases ha'
      · rw [upd_other left _ e1] at ha'
        exact ha'
    · rcases hal with rfl | rfl <;> exact ⟨rfl, rfl, rfl, by simp [setBlock], fun i _ hi => hset.2 i (fun e1 => hi (by rw [e1]))⟩
    · rcases hal with rfl | rfl <;> simp [setBlock]
    · have := run_entry_at (P := P) _ r b since seen es clock e hset.1 hb' hem hst.2.1
      rw [hka, hva] at this
      exact this

theorem left_length (es : Array MapEntry) (seen : Array Nat) : (leftOf es seen).size = ((es.toList.map (·.born)).filter fun k => !seen.contains k).length := by
  unfold leftOf
  rw [← Array.length_toList, Array.toList_filter, List.filter_map, List.length_map]
  rfl

/-- An entry that is there is stored anew while the range goes on. -/
theorem Ranging.store [DecidableEq α] {M : MK P α β} {w : World} {b r n : Nat} {g : α → Option β} {left : α → Bool} {cnt : Nat} (h : Ranging M w b r n g left cnt) (hn : n < maxLen) {a : α} (ha : M.ok a) (hs : (g a).isSome = true) (v : β) :
    ∃ w', (Instr.mapUpdate M.T (.map (some b)) (M.kv a) (M.vv v)).run P w = .ok () w' ∧ Ranging M w' b r n (upd g a (some v)) left cnt ∧ w.grownBy w' (some b) ∧ w'.heap.size = w.heap.size := by
  have hne := h.ne
  obtain ⟨es, clock, since, seen, c0, hb, he, hr, hold, rfl, hl1, hl2, hsc, hsk⟩ := h
  obtain ⟨es', clock', hrun, he', hz⟩ := ents_store hb he hn ha v
  obtain ⟨rfl, hsz, hwho, hborn⟩ := hz hs
  refine ⟨_, hrun, ⟨es', clock', since, seen, c0, heap_setBlock_same hb _, ⟨he'.fit, by rw [hsz]; exact he.size, he'.down, he'.up⟩, (heap_setBlock_other hb _ hne).trans hr, ?_, ?_, ?_, ?_, hsc, hsk⟩, ⟨rfl, rfl, rfl, by simp [setBlock], fun i _ hi => heap_setBlock_other hb _ (fun e => hi (by rw [e]))⟩, by simp [setBlock]⟩
  · intro x' hx'
    obtain ⟨x, hx, _, hxb⟩ := hwho x' hx'
    rw [← hxb]
    exact hold x hx
  · rw [left_length, left_length, hborn]
  · intro x' hx' a' hk
    obtain ⟨x, hx, hxk, hxb⟩ := hwho x' hx'
    rw [← hxb]
    exact hl1 x hx a' (hxk.trans hk)
  · intro a' ha'
    by_cases e : a' = a
    · subst e; rw [upd_same]; rfl
    · rw [upd_other g _ e]; exact hl2 a' ha'

/-- An entry is deleted that came already. -/
theorem Ranging.drop [DecidableEq α] {M : MK P α β} {w : World} {b r n : Nat} {g : α → Option β} {left : α → Bool} {cnt : Nat} (h : Ranging M w b r n g left cnt) {a : α} (ha : M.ok a) (hs : left a = false) (ty : TypeId) :
    ∃ w' cnt', (Builtin.delete_ #[M.T, M.K] ty #[.map (some b), M.kv a]).run P w = .ok (.tuple #[]) w' ∧ Ranging M w' b r n (upd g a none) left cnt' ∧ cnt' ≤ cnt ∧ w.grownBy w' (some b) ∧ w'.heap.size = w.heap.size := by
  have hne := h.ne
  obtain ⟨es, clock, since, seen, c0, hb, he, hr, hold, rfl, hl1, hl2, hsc, hsk⟩ := h
  obtain ⟨es', hrun, he', hsub, hwho⟩ := ents_drop hb he ha ty
  refine ⟨_, _, hrun, ⟨es', clock, since, seen, c0, heap_setBlock_same hb _, he', (heap_setBlock_other hb _ hne).trans hr, ?_, rfl, ?_, ?_, hsc, hsk⟩, ?_, ⟨rfl, rfl, rfl, by simp [setBlock], fun i _ hi => heap_setBlock_other hb _ (fun e => hi (by rw [e]))⟩, by simp [setBlock]⟩
  · intro x hx
    exact hold x ((hwho x).1 hx).1
  · intro x hx a' hk
    exact hl1 x ((hwho x).1 hx).1 a' hk
  · intro a' ha'
    by_cases e : a' = a
    · subst e; rw [hs] at ha'; cases ha'
    · rw [upd_other g _ e]; exact hl2 a' ha'
  · rw [left_length, left_length]
    exact ((hsub.map _).filter _).length_le
end Go.Proofs.Ytmcikcpkggonfaa
