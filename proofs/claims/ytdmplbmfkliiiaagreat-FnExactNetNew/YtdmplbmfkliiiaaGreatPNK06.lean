/-
  Packed: MapIs MapEnt FdbKeys GTake NetMarkL TextRow MarkText.
-/
import Derived.Test.YtdmplbmfkliiiaaGreatPNK01
import Derived.Test.YtdmplbmfkliiiaaGreatPNK02
import Derived.Maps.RangeWalk
import Derived.Laws.IdiomStrings
namespace Go.Proofs.YtdmplbmfkliiiaaGreat
open Go.RowKit

section
open Go.RowKit Go.ChangeMaps Go.MapKept
open Go.WideElems (Fit rd rd_mk rd_key other_key)
open Go.Maps (Keyed)

def rdAny (_ : Value) : Option (DataW Unit × List MemPlace) := some (.nil, [])

structure MK (P : Program) (α β : Type) where
 T : TypeId
 K : TypeId
 E : TypeId
 law : Keyed P K
 und : P.underlying T = some (.map K E)
 kv : α → Value
 vv : β → Value
 ok : α → Prop
 key : ∀ a, ok a → ∃ l, keyOf P K (kv a) = some l
 inj : ∀ a b, kv a = kv b → a = b
 z : β
 zero : ∀ w, (zeroValue E).run P w = .ok (vv z) w

def upd {α γ : Type} [DecidableEq α] (g : α → γ) (a : α) (v : γ) : α → γ := fun x => if x = a then v else g x

theorem upd_same {α γ : Type} [DecidableEq α] (g : α → γ) (a : α) (v : γ) : upd g a v a = v := if_pos rfl
theorem upd_other {α γ : Type} [DecidableEq α] (g : α → γ) {a b : α} (v : γ) (h : b ≠ a) : upd g a v b = g b := if_neg h

variable {P : Program} {α β : Type}

structure Ents (M : MK P α β) (es : Array MapEntry) (clock n : Nat) (g : α → Option β) : Prop where
 fit : Fit P M.K rdAny es clock
 size : es.size ≤ n
 down : ∀ x ∈ es.toList, ∃ a v, M.ok a ∧ x.key = M.kv a ∧ x.val = M.vv v ∧ g a = some v
 up : ∀ a v, g a = some v → ∃ x ∈ es.toList, x.key = M.kv a ∧ x.val = M.vv v

def MapIs (M : MK P α β) (w : World) (b n : Nat) (g : α → Option β) : Prop := ∃ es clock, w.heap[b]? = some (.map es clock) ∧ Ents M es clock n g

theorem MapIs.made (M : MK P α β) (w : World) : MapIs M (w.alloc (.map #[] 0)) w.heap.size 0 (fun _ => none) :=
 ⟨#[], 0, block_last w _, ⟨⟨by simp, stamped_empty 0, by simp⟩, Nat.le_refl _, by simp, by simp⟩⟩

theorem MapIs.block {M : MK P α β} {w w' : World} {b n : Nat} {g : α → Option β} (h : MapIs M w b n g) (hb : w'.heap[b]? = w.heap[b]?) : MapIs M w' b n g := by
 obtain ⟨es, clock, h1, h2⟩ := h
 exact ⟨es, clock, hb.trans h1, h2⟩

theorem MapIs.lt {M : MK P α β} {w : World} {b n : Nat} {g : α → Option β} (h : MapIs M w b n g) : b < w.heap.size := by
 obtain ⟨es, clock, h1, -⟩ := h
 exact (Array.getElem?_eq_some_iff.1 h1).1

theorem MapIs.below {M : MK P α β} {w w' : World} {b n B : Nat} {g : α → Option β} (h : MapIs M w b n g) (hb : Below B w w') (hB : b < B) : MapIs M w' b n g := h.block (hb.block b hB)

theorem MapIs.kept {M : MK P α β} {w w' : World} {b n : Nat} {g : α → Option β} (h : MapIs M w b n g) (hb : Below w.heap.size w w') : MapIs M w' b n g := h.below hb h.lt

theorem MapIs.grown {M : MK P α β} {w w' : World} {b n : Nat} {g : α → Option β} (h : MapIs M w b n g) {row : Option Nat} (hg : w.grownBy w' row) (hne : row ≠ some b) : MapIs M w' b n g := h.block (hg.block b h.lt (fun e => hne e.symm))

theorem MapIs.mono {M : MK P α β} {w : World} {b n n' : Nat} {g : α → Option β} (h : MapIs M w b n g) (hn : n ≤ n') : MapIs M w b n' g := by
 obtain ⟨es, clock, h1, h2⟩ := h
 exact ⟨es, clock, h1, h2.fit, Nat.le_trans h2.size hn, h2.down, h2.up⟩

theorem ents_key {M : MK P α β} {es : Array MapEntry} {clock n : Nat} {g : α → Option β} (h : Ents M es clock n g) {x : MapEntry} (hx : x ∈ es.toList) {a : α} (hk : x.key = M.kv a) : ∃ v, x.val = M.vv v ∧ g a = some v := by
 obtain ⟨a', v, _, h1, h2, h3⟩ := h.down x hx
 have : a' = a := M.inj _ _ (h1.symm.trans hk)
 subst this
 exact ⟨v, h2, h3⟩

theorem MapIs.look {M : MK P α β} {w : World} {b n : Nat} {g : α → Option β} (h : MapIs M w b n g) (c : Bool) {a : α} (ha : M.ok a) :
  (Instr.lookup M.T (.map (some b)) (M.kv a) c).run P w = .ok (if c = true then .tuple #[M.vv ((g a).getD M.z), .bool (g a).isSome] else M.vv ((g a).getD M.z)) w := by
 obtain ⟨es, clock, hb, he⟩ := h
 obtain ⟨kl, hkey⟩ := M.key a ha
 rcases M.law.find w hkey es.toList he.fit.keys with ⟨h1, h2⟩ | ⟨j, e0, h1, h2, h3⟩
 ·have hg : g a = none := by
   cases hga : g a with
   | none => rfl
   | some v =>
    obtain ⟨x, hx, hk, _⟩ := he.up a v hga
    exact absurd hk (h2 x hx)
  rw [hg]
  simp [Instr.lookup, run_underlying M.und, MapKept.run_getObj_map hb, M.law.check w _ hkey, h1, M.zero, Result.andThen]
 ·obtain ⟨v, hv, hg⟩ := ents_key he (List.mem_of_getElem? h2) h3
  rw [hg]
  simp [Instr.lookup, run_underlying M.und, MapKept.run_getObj_map hb, M.law.check w _ hkey, h1, hv, Result.andThen]

theorem ents_store [DecidableEq α] {M : MK P α β} {w : World} {b n : Nat} {es : Array MapEntry} {clock : Nat} {g : α → Option β} (hb : w.heap[b]? = some (.map es clock)) (he : Ents M es clock n g) (hn : n < maxLen) {a : α} (ha : M.ok a) (v : β) :
  ∃ es' clock', (Instr.mapUpdate M.T (.map (some b)) (M.kv a) (M.vv v)).run P w = .ok () (setBlock w b (.map es' clock')) ∧ Ents M es' clock' (n + 1) (upd g a (some v)) ∧
   ((g a).isSome = true → clock' = clock ∧ es'.size = es.size ∧ (∀ x' ∈ es'.toList, ∃ x ∈ es.toList, x.key = x'.key ∧ x.born = x'.born) ∧ es'.toList.map (·.born) = es.toList.map (·.born)) := by
 obtain ⟨kl, hkey⟩ := M.key a ha
 rcases M.law.find w hkey es.toList he.fit.keys with ⟨h1, h2⟩ | ⟨j, e0, h1, h2, h3⟩
 ·have hg : g a = none := by
   cases hga : g a with
   | none => rfl
   | some u =>
    obtain ⟨x, hx, hk, _⟩ := he.up a u hga
    exact absurd hk (h2 x hx)
  have hsz := he.size
  refine ⟨es.push ⟨M.kv a, M.vv v, clock⟩, clock + 1, ?_, ⟨⟨by simp; omega, stamped_push he.fit.stamped h2, ?_⟩, by simp; omega, ?_, ?_⟩, ?_⟩
  ·simp [Instr.mapUpdate, run_underlying M.und, MapKept.run_getObj_map hb, M.law.check w false hkey, h1, MapKept.run_setObj_map _ hb, Result.andThen, setBlock]
  ·intro x hx
   simp only [Array.toList_push, List.mem_append, List.mem_singleton] at hx
   rcases hx with hx | rfl
   ·exact he.fit.reads x hx
   ·exact ⟨_, rd_mk (R := rdAny) hkey rfl⟩
  ·intro x hx
   simp only [Array.toList_push, List.mem_append, List.mem_singleton] at hx
   rcases hx with hx | rfl
   ·obtain ⟨a', v', h4, h5, h6, h7⟩ := he.down x hx
    refine ⟨a', v', h4, h5, h6, ?_⟩
    rw [upd_other g _ (fun e => h2 x hx (by rw [h5, e]))]
    exact h7
   ·exact ⟨a, v, ha, rfl, rfl, upd_same g a _⟩
  ·intro a' v' h4
   by_cases e : a' = a
   ·subst e
    rw [upd_same] at h4
    cases h4
    exact ⟨⟨M.kv a', M.vv v, clock⟩, by simp, rfl, rfl⟩
   ·rw [upd_other g _ e] at h4
    obtain ⟨x, hx, h5, h6⟩ := he.up a' v' h4
    exact ⟨x, by simp only [Array.toList_push, List.mem_append]; exact .inl hx, h5, h6⟩
  ·rw [hg]; intro h; cases h
 ·have hj : es[j]? = some e0 := by simpa using h2
  have hjl : j < es.toList.length := (List.getElem?_eq_some_iff.1 h2).1
  have hm0 := List.mem_of_getElem? h2
  have hlist : (es.modify j (fun e' => { e' with key := M.kv a, val := M.vv v })).toList = es.toList.set j { e0 with key := M.kv a, val := M.vv v } := by rw [Array.toList_modify, modify_eq_set _ _ _ _ h2]
  have who : ∀ x ∈ es.toList.set j { e0 with key := M.kv a, val := M.vv v }, x = { e0 with key := M.kv a, val := M.vv v } ∨ (x ∈ es.toList ∧ x.key ≠ M.kv a) := by
   intro x hx
   obtain ⟨i, hi, ex⟩ := List.getElem_of_mem hx
   rw [List.getElem_set] at ex
   split at ex
   ·exact Or.inl ex.symm
   ·rename_i hne
    have hi' : i < es.toList.length := by simpa using hi
    refine Or.inr ⟨ex ▸ List.getElem_mem hi', ?_⟩
    rw [← h3]
    exact other_key he.fit h2 (by rw [List.getElem?_eq_getElem hi', ex]) (fun e1 => hne e1.symm)
  have hkeyf : ∀ e', es[j]? = some e' → ({ e' with key := M.kv a, val := M.vv v } : MapEntry).key = e'.key := fun e' he' => by rw [hj] at he'; cases he'; exact h3.symm
  have hsz := he.size
  refine ⟨es.modify j (fun e' => { e' with key := M.kv a, val := M.vv v }), clock, ?_, ⟨⟨by simpa using he.fit.size, stamped_modify he.fit.stamped _ _ (fun _ _ => rfl) (fun e' _ he' => hkeyf e' he'), ?_⟩, by simp; omega, ?_, ?_⟩, ?_⟩
  ·simp [Instr.mapUpdate, run_underlying M.und, MapKept.run_getObj_map hb, M.law.check w false hkey, h1, hj, h3, M.law.stays w hkey, MapKept.run_setObj_map _ hb, Result.andThen, setBlock]
  ·intro x hx
   rw [hlist] at hx
   rcases who x hx with rfl | ⟨hx', _⟩
   ·exact ⟨_, rd_mk (R := rdAny) hkey rfl⟩
   ·exact he.fit.reads x hx'
  ·intro x hx
   rw [hlist] at hx
   rcases who x hx with rfl | ⟨hx', hne⟩
   ·exact ⟨a, v, ha, rfl, rfl, upd_same g a _⟩
   ·obtain ⟨a', v', h4, h5, h6, h7⟩ := he.down x hx'
    refine ⟨a', v', h4, h5, h6, ?_⟩
    rw [upd_other g _ (fun e => hne (by rw [h5, e]))]
    exact h7
  ·intro a' v' h4
   rw [hlist]
   by_cases e : a' = a
   ·subst e
    rw [upd_same] at h4
    cases h4
    exact ⟨{ e0 with key := M.kv a', val := M.vv v }, List.mem_iff_getElem.2 ⟨j, by simpa using hjl, by simp⟩, rfl, rfl⟩
   ·rw [upd_other g _ e] at h4
    obtain ⟨x, hx, h5, h6⟩ := he.up a' v' h4
    obtain ⟨i, hi, ex⟩ := List.getElem_of_mem hx
    have hij : j ≠ i := by
     intro e1
     subst e1
     rw [List.getElem?_eq_getElem hi] at h2
     cases h2
     rw [ex] at h3
     exact e (M.inj _ _ (h5.symm.trans h3))
    exact ⟨x, List.mem_iff_getElem.2 ⟨i, by simpa using hi, by rw [List.getElem_set_ne hij]; exact ex⟩, h5, h6⟩
  ·intro _
   refine ⟨rfl, by simp, ?_, ?_⟩
   ·intro x' hx'
    rw [hlist] at hx'
    rcases who x' hx' with rfl | ⟨hx, _⟩
    ·exact ⟨e0, hm0, h3, rfl⟩
    ·exact ⟨x', hx, rfl, rfl⟩
   ·rw [hlist, List.map_set]
    have : (es.toList.map (·.born))[j]'(by simpa using hjl) = e0.born := by
     obtain ⟨hl, e1⟩ := List.getElem?_eq_some_iff.1 h2
     simp [← e1]
    rw [← this]
    exact List.set_getElem_self _

theorem MapIs.store [DecidableEq α] {M : MK P α β} {w : World} {b n : Nat} {g : α → Option β} (h : MapIs M w b n g) (hn : n < maxLen) {a : α} (ha : M.ok a) (v : β) :
  ∃ w', (Instr.mapUpdate M.T (.map (some b)) (M.kv a) (M.vv v)).run P w = .ok () w' ∧ MapIs M w' b (n + 1) (upd g a (some v)) ∧ w.grownBy w' (some b) ∧ w'.heap.size = w.heap.size := by
 obtain ⟨es, clock, hb, he⟩ := h
 obtain ⟨es', clock', hrun, he', -⟩ := ents_store hb he hn ha v
 exact ⟨_, hrun, ⟨es', clock', heap_setBlock_same hb _, he'⟩, ⟨rfl, rfl, rfl, by simp [setBlock], fun i _ hi => heap_setBlock_other hb _ (fun e => hi (by rw [e]))⟩, by simp [setBlock]⟩

theorem ents_drop [DecidableEq α] {M : MK P α β} {w : World} {b n : Nat} {es : Array MapEntry} {clock : Nat} {g : α → Option β} (hb : w.heap[b]? = some (.map es clock)) (he : Ents M es clock n g) {a : α} (ha : M.ok a) (ty : TypeId) :
  ∃ es', (Builtin.delete_ #[M.T, M.K] ty #[.map (some b), M.kv a]).run P w = .ok (.tuple #[]) (setBlock w b (.map es' clock)) ∧ Ents M es' clock n (upd g a none) ∧ es'.toList.Sublist es.toList ∧ ∀ x, x ∈ es'.toList ↔ (x ∈ es.toList ∧ x.key ≠ M.kv a) := by
 obtain ⟨kl, hkey⟩ := M.key a ha
 obtain ⟨es', hrun, hfit, hsz, -, hsub, hwho⟩ := fit_drop_who (ty := ty) M.law M.und hb he.fit hkey
 refine ⟨es', hrun, ⟨hfit, Nat.le_trans hsz he.size, ?_, ?_⟩, hsub, hwho⟩
 ·intro x hx
  obtain ⟨hx1, hx2⟩ := (hwho x).1 hx
  obtain ⟨a', v', h4, h5, h6, h7⟩ := he.down x hx1
  refine ⟨a', v', h4, h5, h6, ?_⟩
  rw [upd_other g _ (fun e => hx2 (by rw [h5, e]))]
  exact h7
 ·intro a' v' h4
  by_cases e : a' = a
  ·subst e
   rw [upd_same] at h4
   cases h4
  ·rw [upd_other g _ e] at h4
   obtain ⟨x, hx, h5, h6⟩ := he.up a' v' h4
   exact ⟨x, (hwho x).2 ⟨hx, fun e1 => e (M.inj _ _ (h5.symm.trans e1))⟩, h5, h6⟩

theorem MapIs.drop [DecidableEq α] {M : MK P α β} {w : World} {b n : Nat} {g : α → Option β} (h : MapIs M w b n g) {a : α} (ha : M.ok a) (ty : TypeId) :
  ∃ w', (Builtin.delete_ #[M.T, M.K] ty #[.map (some b), M.kv a]).run P w = .ok (.tuple #[]) w' ∧ MapIs M w' b n (upd g a none) ∧ w.grownBy w' (some b) ∧ w'.heap.size = w.heap.size := by
 obtain ⟨es, clock, hb, he⟩ := h
 obtain ⟨es', hrun, he', -, -⟩ := ents_drop hb he ha ty
 exact ⟨_, hrun, ⟨es', clock, heap_setBlock_same hb _, he'⟩, ⟨rfl, rfl, rfl, by simp [setBlock], fun i _ hi => heap_setBlock_other hb _ (fun e => hi (by rw [e]))⟩, by simp [setBlock]⟩

def Ranging (M : MK P α β) (w : World) (b r n : Nat) (g : α → Option β) (left : α → Bool) (cnt : Nat) : Prop :=
 ∃ es clock since seen c0, w.heap[b]? = some (.map es clock) ∧ Ents M es clock n g ∧ w.heap[r]? = some (.mapIter (some b) since seen c0) ∧ (∀ x ∈ es.toList, x.born < since) ∧ (leftOf es seen).size = cnt ∧
  (∀ x ∈ es.toList, ∀ a, x.key = M.kv a → left a = !seen.contains x.born) ∧ (∀ a, left a = true → (g a).isSome = true) ∧ since ≤ c0 ∧ since ≤ clock

theorem Ranging.is {M : MK P α β} {w : World} {b r n : Nat} {g : α → Option β} {left : α → Bool} {cnt : Nat} (h : Ranging M w b r n g left cnt) : MapIs M w b n g := by
 obtain ⟨es, clock, since, seen, c0, hb, he, -⟩ := h
 exact ⟨es, clock, hb, he⟩

theorem Ranging.ne {M : MK P α β} {w : World} {b r n : Nat} {g : α → Option β} {left : α → Bool} {cnt : Nat} (h : Ranging M w b r n g left cnt) : r ≠ b := by
 obtain ⟨es, clock, since, seen, c0, hb, he, hr, -⟩ := h
 intro e
 rw [e, hb] at hr
 cases hr

theorem Ranging.lt {M : MK P α β} {w : World} {b r n : Nat} {g : α → Option β} {left : α → Bool} {cnt : Nat} (h : Ranging M w b r n g left cnt) : r < w.heap.size := by
 obtain ⟨es, clock, since, seen, c0, hb, he, hr, -⟩ := h
 exact (Array.getElem?_eq_some_iff.1 hr).1

theorem Ranging.kept {M : MK P α β} {w w' : World} {b r n : Nat} {g : α → Option β} {left : α → Bool} {cnt : Nat} (h : Ranging M w b r n g left cnt) (hb1 : w'.heap[b]? = w.heap[b]?) (hr1 : w'.heap[r]? = w.heap[r]?) : Ranging M w' b r n g left cnt := by
 obtain ⟨es, clock, since, seen, c0, hb, he, hr, rest⟩ := h
 exact ⟨es, clock, since, seen, c0, hb1.trans hb, he, hr1.trans hr, rest⟩

theorem Ranging.below {M : MK P α β} {w w' : World} {b r n : Nat} {g : α → Option β} {left : α → Bool} {cnt : Nat} (h : Ranging M w b r n g left cnt) (hb : Below w.heap.size w w') : Ranging M w' b r n g left cnt :=
 h.kept (hb.block b h.is.lt) (hb.block r h.lt)

theorem Ranging.left_eq {M : MK P α β} {w : World} {b r n : Nat} {g : α → Option β} {left : α → Bool} {cnt : Nat} (h : Ranging M w b r n g left cnt) : w.rangeLeft b r = cnt := by
 obtain ⟨es, clock, since, seen, c0, hb, he, hr, h1, h2, -⟩ := h
 simp only [World.rangeLeft, hb, hr]
 exact h2

theorem MapIs.range {M : MK P α β} {w : World} {b n : Nat} {g : α → Option β} (h : MapIs M w b n g) :
  ∃ w' cnt, (Instr.range M.T (.map (some b))).run P w = .ok (.pointer (some ⟨w.heap.size, 0, none⟩)) w' ∧ Ranging M w' b w.heap.size n g (fun a => (g a).isSome) cnt ∧ Below w.heap.size w w' ∧ w'.heap.size = w.heap.size + 1 := by
 have hlt := h.lt
 obtain ⟨es, clock, hb, he⟩ := h
 refine ⟨_, _, run_range_map w M.T M.K M.E b es clock M.und hb, ⟨es, clock, clock, #[], clock, ((MapKept.heap_alloc w _).2 b hlt).trans hb, he, (MapKept.heap_alloc w _).1, he.fit.stamped.1, rfl, ?_, ?_, Nat.le_refl _, Nat.le_refl _⟩, below_one w _, by simp⟩
 ·intro x hx a hk
  obtain ⟨v, _, hg⟩ := ents_key he hx hk
  simp [hg]
 ·intro a ha
  exact ha

theorem Ranging.next [DecidableEq α] {M : MK P α β} {w : World} {b r n : Nat} {g : α → Option β} {left : α → Bool} {cnt : Nat} (h : Ranging M w b r n g left cnt) (ty : TypeId) :
  (cnt = 0 ∧ (∀ a, left a = false) ∧ (Instr.next (.pointer (some ⟨r, 0, none⟩)) false ty).run P w = .ok (.tuple #[.bool false]) w) ∨
  ∃ a v w' cnt', M.ok a ∧ left a = true ∧ g a = some v ∧ (Instr.next (.pointer (some ⟨r, 0, none⟩)) false ty).run P w = .ok (.tuple #[.bool true, M.kv a, M.vv v]) w' ∧
   Ranging M w' b r n g (upd left a false) cnt' ∧ cnt' < cnt ∧ w.grownBy w' (some r) ∧ w'.heap.size = w.heap.size ∧ (Instr.entry (.pointer (some ⟨r, 0, none⟩))).run P w' = .ok (.tuple #[M.kv a, M.vv v]) w' := by
 have hne := h.ne
 obtain ⟨es, clock, since, seen, c0, hb, he, hr, hold, rfl, hl1, hl2, hsc, hsk⟩ := h
 have hst := (stamped_iff es clock).1 he.fit.stamped
 rcases run_next_at (P := P) w ty r b since c0 seen es clock hr hb hold hsc with ⟨h0, hrun⟩ | ⟨e, hem', w1, hal, hrun⟩
 ·refine Or.inl ⟨h0, fun a => ?_, hrun⟩
  cases hk : left a
  ·rfl
  ·obtain ⟨v, hv⟩ := Option.isSome_iff_exists.1 (hl2 a hk)
   obtain ⟨x, hx, hxk, _⟩ := he.up a v hv
   rw [hl1 x hx a hxk, all_seen es seen h0 x hx] at hk
   cases hk
 ·obtain ⟨hem, hes⟩ := mem_left hem'
  obtain ⟨a, v, hok, hka, hva, hga⟩ := he.down e hem
  have hr1 : w1.heap[r]? = some (.mapIter (some b) since seen c0) := by rcases hal with rfl | rfl <;> exact hr
  have hb1 : w1.heap[b]? = some (.map es clock) := by rcases hal with rfl | rfl <;> exact hb
  have hset := heap_set (o' := .mapIter (some b) since (seen.push e.born) clock) hr1
  have hb' : (setBlock w1 r (.mapIter (some b) since (seen.push e.born) clock)).heap[b]? = some (.map es clock) := (hset.2 b (fun e1 => hne e1.symm)).trans hb1
  rw [hka, hva] at hrun
  refine Or.inr ⟨a, v, _, _, hok, by rw [hl1 e hem a hka, hes]; rfl, hga, hrun,
   ⟨es, clock, since, seen.push e.born, clock, hb', he, hset.1, hold, rfl, fun x hx a' hxa => ?_, fun a' ha' => ?_, hsk, hsk⟩, left_shrinks es seen e hem', ?_, ?_, ?_⟩
  ·rw [contains_push]
   by_cases e1 : a' = a
   ·subst e1
    rw [upd_same]
    have : x = e := entry_eq_of_key hst.2.2 hx hem (hxa.trans hka.symm)
    subst this
    simp
   ·rw [upd_other left _ e1, hl1 x hx a' hxa]
    have : (x.born == e.born) = false := by
     rw [beq_eq_false_iff_ne]
     intro e2
     have := born_inj hst.2.1 hx hem e2
     subst this
     exact e1 (M.inj _ _ (hxa.symm.trans hka))
    rw [this, Bool.or_false]
  ·refine hl2 a' ?_
   by_cases e1 : a' = a
   ·subst e1
    rw [upd_same] at ha'
    cases ha'
   ·rw [upd_other left _ e1] at ha'
    exact ha'
  ·rcases hal with rfl | rfl <;> exact ⟨rfl, rfl, rfl, by simp [setBlock], fun i _ hi => hset.2 i (fun e1 => hi (by rw [e1]))⟩
  ·rcases hal with rfl | rfl <;> simp [setBlock]
  ·have := run_entry_at (P := P) _ r b since seen es clock e hset.1 hb' hem hst.2.1
   rw [hka, hva] at this
   exact this

theorem left_length (es : Array MapEntry) (seen : Array Nat) : (leftOf es seen).size = ((es.toList.map (·.born)).filter fun k => !seen.contains k).length := by
 unfold leftOf
 rw [← Array.length_toList, Array.toList_filter, List.filter_map, List.length_map]
 rfl

theorem Ranging.store [DecidableEq α] {M : MK P α β} {w : World} {b r n : Nat} {g : α → Option β} {left : α → Bool} {cnt : Nat} (h : Ranging M w b r n g left cnt) (hn : n < maxLen) {a : α} (ha : M.ok a) (hs : (g a).isSome = true) (v : β) :
  ∃ w', (Instr.mapUpdate M.T (.map (some b)) (M.kv a) (M.vv v)).run P w = .ok () w' ∧ Ranging M w' b r n (upd g a (some v)) left cnt ∧ w.grownBy w' (some b) ∧ w'.heap.size = w.heap.size := by
 have hne := h.ne
 obtain ⟨es, clock, since, seen, c0, hb, he, hr, hold, rfl, hl1, hl2, hsc, hsk⟩ := h
 obtain ⟨es', clock', hrun, he', hz⟩ := ents_store hb he hn ha v
 obtain ⟨rfl, hsz, hwho, hborn⟩ := hz hs
 refine ⟨_, hrun, ⟨es', clock', since, seen, c0, heap_setBlock_same hb _, ⟨he'.fit, by rw [hsz]; exact he.size, he'.down, he'.up⟩, (heap_setBlock_other hb _ hne).trans hr, ?_, ?_, ?_, ?_, hsc, hsk⟩, ⟨rfl, rfl, rfl, by simp [setBlock], fun i _ hi => heap_setBlock_other hb _ (fun e => hi (by rw [e]))⟩, by simp [setBlock]⟩
 ·intro x' hx'
  obtain ⟨x, hx, _, hxb⟩ := hwho x' hx'
  rw [← hxb]
  exact hold x hx
 ·rw [left_length, left_length, hborn]
 ·intro x' hx' a' hk
  obtain ⟨x, hx, hxk, hxb⟩ := hwho x' hx'
  rw [← hxb]
  exact hl1 x hx a' (hxk.trans hk)
 ·intro a' ha'
  by_cases e : a' = a
  ·subst e; rw [upd_same]; rfl
  ·rw [upd_other g _ e]; exact hl2 a' ha'

theorem Ranging.drop [DecidableEq α] {M : MK P α β} {w : World} {b r n : Nat} {g : α → Option β} {left : α → Bool} {cnt : Nat} (h : Ranging M w b r n g left cnt) {a : α} (ha : M.ok a) (hs : left a = false) (ty : TypeId) :
  ∃ w' cnt', (Builtin.delete_ #[M.T, M.K] ty #[.map (some b), M.kv a]).run P w = .ok (.tuple #[]) w' ∧ Ranging M w' b r n (upd g a none) left cnt' ∧ cnt' ≤ cnt ∧ w.grownBy w' (some b) ∧ w'.heap.size = w.heap.size := by
 have hne := h.ne
 obtain ⟨es, clock, since, seen, c0, hb, he, hr, hold, rfl, hl1, hl2, hsc, hsk⟩ := h
 obtain ⟨es', hrun, he', hsub, hwho⟩ := ents_drop hb he ha ty
 refine ⟨_, _, hrun, ⟨es', clock, since, seen, c0, heap_setBlock_same hb _, he', (heap_setBlock_other hb _ hne).trans hr, ?_, rfl, ?_, ?_, hsc, hsk⟩, ?_, ⟨rfl, rfl, rfl, by simp [setBlock], fun i _ hi => heap_setBlock_other hb _ (fun e => hi (by rw [e]))⟩, by simp [setBlock]⟩
 ·intro x hx
  exact hold x ((hwho x).1 hx).1
 ·intro x hx a' hk
  exact hl1 x ((hwho x).1 hx).1 a' hk
 ·intro a' ha'
  by_cases e : a' = a
  ·subst e; rw [hs] at ha'; cases ha'
  ·rw [upd_other g _ e]; exact hl2 a' ha'
 ·rw [left_length, left_length]
  exact ((hsub.map _).filter _).length_le

end

section
open Go.RowKit Go.ChangeMaps Go.MapKept
open Go.WideElems (Fit rd rd_mk rd_key other_key)
open Go.Maps (Keyed)

variable {P : Program} {α β : Type}

theorem upd_self [DecidableEq α] {γ : Type} {g : α → γ} {a : α} {v : γ} (h : g a = v) : upd g a v = g := by
 funext x
 by_cases e : x = a
 ·subst e; rw [upd_same, h]
 ·rw [upd_other g _ e]

theorem upd_twice [DecidableEq α] {γ : Type} (g : α → γ) (a : α) (u v : γ) : upd (upd g a u) a v = upd g a v := by
 funext x
 by_cases e : x = a
 ·subst e; rw [upd_same, upd_same]
 ·rw [upd_other _ _ e, upd_other _ _ e, upd_other _ _ e]

theorem ents_push [DecidableEq α] {M : MK P α β} {n : Nat} {es : Array MapEntry} {clock : Nat} {g : α → Option β} (he : Ents M es clock n g) (hn : n < maxLen) {a : α} (ha : M.ok a) (v : β) (h2 : ∀ x ∈ es.toList, x.key ≠ M.kv a) :
  Ents M (es.push ⟨M.kv a, M.vv v, clock⟩) (clock + 1) (n + 1) (upd g a (some v)) := by
 obtain ⟨kl, hkey⟩ := M.key a ha
 have hsz := he.size
 refine ⟨⟨by simp; omega, stamped_push he.fit.stamped h2, ?_⟩, by simp; omega, ?_, ?_⟩
 ·intro x hx
  simp only [Array.toList_push, List.mem_append, List.mem_singleton] at hx
  rcases hx with hx | rfl
  ·exact he.fit.reads x hx
  ·exact ⟨_, rd_mk (R := rdAny) hkey rfl⟩
 ·intro x hx
  simp only [Array.toList_push, List.mem_append, List.mem_singleton] at hx
  rcases hx with hx | rfl
  ·obtain ⟨a', v', h4, h5, h6, h7⟩ := he.down x hx
   refine ⟨a', v', h4, h5, h6, ?_⟩
   rw [upd_other g _ (fun e => h2 x hx (by rw [h5, e]))]
   exact h7
  ·exact ⟨a, v, ha, rfl, rfl, upd_same g a _⟩
 ·intro a' v' h4
  by_cases e : a' = a
  ·subst e
   rw [upd_same] at h4
   cases h4
   exact ⟨⟨M.kv a', M.vv v, clock⟩, by simp, rfl, rfl⟩
  ·rw [upd_other g _ e] at h4
   obtain ⟨x, hx, h5, h6⟩ := he.up a' v' h4
   exact ⟨x, by simp only [Array.toList_push, List.mem_append]; exact .inl hx, h5, h6⟩

theorem ents_val [DecidableEq α] {M : MK P α β} {n : Nat} {es : Array MapEntry} {clock : Nat} {g : α → Option β} (he : Ents M es clock n g) {j : Nat} {e0 : MapEntry} (h2 : es.toList[j]? = some e0) {a : α} (ha : M.ok a) (h3 : e0.key = M.kv a) (v : β) :
  Ents M (es.modify j (fun e' => { e' with val := M.vv v })) clock n (upd g a (some v)) := by
 obtain ⟨kl, hkey⟩ := M.key a ha
 have hjl : j < es.toList.length := (List.getElem?_eq_some_iff.1 h2).1
 have hlist : (es.modify j (fun e' => { e' with val := M.vv v })).toList = es.toList.set j { e0 with val := M.vv v } := by rw [Array.toList_modify, modify_eq_set _ _ _ _ h2]
 have who : ∀ x ∈ es.toList.set j { e0 with val := M.vv v }, x = { e0 with val := M.vv v } ∨ (x ∈ es.toList ∧ x.key ≠ M.kv a) := by
  intro x hx
  obtain ⟨i, hi, ex⟩ := List.getElem_of_mem hx
  rw [List.getElem_set] at ex
  split at ex
  ·exact Or.inl ex.symm
  ·rename_i hne
   have hi' : i < es.toList.length := by simpa using hi
   refine Or.inr ⟨ex ▸ List.getElem_mem hi', ?_⟩
   rw [← h3]
   exact other_key he.fit h2 (by rw [List.getElem?_eq_getElem hi', ex]) (fun e1 => hne e1.symm)
 refine ⟨⟨by simpa using he.fit.size, stamped_modify he.fit.stamped _ _ (fun _ _ => rfl) (fun _ _ _ => rfl), ?_⟩, by simpa using he.size, ?_, ?_⟩
 ·intro x hx
  rw [hlist] at hx
  rcases who x hx with rfl | ⟨hx', _⟩
  ·exact ⟨_, rd_mk (R := rdAny) (key := e0.key) (by rw [h3]; exact hkey) rfl⟩
  ·exact he.fit.reads x hx'
 ·intro x hx
  rw [hlist] at hx
  rcases who x hx with rfl | ⟨hx', hne⟩
  ·exact ⟨a, v, ha, h3, rfl, upd_same g a _⟩
  ·obtain ⟨a', v', h4, h5, h6, h7⟩ := he.down x hx'
   refine ⟨a', v', h4, h5, h6, ?_⟩
   rw [upd_other g _ (fun e => hne (by rw [h5, e]))]
   exact h7
 ·intro a' v' h4
  rw [hlist]
  by_cases e : a' = a
  ·subst e
   rw [upd_same] at h4
   cases h4
   exact ⟨{ e0 with val := M.vv v }, List.mem_iff_getElem.2 ⟨j, by simpa using hjl, by simp⟩, h3, rfl⟩
  ·rw [upd_other g _ e] at h4
   obtain ⟨x, hx, h5, h6⟩ := he.up a' v' h4
   obtain ⟨i, hi, ex⟩ := List.getElem_of_mem hx
   have hij : j ≠ i := by
    intro e1
    subst e1
    rw [List.getElem?_eq_getElem hi] at h2
    cases h2
    rw [ex] at h3
    exact e (M.inj _ _ (h5.symm.trans h3))
   exact ⟨x, List.mem_iff_getElem.2 ⟨i, by simpa using hi, by rw [List.getElem_set_ne hij]; exact ex⟩, h5, h6⟩

theorem entry_store [DecidableEq α] {M : MK P α β} {w : World} {b n : Nat} {es : Array MapEntry} {clock : Nat} {g : α → Option β} (hb : w.heap[b]? = some (.map es clock)) (he : Ents M es clock n g) {x : MapEntry} (hx : x ∈ es.toList) {a : α} (ha : M.ok a) (hk : x.key = M.kv a) (v : β) :
  ∃ w2, (Instr.entryStore M.T (.map (some b)) (.int .i64 x.born) (M.vv v)).run P w = .ok () w2 ∧ MapIs M w2 b n (upd g a (some v)) ∧ w.grownBy w2 (some b) ∧ w2.heap.size = w.heap.size := by
 have hst := (stamped_iff es clock).1 he.fit.stamped
 cases hf : es.findIdx? (fun e => (e.born : Int) == (x.born : Int)) with
 | none =>
  rw [Array.findIdx?_eq_none_iff] at hf
  have := hf x (by simpa using hx)
  simp at this
 | some j =>
  obtain ⟨hj, hp, -⟩ := Array.findIdx?_eq_some_iff_getElem.1 hf
  have hj2 : es.toList[j]? = some es[j] := by simp [hj]
  have hbn : es[j].born = x.born := by
   have h9 : (es[j].born : Int) = (x.born : Int) := by simpa using hp
   omega
  have hex : es[j] = x := born_inj hst.2.1 (List.mem_of_getElem? hj2) hx hbn
  have hk2 : es[j].key = M.kv a := by rw [hex]; exact hk
  refine ⟨setBlock w b (.map (es.modify j (fun e' => { e' with val := M.vv v })) clock), ?_, ⟨_, _, heap_setBlock_same hb _, ents_val he hj2 ha hk2 v⟩, ⟨rfl, rfl, rfl, by simp [setBlock], fun i _ hi => heap_setBlock_other hb _ (fun e => hi (by rw [e]))⟩, by simp [setBlock]⟩
  simp [Instr.entryStore, MapKept.run_getObj_map hb, asInt, asIntOf, hf, MapKept.run_setObj_map _ hb, Result.andThen, setBlock]

theorem modify_same {es : Array MapEntry} {j : Nat} {e0 : MapEntry} {key : Value} (h2 : es.toList[j]? = some e0) (h3 : e0.key = key) : es.modify j (fun e' => { e' with key := key }) = es := by
 apply Array.toList_inj.1
 rw [Array.toList_modify, modify_eq_set _ _ _ _ h2]
 have hjl : j < es.toList.length := (List.getElem?_eq_some_iff.1 h2).1
 have : ({ e0 with key := key } : MapEntry) = es.toList[j] := by
  rw [List.getElem?_eq_getElem hjl] at h2
  cases h2
  subst h3
  rfl
 rw [this]
 exact List.set_getElem_self _

theorem MapIs.entry [DecidableEq α] {M : MK P α β} {w : World} {b n : Nat} {g : α → Option β} (h : MapIs M w b n g) (hn : n < maxLen) {a : α} (ha : M.ok a) :
  ∃ w1 st, (Instr.mapEntry M.T (.map (some b)) (M.kv a)).run P w = .ok (.tuple #[M.vv ((g a).getD M.z), .int .i64 st]) w1 ∧ MapIs M w1 b (n + 1) (upd g a (some ((g a).getD M.z))) ∧ w.grownBy w1 (some b) ∧ w1.heap.size = w.heap.size ∧
   ∀ v, ∃ w2, (Instr.entryStore M.T (.map (some b)) (.int .i64 st) (M.vv v)).run P w1 = .ok () w2 ∧ MapIs M w2 b (n + 1) (upd g a (some v)) ∧ w1.grownBy w2 (some b) ∧ w2.heap.size = w1.heap.size := by
 obtain ⟨es, clock, hb, he⟩ := h
 obtain ⟨kl, hkey⟩ := M.key a ha
 rcases M.law.find w hkey es.toList he.fit.keys with ⟨h1, h2⟩ | ⟨j, e0, h1, h2, h3⟩
 ·have hg : g a = none := by
   cases hga : g a with
   | none => rfl
   | some u =>
    obtain ⟨x, hx, hk, _⟩ := he.up a u hga
    exact absurd hk (h2 x hx)
  have he1 := ents_push he hn ha M.z h2
  rw [hg]
  refine ⟨setBlock w b (.map (es.push ⟨M.kv a, M.vv M.z, clock⟩) (clock + 1)), clock, ?_, ⟨_, _, heap_setBlock_same hb _, he1⟩, ⟨rfl, rfl, rfl, by simp [setBlock], fun i _ hi => heap_setBlock_other hb _ (fun e => hi (by rw [e]))⟩, by simp [setBlock], ?_⟩
  ·simp [Instr.mapEntry, run_underlying M.und, MapKept.run_getObj_map hb, M.law.check w false hkey, h1, M.zero, MapKept.run_setObj_map _ hb, Result.andThen, setBlock, goInt]
  ·intro v
   obtain ⟨w2, r1, r2, r3, r4⟩ := entry_store (heap_setBlock_same hb _) he1 (x := ⟨M.kv a, M.vv M.z, clock⟩) (by simp) ha rfl v
   rw [upd_twice] at r2
   exact ⟨w2, r1, r2, r3, r4⟩
 ·have hm0 := List.mem_of_getElem? h2
  obtain ⟨v0, hv0, hg⟩ := ents_key he hm0 h3
  have hj : es[j]? = some e0 := by simpa using h2
  rw [hg]
  simp only [Option.getD_some]
  rw [upd_self hg]
  refine ⟨setBlock w b (.map es clock), e0.born, ?_, ⟨es, clock, heap_setBlock_same hb _, ⟨he.fit, Nat.le_trans he.size (Nat.le_succ n), he.down, he.up⟩⟩, ⟨rfl, rfl, rfl, by simp [setBlock], fun i _ hi => heap_setBlock_other hb _ (fun e => hi (by rw [e]))⟩, by simp [setBlock], ?_⟩
  ·simp [Instr.mapEntry, run_underlying M.und, MapKept.run_getObj_map hb, M.law.check w false hkey, h1, hj, h3, M.law.stays w hkey, modify_same h2 h3, hv0, MapKept.run_setObj_map _ hb, Result.andThen, setBlock, goInt]
  ·intro v
   obtain ⟨w2, r1, r2, r3, r4⟩ := entry_store (heap_setBlock_same hb _) (n := n + 1) ⟨he.fit, Nat.le_trans he.size (Nat.le_succ n), he.down, he.up⟩ hm0 ha h3 v
   exact ⟨w2, r1, r2, r3, r4⟩

end

abbrev FK := Int × Int × Int

def cnt (l : List FE) (t m : Int) : Int := ((l.filter (fun e => both e t m)).length : Int)

theorem cnt_nil (t m : Int) : cnt [] t m = 0 := rfl
theorem cnt_append (a b : List FE) (t m : Int) : cnt (a ++ b) t m = cnt a t m + cnt b t m := by simp [cnt]
theorem cnt_one (x : FE) (t m : Int) : cnt [x] t m = if both x t m = true then 1 else 0 := by
 unfold cnt
 cases h : both x t m <;> simp [h]
theorem cnt_self (x : FE) : cnt [x] x.t x.m = 1 := by rw [cnt_one, if_pos (both_iff.2 ⟨rfl, rfl⟩)]
theorem cnt_pos (l : List FE) (t m : Int) : 0 ≤ cnt l t m := by unfold cnt; omega
theorem cnt_le (l : List FE) (t m : Int) : cnt l t m ≤ l.length := by
 unfold cnt
 have := List.length_filter_le (fun e => both e t m) l
 omega

def keyIn (pre : List FE) (x : FE) : FK := (x.t, x.m, cnt pre x.t x.m)

def keysGo : List FE → List FE → List FK
 | _, [] => []
 | pre, x :: r => keyIn pre x :: keysGo (pre ++ [x]) r

def entsGo (g : FK → Option FE) : List FE → List FE → FK → Option FE
 | _, [] => g
 | pre, x :: r => entsGo (upd g (keyIn pre x) (some x)) (pre ++ [x]) r

def keysOf (l : List FE) : List FK := keysGo [] l
def entsOf (l : List FE) : FK → Option FE := entsGo (fun _ => none) [] l

theorem keysGo_snoc (x : FE) : ∀ (l pre : List FE), keysGo pre (l ++ [x]) = keysGo pre l ++ [keyIn (pre ++ l) x]
 | [], pre => by simp [keysGo]
 | y :: l, pre => by
  rw [List.cons_append, keysGo, keysGo_snoc x l (pre ++ [y]), keysGo, List.cons_append, List.append_assoc]
  rfl

theorem entsGo_snoc (x : FE) : ∀ (l pre : List FE) (g : FK → Option FE), entsGo g pre (l ++ [x]) = upd (entsGo g pre l) (keyIn (pre ++ l) x) (some x)
 | [], pre, g => by simp [entsGo]
 | y :: l, pre, g => by
  rw [List.cons_append, entsGo, entsGo_snoc x l (pre ++ [y]), entsGo, List.append_assoc]
  rfl

theorem keys_snoc (l : List FE) (x : FE) : keysOf (l ++ [x]) = keysOf l ++ [keyIn l x] := by
 unfold keysOf
 rw [keysGo_snoc, List.nil_append]
theorem ents_snoc (l : List FE) (x : FE) : entsOf (l ++ [x]) = upd (entsOf l) (keyIn l x) (some x) := by
 unfold entsOf
 rw [entsGo_snoc, List.nil_append]

theorem keysGo_length : ∀ (l pre : List FE), (keysGo pre l).length = l.length
 | [], _ => rfl
 | x :: r, pre => by rw [keysGo, List.length_cons, keysGo_length r, List.length_cons]
theorem keys_length (l : List FE) : (keysOf l).length = l.length := keysGo_length l []

theorem keysGo_least : ∀ (l pre : List FE) (k : FK), k ∈ keysGo pre l → cnt pre k.1 k.2.1 ≤ k.2.2
 | [], _, _, h => by cases h
 | x :: r, pre, k, h => by
  rw [keysGo] at h
  rcases List.mem_cons.1 h with rfl | h
  ·exact Int.le_refl _
  ·have := keysGo_least r (pre ++ [x]) k h
   rw [cnt_append] at this
   have := cnt_pos [x] k.1 k.2.1
   omega

theorem keysGo_new (l pre : List FE) (x : FE) : keyIn pre x ∉ keysGo (pre ++ [x]) l := by
 intro h
 have := keysGo_least _ _ _ h
 unfold keyIn at this
 simp only at this
 rw [cnt_append, cnt_self] at this
 omega

theorem entsGo_other : ∀ (l pre : List FE) (g : FK → Option FE) (k : FK), k ∉ keysGo pre l → entsGo g pre l k = g k
 | [], _, _, _, _ => rfl
 | x :: r, pre, g, k, h => by
  rw [keysGo] at h
  have h1 : k ≠ keyIn pre x := fun e => h (by rw [e]; exact List.mem_cons_self)
  rw [entsGo, entsGo_other r (pre ++ [x]) _ k (fun hk => h (List.mem_cons_of_mem _ hk)), upd_other g _ h1]

theorem entsGo_map : ∀ (l pre : List FE) (g : FK → Option FE), (keysGo pre l).map (entsGo g pre l) = l.map some
 | [], _, _ => rfl
 | x :: r, pre, g => by
  rw [keysGo, entsGo, List.map_cons, List.map_cons, entsGo_map r (pre ++ [x])]
  rw [entsGo_other r (pre ++ [x]) _ _ (keysGo_new r pre x), upd_same]
theorem ents_map (l : List FE) : (keysOf l).map (entsOf l) = l.map some := entsGo_map l [] _

theorem ents_none (l : List FE) {k : FK} (h : k ∉ keysOf l) : entsOf l k = none := entsGo_other l [] _ k h

theorem out_bind {ks : List FK} {g : FK → Option FE} {l : List FE} (h : ks.map g = l.map some) (f : FE → Option FE) : ks.filterMap (fun k => (g k).bind f) = l.filterMap f := by
 induction ks generalizing l with
 | nil =>
  cases l with
  | nil => rfl
  | cons y r => simp at h
 | cons k r ih =>
  cases l with
  | nil => simp at h
  | cons y r' =>
   simp only [List.map_cons, List.cons.injEq] at h
   rw [List.filterMap_cons, List.filterMap_cons, h.1, ih h.2]
   rfl

def FKok (k : FK) : Prop := (-9223372036854775808 ≤ k.1 ∧ k.1 ≤ 9223372036854775807) ∧ (-9223372036854775808 ≤ k.2.1 ∧ k.2.1 ≤ 9223372036854775807) ∧ (-9223372036854775808 ≤ k.2.2 ∧ k.2.2 ≤ 9223372036854775807)

theorem key_ok {pre : List FE} {x : FE} (hx : x.Rng) (hp : pre.length ≤ 16777216) : FKok (keyIn pre x) := by
 have h1 := cnt_pos pre x.t x.m
 have h2 := cnt_le pre x.t x.m
 exact ⟨hx.1, hx.2.1, by unfold keyIn; simp only; omega⟩

theorem keysGo_ok : ∀ (l pre : List FE), (∀ x ∈ l, x.Rng) → pre.length + l.length ≤ 16777216 → ∀ k ∈ keysGo pre l, FKok k
 | [], _, _, _, _, h => by cases h
 | x :: r, pre, hR, hl, k, h => by
  rw [keysGo] at h
  simp only [List.length_cons] at hl
  rcases List.mem_cons.1 h with rfl | h
  ·exact key_ok (hR x (by simp)) (by omega)
  ·exact keysGo_ok r (pre ++ [x]) (fun y hy => hR y (List.mem_cons_of_mem _ hy)) (by simp; omega) k h
theorem keys_ok {l : List FE} (hR : ∀ x ∈ l, x.Rng) (hl : l.length ≤ 16777216) : ∀ k ∈ keysOf l, FKok k := keysGo_ok l [] hR (by simpa using hl)

def cntF (l : List FE) : FK → Option Int := fun k => if k.2.2 = 0 ∧ 0 < cnt l k.1 k.2.1 then some (cnt l k.1 k.2.1) else none

theorem cntF_nil : cntF [] = fun _ => none := by
 funext k
 unfold cntF
 rw [if_neg]
 rw [cnt_nil]
 omega

theorem cntF_get (l : List FE) (t m : Int) : (cntF l (t, m, 0)).getD 0 = cnt l t m := by
 unfold cntF
 have := cnt_pos l t m
 simp only
 split
 ·rfl
 ·rename_i h
  simp only [true_and] at h
  show (0 : Int) = _
  omega

theorem cntF_snoc (l : List FE) (x : FE) : cntF (l ++ [x]) = upd (cntF l) (x.t, x.m, 0) (some (cnt l x.t x.m + 1)) := by
 funext k
 obtain ⟨t, m, c⟩ := k
 by_cases e : ((t, m, c) : FK) = (x.t, x.m, 0)
 ·cases e
  rw [upd_same]
  unfold cntF
  simp only
  have := cnt_pos l x.t x.m
  rw [cnt_append, cnt_self, if_pos ⟨trivial, by omega⟩]
 ·rw [upd_other _ _ e]
  unfold cntF
  simp only
  rw [cnt_append, cnt_one]
  by_cases hc : c = 0
  ·have hb : both x t m = false := by
    rw [both_not]
    rintro ⟨rfl, rfl⟩
    exact e (by rw [hc])
   rw [hb]
   simp
  ·simp [hc]

theorem keys_at {l : List FE} {i : Nat} {k : FK} (hk : (keysOf l)[i]? = some k) : ∃ e, l[i]? = some e ∧ entsOf l k = some e := by
 have hm := ents_map l
 have h1 : ((keysOf l).map (entsOf l))[i]? = some (entsOf l k) := by rw [List.getElem?_map, hk]; rfl
 rw [hm, List.getElem?_map] at h1
 cases he : l[i]? with
 | none => rw [he] at h1; cases h1
 | some e =>
  rw [he] at h1
  simp at h1
  exact ⟨e, rfl, h1.symm⟩

theorem GRow.take {α : Type} {F : Flat α} {w : World} {ao : Option Addr} {n c k : Nat} {l : List α} (h : GRow F w ao n c l) (hk : k ≤ n) : GRow F w ao k c (l.take k) where
 size := by have := h.size; simp; omega
 le := Nat.le_trans hk h.le
 top := h.top
 nil := h.nil
 cell := by
  rcases h.cell with h0 | ⟨b, off, ha, hc⟩
  ·exact .inl (by omega)
  ·refine .inr ⟨b, off, ha, fun i x hi j v hv => hc i x ?_ j v hv⟩
   rw [List.getElem?_take] at hi
   split at hi
   ·exact hi
   ·cases hi

def markLk (k : Int) : LK := ⟨k, k + 1, k + 1 + 1, k + 1 + 1 + 1⟩
def markLs (k : Int) (n : Nat) : List LK := (List.range n).map fun (i : Nat) => markLk (k + 4 * i)

theorem markLs_length (k : Int) (n : Nat) : (markLs k n).length = n := by simp [markLs]
theorem markLs_succ (k : Int) (j : Nat) : markLs k (j + 1) = markLs k j ++ [markLk (k + 4 * j)] := by simp [markLs, List.range_succ]
theorem markLs_at (k : Int) (n j : Nat) (h : j < n) : (markLs k n)[j]? = some (markLk (k + 4 * j)) := by simp [markLs, List.getElem?_map, List.getElem?_range h]

set_option maxRecDepth 100000 in
set_option maxHeartbeats 2000000 in
theorem markLinks_at (base g n cap : Nat) (l : List LK) (k : Int) (w : World) (hown : w.ownsRow base 44 4 (.slice (some ⟨g, 0, none⟩) n cap) n (linkF.all l)) (hn : n ≤ 16777216) (hk0 : 0 ≤ k) (hk1 : k ≤ 1099511627776) :
  Calls Tryz.prog 26 #[.slice (some ⟨g, 0, none⟩) n cap, .int .i64 k] w fun r w' => r = .returned (.int .i64 (k + 4 * n)) ∧ w'.ownsRow base 44 4 (.slice (some ⟨g, 0, none⟩) n cap) n (linkF.all (markLs k n)) ∧ w.grownBy w' (some g) := by
 have hl : l.length = n := (grow_own (F := linkF) hown).size
 go_enter Tryz.func26, Tryz.ntmps26
 go_wp2
 go_loopw [1, 5] (fun m i wr => ∃ j : Nat, j ≤ n ∧ i = .int .i64 j ∧ m = .int .i64 (k + 4 * j) ∧ wr.ownsRow base 44 4 (.slice (some ⟨g, 0, none⟩) n cap) n (linkF.all (markLs k j ++ l.drop j)) ∧ w.grownBy wr (some g)) (fun _ i _ => n - (intOf i).toNat)
 case atStart => exact ⟨0, Nat.zero_le _, rfl, by simp, by simpa [markLs] using hown, World.grownBy.refl _ _⟩
 case round =>
  obtain ⟨j, hj, rfl, rfl, how, hg⟩ := hrel
  by_cases hlt : j < n
  ·obtain ⟨x, hx⟩ : ∃ x, l[j]? = some x := ⟨l[j]'(by omega), List.getElem?_eq_getElem (by omega)⟩
   have hdr : l.drop j = x :: l.drop (j + 1) := by
    obtain ⟨h, rfl⟩ := List.getElem?_eq_some_iff.1 hx
    exact List.drop_eq_getElem_cons h
   rw [hdr] at how
   have hlj := markLs_length k j
   have hz : (markLs k j ++ x :: l.drop (j + 1))[j]? = some x := by rw [List.getElem?_append_right (by omega), hlj, Nat.sub_self]; rfl
   obtain ⟨⟨t0, t1, t2, t3⟩, f0, f1, f2, f3⟩ := link_cells how hz
   have o3 := link_put (y := markLk (k + 4 * j)) how
   rw [hlj] at o3
   have HO3 := hide o3
   have HG := hide (grownTr hg (link_puts (w := wr) (g := g) (j := j * 4) (y := markLk (k + 4 * j))))
   have HM := hide (markLs_succ k j)
   have hm : 0 ≤ k + 4 * (j : Int) ∧ k + 4 * (j : Int) ≤ 2199023255552 := by omega
   clear how hg hown o3 hz hdr
   generalize hK : k + 4 * (j : Int) = K at *
   go_wp2
   go_roundw
   case rel => exact ⟨j + 1, by omega, by go_num, by simp; omega, by rw [HM.out, List.append_assoc]; exact HO3.out, HG.out⟩
   case measure => simp [intOf]; omega
  ·have hj' : j = n := by omega
   subst hj'
   rw [List.drop_eq_nil_of_le (by omega), List.append_nil] at how
   have HO := hide how
   clear how hown
   go_wp2
   go_ret
   exact ⟨rfl, HO.out, hg⟩

set_option maxRecDepth 100000 in
set_option maxHeartbeats 400000 in
theorem markLinks_nil (k : Int) (c : Nat) (w : World) :
  Calls Tryz.prog 26 #[.slice none 0 c, .int .i64 k] w fun r w' => r = .returned (.int .i64 k) ∧ w' = w := by
 go_enter Tryz.func26, Tryz.ntmps26
 go_wp2
 go_loop [1, 5] (fun m i => m = .int .i64 k ∧ i = .int .i64 0) (fun _ _ => 0)
 case atStart => exact ⟨rfl, rfl⟩
 case round =>
  obtain ⟨rfl, rfl⟩ := hrel
  go_wp2
  go_ret
  exact ⟨rfl, rfl⟩

theorem markLinks_grown (base : Nat) (ao : Option Addr) (n cap : Nat) (l : List LK) (k : Int) (w : World) (hown : w.ownsRow base 44 4 (.slice ao n cap) n (linkF.all l)) (hn : n ≤ 16777216) (hk0 : 0 ≤ k) (hk1 : k ≤ 1099511627776) :
  Calls Tryz.prog 26 #[.slice ao n cap, .int .i64 k] w fun r w' => r = .returned (.int .i64 (k + 4 * n)) ∧ w'.ownsRow base 44 4 (.slice ao n cap) n (linkF.all (markLs k n)) ∧ w.grownBy w' (Value.slice ao n cap).ownBlock := by
 rcases hown.2 with ⟨e, h0⟩ | ⟨g, cap', cur, e, -⟩
 ·cases e
  refine (markLinks_nil k 0 w).mono ?_
  rintro r w' ⟨rfl, rfl⟩
  exact ⟨by simp, by simpa [markLs, Flat.all] using World.ownsRow_nil w' base 44 4, World.grownBy.refl _ _⟩
 ·cases e
  exact markLinks_at base g n cap l k w hown hn hk0 hk1

set_option maxRecDepth 100000 in
set_option maxHeartbeats 2000000 in
theorem heldLinks_any (ao : Option Addr) (n cap : Nat) (k : Int) (w : World) (h1 : GRow linkF w ao n cap (markLs k n)) (hn : n ≤ 16777216) (hk0 : 0 ≤ k) (hk1 : k ≤ 1099511627776) :
  Calls Tryz.prog 62 #[.slice ao n cap, .int .i64 k] w fun r w' => r = .returned (.int .i64 (k + 4 * n)) ∧ Below w.heap.size w w' := by
 go_enter Tryz.func62, Tryz.ntmps62
 go_wp2
 go_loopw [1, 5] (fun m i wr => ∃ j : Nat, j ≤ n ∧ i = .int .i64 j ∧ m = .int .i64 (k + 4 * j) ∧ Below w.heap.size w wr) (fun _ i _ => n - (intOf i).toNat)
 case atStart => exact ⟨0, Nat.zero_le _, rfl, by simp, Below.refl _ _⟩
 case round =>
  obtain ⟨j, hj, rfl, rfl, hb⟩ := hrel
  by_cases hlt : j < n
  ·obtain ⟨x, b, off, hx, rfl, c0, c1, c2, c3⟩ := link_at (h1.below hb) j hlt
   rw [markLs_at k n j hlt] at hx
   cases hx
   have hm : 0 ≤ k + 4 * (j : Int) ∧ k + 4 * (j : Int) ≤ 2199023255552 := by omega
   unfold markLk at c0 c1 c2 c3
   generalize hK : k + 4 * (j : Int) = K at *
   go_wp2
   go_roundw
   case rel => exact ⟨j + 1, by omega, by go_num, by simp; omega, hb⟩
   case measure => simp [intOf]; omega
  ·have hj' : j = n := by omega
   subst hj'
   go_wp2
   go_ret
   exact ⟨rfl, hb⟩

set_option maxRecDepth 100000 in
set_option maxHeartbeats 400000 in
theorem markSays_nil (k : Int) (c : Nat) (w : World) :
  Calls Tryz.prog 60 #[.slice none 0 c, .int .i64 k] w fun r w' => r = .returned (.int .i64 k) ∧ w' = w := by
 go_enter Tryz.func60, Tryz.ntmps60
 go_wp2
 go_loop [1, 5] (fun m i => m = .int .i64 k ∧ i = .int .i64 0) (fun _ _ => 0)
 case atStart => exact ⟨rfl, rfl⟩
 case round =>
  obtain ⟨rfl, rfl⟩ := hrel
  go_wp2
  go_ret
  exact ⟨rfl, rfl⟩

set_option maxRecDepth 100000 in
set_option maxHeartbeats 400000 in
theorem heldSays_nil (k : Int) (c : Nat) (w : World) :
  Calls Tryz.prog 63 #[.slice none 0 c, .int .i64 k] w fun r w' => r = .returned (.int .i64 k) ∧ w' = w := by
 go_enter Tryz.func63, Tryz.ntmps63
 go_wp2
 go_loop [1, 5] (fun m i => m = .int .i64 k ∧ i = .int .i64 0) (fun _ _ => 0)
 case atStart => exact ⟨rfl, rfl⟩
 case round =>
  obtain ⟨rfl, rfl⟩ := hrel
  go_wp2
  go_ret
  exact ⟨rfl, rfl⟩

def byB (zs : List Int) : ByteArray := ⟨(zs.map fun z => UInt8.ofNat z.toNat).toArray⟩

theorem byB_size (zs : List Int) : (byB zs).size = zs.length := by
 show (zs.map fun z => UInt8.ofNat z.toNat).toArray.size = _
 rw [List.size_toArray, List.length_map]

theorem byte_back {z : Int} (h : 0 ≤ z ∧ z ≤ 255) : ((UInt8.ofNat z.toNat).toNat : Int) = z := by
 rw [UInt8.toNat_ofNat']
 omega

theorem conv_row (dst : TypeId) (w : World) (ao : Option Addr) (l c : Nat) (zs : List Int) (h : Row w ao l c zs) (hd : Tryz.prog.underlying dst = some .string) : (convert 22 dst (.slice ao l c)).run Tryz.prog w = .ok (.string (byB zs)) w := by
 have hl : (zs.map fun z => UInt8.ofNat z.toNat).length = l := by rw [List.length_map]; exact h.size
 rcases ao with _ | a
 ·obtain ⟨rfl, rfl⟩ := h.none_zero rfl
  have hz : zs = [] := List.eq_nil_of_length_eq_zero h.size
  subst hz
  rw [run_convert_bytes_string w 22 dst 5 none 0 0 Tryz.underlying22 Tryz.underlying5 hd]
  rfl
 ·have := run_convert_bytes_back (P := Tryz.prog) w 22 dst 5 a c (zs.map fun z => UInt8.ofNat z.toNat) Tryz.underlying22 Tryz.underlying5 hd (by
   intro j hj
   have hj' : j < zs.length := by simpa using hj
   rw [h.news a rfl j _ (cB_get zs j hj')]
   have hb := getD_byte h.byte j
   have e : (zs.map fun z => UInt8.ofNat z.toNat)[j] = UInt8.ofNat (zs.getD j 0).toNat := by simp [List.getD_eq_getElem?_getD, hj']
   rw [e, byte_back hb])
  rw [hl] at this
  exact this

def mtF : Nat → Nat → ByteArray → ByteArray
 | 0, _, out => out
 | f + 1, k, out => if k = 0 then out else mtF f (k / 10) (byB [((48 + k % 10 : Nat) : Int)] ++ out)
def mtx (k : Int) : ByteArray := ⟨#[109]⟩ ++ mtF 20 k.toNat ⟨#[]⟩

theorem mtF_zero (f : Nat) (out : ByteArray) : mtF f 0 out = out := by cases f <;> simp [mtF]

structure MT (k : Int) (m : Nat) (out : ByteArray) : Prop where
 f : ∃ f, mtF f m out = mtF 20 k.toNat ⟨#[]⟩ ∧ m < 10 ^ f ∧ out.size + f ≤ 20

theorem MT.next {k : Int} {m : Nat} {out : ByteArray} (h : MT k m out) (hm : 0 < m) : MT k (m / 10) (byB [((48 + m % 10 : Nat) : Int)] ++ out) := by
 obtain ⟨f, h1, h2, h3⟩ := h.f
 cases f with
 | zero => simp at h2; omega
 | succ f =>
  refine ⟨f, ?_, ?_, ?_⟩
  ·rw [← h1]
   conv => rhs; unfold mtF
   rw [if_neg (by omega)]
  ·rw [Nat.pow_succ] at h2; omega
  ·rw [ByteArray.size_append, byB_size]; simp; omega
theorem MT.done {k : Int} {out : ByteArray} (h : MT k 0 out) : ⟨#[109]⟩ ++ out = mtx k := by
 obtain ⟨f, h1, -, -⟩ := h.f
 rw [mtF_zero] at h1
 unfold mtx
 rw [h1]
theorem MT.small {k : Int} {m : Nat} {out : ByteArray} (h : MT k m out) : out.size ≤ 20 := by
 obtain ⟨f, -, -, h3⟩ := h.f; omega

set_option maxRecDepth 100000 in
set_option maxHeartbeats 1000000 in
theorem markText_any (k : Int) (w : World) (h0 : 0 < k) (h1 : k ≤ 1099511627776) :
  Calls Tryz.prog 91 #[.int .i64 k] w fun e w' => e = .returned (.string (mtx k)) ∧ (mtx k).size ≤ 21 ∧ Below w.heap.size w w' := by
 have hstart : MT k k.toNat ⟨#[]⟩ := ⟨20, rfl, by omega, by simp [ByteArray.size]⟩
 have hk0 : ¬ k ≤ 0 := by omega
 go_enter Tryz.func91, Tryz.ntmps91
 go_wp2
 go_loopw [0, 3] (fun x s wr => ∃ (m : Nat) (out : ByteArray), x = .int .i64 m ∧ s = .string out ∧ (m : Int) ≤ k ∧ MT k m out ∧ Below w.heap.size w wr) (fun x _ _ => (intOf x).toNat)
 case atStart => exact ⟨k.toNat, ⟨#[]⟩, by rw [Int.toNat_of_nonneg (by omega)], rfl, by omega, hstart, Below.refl _ _⟩
 case round =>
  obtain ⟨m, out, rfl, rfl, hmk, hmt, hb⟩ := hrel
  have hsm := hmt.small
  by_cases hm : 0 < m
  ·have hnx := hmt.next hm
   have hw0 : (m : Int).tdiv 10 = ((m / 10 : Nat) : Int) := by rw [Int.tdiv_eq_ediv_of_nonneg (by omega)]; omega
   have hw1 : (m : Int).tmod 10 = ((m % 10 : Nat) : Int) := by rw [Int.tmod_eq_emod_of_nonneg (by omega)]; omega
   have hd : m % 10 < 10 := Nat.mod_lt _ (by omega)
   have hcv := conv_row 9 (wr.alloc (.cells #[.int .u8 ((48 + m % 10 : Nat) : Int)] 5)) (some ⟨wr.heap.size, 0, none⟩) 1 1 [((48 + m % 10 : Nat) : Int)] (row_one wr _ (by omega)) Tryz.underlying9
   have hbs : (byB [((48 + m % 10 : Nat) : Int)]).size = 1 := byB_size _
   have HB := hide (hb.trans ((below_one wr (.cells #[.int .u8 ((48 + m % 10 : Nat) : Int)] 5)).mono hb.size))
   have HN := hide hnx
   clear hb hnx hstart hmt
   generalize hD : ((48 + m % 10 : Nat) : Int) = D at *
   have hD' : 48 + ((m % 10 : Nat) : Int) = D := by rw [← hD]; omega
   generalize ((m % 10 : Nat) : Int) = r at *
   generalize hq : m / 10 = q at *
   go_wp2
   go_roundw
   case rel => exact ⟨q, _, rfl, rfl, by omega, HN.out, HB.out⟩
   case measure => simp [intOf]; omega
  ·have hm0 : m = 0 := by omega
   subst hm0
   have HD := hide hmt.done
   have hsz : (ByteArray.mk #[109] ++ out).size ≤ 21 := by rw [ByteArray.size_append]; have : (ByteArray.mk #[109]).size = 1 := rfl; omega
   have HS := hide hsz
   clear hsz hmt
   go_wp2
   go_ret
   exact ⟨by rw [← HD.out]; rfl, by rw [← HD.out]; exact HS.out, hb⟩

end Go.Proofs.YtdmplbmfkliiiaaGreat
