/-
  Packed: MapIs MapEnt FdbKeys FlatCopy RepFlat SameStr.
-/
import Derived.Test.YtfknffdlmcckkaaGreatPTK01
import Derived.Test.YtfknffdlmcckkaaGreatPTK02
import Derived.Maps.RangeWalk
import Derived.Laws.CopyRow
import Derived.Lib.AppendZeros
import Derived.Lib.Overlaps
namespace Go.Proofs.YtfknffdlmcckkaaGreat
open Go.RowKit

section
open Go.RowKit Go.ChangeMaps Go.MapKept
open Go.WideElems (Fit rd rd_mk rd_key other_key)
open Go.Maps (Keyed)

def rdAny (_ : Value) : Option (DataW Unit × List MemPlace) := some (.nil, [])

structure MK (P : Program) (α β : Type) where
 T : TypeId
 K : TypeId
 E : TypeId
 law : Keyed P K
 und : P.underlying T = some (.map K E)
 kv : α → Value
 vv : β → Value
 ok : α → Prop
 key : ∀ a, ok a → ∃ l, keyOf P K (kv a) = some l
 inj : ∀ a b, kv a = kv b → a = b
 z : β
 zero : ∀ w, (zeroValue E).run P w = .ok (vv z) w

def upd {α γ : Type} [DecidableEq α] (g : α → γ) (a : α) (v : γ) : α → γ := fun x => if x = a then v else g x

theorem upd_same {α γ : Type} [DecidableEq α] (g : α → γ) (a : α) (v : γ) : upd g a v a = v := if_pos rfl
theorem upd_other {α γ : Type} [DecidableEq α] (g : α → γ) {a b : α} (v : γ) (h : b ≠ a) : upd g a v b = g b := if_neg h

variable {P : Program} {α β : Type}

structure Ents (M : MK P α β) (es : Array MapEntry) (clock n : Nat) (g : α → Option β) : Prop where
 fit : Fit P M.K rdAny es clock
 size : es.size ≤ n
 down : ∀ x ∈ es.toList, ∃ a v, M.ok a ∧ x.key = M.kv a ∧ x.val = M.vv v ∧ g a = some v
 up : ∀ a v, g a = some v → ∃ x ∈ es.toList, x.key = M.kv a ∧ x.val = M.vv v

def MapIs (M : MK P α β) (w : World) (b n : Nat) (g : α → Option β) : Prop := ∃ es clock, w.heap[b]? = some (.map es clock) ∧ Ents M es clock n g

theorem MapIs.made (M : MK P α β) (w : World) : MapIs M (w.alloc (.map #[] 0)) w.heap.size 0 (fun _ => none) :=
 ⟨#[], 0, block_last w _, ⟨⟨by simp, stamped_empty 0, by simp⟩, Nat.le_refl _, by simp, by simp⟩⟩

theorem MapIs.block {M : MK P α β} {w w' : World} {b n : Nat} {g : α → Option β} (h : MapIs M w b n g) (hb : w'.heap[b]? = w.heap[b]?) : MapIs M w' b n g := by
 obtain ⟨es, clock, h1, h2⟩ := h
 exact ⟨es, clock, hb.trans h1, h2⟩

theorem MapIs.lt {M : MK P α β} {w : World} {b n : Nat} {g : α → Option β} (h : MapIs M w b n g) : b < w.heap.size := by
 obtain ⟨es, clock, h1, -⟩ := h
 exact (Array.getElem?_eq_some_iff.1 h1).1

theorem MapIs.below {M : MK P α β} {w w' : World} {b n B : Nat} {g : α → Option β} (h : MapIs M w b n g) (hb : Below B w w') (hB : b < B) : MapIs M w' b n g := h.block (hb.block b hB)

theorem MapIs.kept {M : MK P α β} {w w' : World} {b n : Nat} {g : α → Option β} (h : MapIs M w b n g) (hb : Below w.heap.size w w') : MapIs M w' b n g := h.below hb h.lt

theorem MapIs.grown {M : MK P α β} {w w' : World} {b n : Nat} {g : α → Option β} (h : MapIs M w b n g) {row : Option Nat} (hg : w.grownBy w' row) (hne : row ≠ some b) : MapIs M w' b n g := h.block (hg.block b h.lt (fun e => hne e.symm))

theorem MapIs.mono {M : MK P α β} {w : World} {b n n' : Nat} {g : α → Option β} (h : MapIs M w b n g) (hn : n ≤ n') : MapIs M w b n' g := by
 obtain ⟨es, clock, h1, h2⟩ := h
 exact ⟨es, clock, h1, h2.fit, Nat.le_trans h2.size hn, h2.down, h2.up⟩

theorem ents_key {M : MK P α β} {es : Array MapEntry} {clock n : Nat} {g : α → Option β} (h : Ents M es clock n g) {x : MapEntry} (hx : x ∈ es.toList) {a : α} (hk : x.key = M.kv a) : ∃ v, x.val = M.vv v ∧ g a = some v := by
 obtain ⟨a', v, _, h1, h2, h3⟩ := h.down x hx
 have : a' = a := M.inj _ _ (h1.symm.trans hk)
 subst this
 exact ⟨v, h2, h3⟩

theorem MapIs.look {M : MK P α β} {w : World} {b n : Nat} {g : α → Option β} (h : MapIs M w b n g) (c : Bool) {a : α} (ha : M.ok a) :
  (Instr.lookup M.T (.map (some b)) (M.kv a) c).run P w = .ok (if c = true then .tuple #[M.vv ((g a).getD M.z), .bool (g a).isSome] else M.vv ((g a).getD M.z)) w := by
 obtain ⟨es, clock, hb, he⟩ := h
 obtain ⟨kl, hkey⟩ := M.key a ha
 rcases M.law.find w hkey es.toList he.fit.keys with ⟨h1, h2⟩ | ⟨j, e0, h1, h2, h3⟩
 ·have hg : g a = none := by
   cases hga : g a with
   | none => rfl
   | some v =>
    obtain ⟨x, hx, hk, _⟩ := he.up a v hga
    exact absurd hk (h2 x hx)
  rw [hg]
  simp [Instr.lookup, run_underlying M.und, MapKept.run_getObj_map hb, M.law.check w _ hkey, h1, M.zero, Result.andThen]
 ·obtain ⟨v, hv, hg⟩ := ents_key he (List.mem_of_getElem? h2) h3
  rw [hg]
  simp [Instr.lookup, run_underlying M.und, MapKept.run_getObj_map hb, M.law.check w _ hkey, h1, hv, Result.andThen]

theorem ents_store [DecidableEq α] {M : MK P α β} {w : World} {b n : Nat} {es : Array MapEntry} {clock : Nat} {g : α → Option β} (hb : w.heap[b]? = some (.map es clock)) (he : Ents M es clock n g) (hn : n < maxLen) {a : α} (ha : M.ok a) (v : β) :
  ∃ es' clock', (Instr.mapUpdate M.T (.map (some b)) (M.kv a) (M.vv v)).run P w = .ok () (setBlock w b (.map es' clock')) ∧ Ents M es' clock' (n + 1) (upd g a (some v)) ∧
   ((g a).isSome = true → clock' = clock ∧ es'.size = es.size ∧ (∀ x' ∈ es'.toList, ∃ x ∈ es.toList, x.key = x'.key ∧ x.born = x'.born) ∧ es'.toList.map (·.born) = es.toList.map (·.born)) := by
 obtain ⟨kl, hkey⟩ := M.key a ha
 rcases M.law.find w hkey es.toList he.fit.keys with ⟨h1, h2⟩ | ⟨j, e0, h1, h2, h3⟩
 ·have hg : g a = none := by
   cases hga : g a with
   | none => rfl
   | some u =>
    obtain ⟨x, hx, hk, _⟩ := he.up a u hga
    exact absurd hk (h2 x hx)
  have hsz := he.size
  refine ⟨es.push ⟨M.kv a, M.vv v, clock⟩, clock + 1, ?_, ⟨⟨by simp; omega, stamped_push he.fit.stamped h2, ?_⟩, by simp; omega, ?_, ?_⟩, ?_⟩
  ·simp [Instr.mapUpdate, run_underlying M.und, MapKept.run_getObj_map hb, M.law.check w false hkey, h1, MapKept.run_setObj_map _ hb, Result.andThen, setBlock]
  ·intro x hx
   simp only [Array.toList_push, List.mem_append, List.mem_singleton] at hx
   rcases hx with hx | rfl
   ·exact he.fit.reads x hx
   ·exact ⟨_, rd_mk (R := rdAny) hkey rfl⟩
  ·intro x hx
   simp only [Array.toList_push, List.mem_append, List.mem_singleton] at hx
   rcases hx with hx | rfl
   ·obtain ⟨a', v', h4, h5, h6, h7⟩ := he.down x hx
    refine ⟨a', v', h4, h5, h6, ?_⟩
    rw [upd_other g _ (fun e => h2 x hx (by rw [h5, e]))]
    exact h7
   ·exact ⟨a, v, ha, rfl, rfl, upd_same g a _⟩
  ·intro a' v' h4
   by_cases e : a' = a
   ·subst e
    rw [upd_same] at h4
    cases h4
    exact ⟨⟨M.kv a', M.vv v, clock⟩, by simp, rfl, rfl⟩
   ·rw [upd_other g _ e] at h4
    obtain ⟨x, hx, h5, h6⟩ := he.up a' v' h4
    exact ⟨x, by simp only [Array.toList_push, List.mem_append]; exact .inl hx, h5, h6⟩
  ·rw [hg]; intro h; cases h
 ·have hj : es[j]? = some e0 := by simpa using h2
  have hjl : j < es.toList.length := (List.getElem?_eq_some_iff.1 h2).1
  have hm0 := List.mem_of_getElem? h2
  have hlist : (es.modify j (fun e' => { e' with key := M.kv a, val := M.vv v })).toList = es.toList.set j { e0 with key := M.kv a, val := M.vv v } := by rw [Array.toList_modify, modify_eq_set _ _ _ _ h2]
  have who : ∀ x ∈ es.toList.set j { e0 with key := M.kv a, val := M.vv v }, x = { e0 with key := M.kv a, val := M.vv v } ∨ (x ∈ es.toList ∧ x.key ≠ M.kv a) := by
   intro x hx
   obtain ⟨i, hi, ex⟩ := List.getElem_of_mem hx
   rw [List.getElem_set] at ex
   split at ex
   ·exact Or.inl ex.symm
   ·rename_i hne
    have hi' : i < es.toList.length := by simpa using hi
    refine Or.inr ⟨ex ▸ List.getElem_mem hi', ?_⟩
    rw [← h3]
    exact other_key he.fit h2 (by rw [List.getElem?_eq_getElem hi', ex]) (fun e1 => hne e1.symm)
  have hkeyf : ∀ e', es[j]? = some e' → ({ e' with key := M.kv a, val := M.vv v } : MapEntry).key = e'.key := fun e' he' => by rw [hj] at he'; cases he'; exact h3.symm
  have hsz := he.size
  refine ⟨es.modify j (fun e' => { e' with key := M.kv a, val := M.vv v }), clock, ?_, ⟨⟨by simpa using he.fit.size, stamped_modify he.fit.stamped _ _ (fun _ _ => rfl) (fun e' _ he' => hkeyf e' he'), ?_⟩, by simp; omega, ?_, ?_⟩, ?_⟩
  ·simp [Instr.mapUpdate, run_underlying M.und, MapKept.run_getObj_map hb, M.law.check w false hkey, h1, hj, h3, M.law.stays w hkey, MapKept.run_setObj_map _ hb, Result.andThen, setBlock]
  ·intro x hx
   rw [hlist] at hx
   rcases who x hx with rfl | ⟨hx', _⟩
   ·exact ⟨_, rd_mk (R := rdAny) hkey rfl⟩
   ·exact he.fit.reads x hx'
  ·intro x hx
   rw [hlist] at hx
   rcases who x hx with rfl | ⟨hx', hne⟩
   ·exact ⟨a, v, ha, rfl, rfl, upd_same g a _⟩
   ·obtain ⟨a', v', h4, h5, h6, h7⟩ := he.down x hx'
    refine ⟨a', v', h4, h5, h6, ?_⟩
    rw [upd_other g _ (fun e => hne (by rw [h5, e]))]
    exact h7
  ·intro a' v' h4
   rw [hlist]
   by_cases e : a' = a
   ·subst e
    rw [upd_same] at h4
    cases h4
    exact ⟨{ e0 with key := M.kv a', val := M.vv v }, List.mem_iff_getElem.2 ⟨j, by simpa using hjl, by simp⟩, rfl, rfl⟩
   ·rw [upd_other g _ e] at h4
    obtain ⟨x, hx, h5, h6⟩ := he.up a' v' h4
    obtain ⟨i, hi, ex⟩ := List.getElem_of_mem hx
    have hij : j ≠ i := by
     intro e1
     subst e1
     rw [List.getElem?_eq_getElem hi] at h2
     cases h2
     rw [ex] at h3
     exact e (M.inj _ _ (h5.symm.trans h3))
    exact ⟨x, List.mem_iff_getElem.2 ⟨i, by simpa using hi, by rw [List.getElem_set_ne hij]; exact ex⟩, h5, h6⟩
  ·intro _
   refine ⟨rfl, by simp, ?_, ?_⟩
   ·intro x' hx'
    rw [hlist] at hx'
    rcases who x' hx' with rfl | ⟨hx, _⟩
    ·exact ⟨e0, hm0, h3, rfl⟩
    ·exact ⟨x', hx, rfl, rfl⟩
   ·rw [hlist, List.map_set]
    have : (es.toList.map (·.born))[j]'(by simpa using hjl) = e0.born := by
     obtain ⟨hl, e1⟩ := List.getElem?_eq_some_iff.1 h2
     simp [← e1]
    rw [← this]
    exact List.set_getElem_self _

theorem MapIs.store [DecidableEq α] {M : MK P α β} {w : World} {b n : Nat} {g : α → Option β} (h : MapIs M w b n g) (hn : n < maxLen) {a : α} (ha : M.ok a) (v : β) :
  ∃ w', (Instr.mapUpdate M.T (.map (some b)) (M.kv a) (M.vv v)).run P w = .ok () w' ∧ MapIs M w' b (n + 1) (upd g a (some v)) ∧ w.grownBy w' (some b) ∧ w'.heap.size = w.heap.size := by
 obtain ⟨es, clock, hb, he⟩ := h
 obtain ⟨es', clock', hrun, he', -⟩ := ents_store hb he hn ha v
 exact ⟨_, hrun, ⟨es', clock', heap_setBlock_same hb _, he'⟩, ⟨rfl, rfl, rfl, by simp [setBlock], fun i _ hi => heap_setBlock_other hb _ (fun e => hi (by rw [e]))⟩, by simp [setBlock]⟩

theorem ents_drop [DecidableEq α] {M : MK P α β} {w : World} {b n : Nat} {es : Array MapEntry} {clock : Nat} {g : α → Option β} (hb : w.heap[b]? = some (.map es clock)) (he : Ents M es clock n g) {a : α} (ha : M.ok a) (ty : TypeId) :
  ∃ es', (Builtin.delete_ #[M.T, M.K] ty #[.map (some b), M.kv a]).run P w = .ok (.tuple #[]) (setBlock w b (.map es' clock)) ∧ Ents M es' clock n (upd g a none) ∧ es'.toList.Sublist es.toList ∧ ∀ x, x ∈ es'.toList ↔ (x ∈ es.toList ∧ x.key ≠ M.kv a) := by
 obtain ⟨kl, hkey⟩ := M.key a ha
 obtain ⟨es', hrun, hfit, hsz, -, hsub, hwho⟩ := fit_drop_who (ty := ty) M.law M.und hb he.fit hkey
 refine ⟨es', hrun, ⟨hfit, Nat.le_trans hsz he.size, ?_, ?_⟩, hsub, hwho⟩
 ·intro x hx
  obtain ⟨hx1, hx2⟩ := (hwho x).1 hx
  obtain ⟨a', v', h4, h5, h6, h7⟩ := he.down x hx1
  refine ⟨a', v', h4, h5, h6, ?_⟩
  rw [upd_other g _ (fun e => hx2 (by rw [h5, e]))]
  exact h7
 ·intro a' v' h4
  by_cases e : a' = a
  ·subst e
   rw [upd_same] at h4
   cases h4
  ·rw [upd_other g _ e] at h4
   obtain ⟨x, hx, h5, h6⟩ := he.up a' v' h4
   exact ⟨x, (hwho x).2 ⟨hx, fun e1 => e (M.inj _ _ (h5.symm.trans e1))⟩, h5, h6⟩

theorem MapIs.drop [DecidableEq α] {M : MK P α β} {w : World} {b n : Nat} {g : α → Option β} (h : MapIs M w b n g) {a : α} (ha : M.ok a) (ty : TypeId) :
  ∃ w', (Builtin.delete_ #[M.T, M.K] ty #[.map (some b), M.kv a]).run P w = .ok (.tuple #[]) w' ∧ MapIs M w' b n (upd g a none) ∧ w.grownBy w' (some b) ∧ w'.heap.size = w.heap.size := by
 obtain ⟨es, clock, hb, he⟩ := h
 obtain ⟨es', hrun, he', -, -⟩ := ents_drop hb he ha ty
 exact ⟨_, hrun, ⟨es', clock, heap_setBlock_same hb _, he'⟩, ⟨rfl, rfl, rfl, by simp [setBlock], fun i _ hi => heap_setBlock_other hb _ (fun e => hi (by rw [e]))⟩, by simp [setBlock]⟩

def Ranging (M : MK P α β) (w : World) (b r n : Nat) (g : α → Option β) (left : α → Bool) (cnt : Nat) : Prop :=
 ∃ es clock since seen c0, w.heap[b]? = some (.map es clock) ∧ Ents M es clock n g ∧ w.heap[r]? = some (.mapIter (some b) since seen c0) ∧ (∀ x ∈ es.toList, x.born < since) ∧ (leftOf es seen).size = cnt ∧
  (∀ x ∈ es.toList, ∀ a, x.key = M.kv a → left a = !seen.contains x.born) ∧ (∀ a, left a = true → (g a).isSome = true) ∧ since ≤ c0 ∧ since ≤ clock

theorem Ranging.is {M : MK P α β} {w : World} {b r n : Nat} {g : α → Option β} {left : α → Bool} {cnt : Nat} (h : Ranging M w b r n g left cnt) : MapIs M w b n g := by
 obtain ⟨es, clock, since, seen, c0, hb, he, -⟩ := h
 exact ⟨es, clock, hb, he⟩

theorem Ranging.ne {M : MK P α β} {w : World} {b r n : Nat} {g : α → Option β} {left : α → Bool} {cnt : Nat} (h : Ranging M w b r n g left cnt) : r ≠ b := by
 obtain ⟨es, clock, since, seen, c0, hb, he, hr, -⟩ := h
 intro e
 rw [e, hb] at hr
 cases hr

theorem Ranging.lt {M : MK P α β} {w : World} {b r n : Nat} {g : α → Option β} {left : α → Bool} {cnt : Nat} (h : Ranging M w b r n g left cnt) : r < w.heap.size := by
 obtain ⟨es, clock, since, seen, c0, hb, he, hr, -⟩ := h
 exact (Array.getElem?_eq_some_iff.1 hr).1

theorem Ranging.kept {M : MK P α β} {w w' : World} {b r n : Nat} {g : α → Option β} {left : α → Bool} {cnt : Nat} (h : Ranging M w b r n g left cnt) (hb1 : w'.heap[b]? = w.heap[b]?) (hr1 : w'.heap[r]? = w.heap[r]?) : Ranging M w' b r n g left cnt := by
 obtain ⟨es, clock, since, seen, c0, hb, he, hr, rest⟩ := h
 exact ⟨es, clock, since, seen, c0, hb1.trans hb, he, hr1.trans hr, rest⟩

theorem Ranging.below {M : MK P α β} {w w' : World} {b r n : Nat} {g : α → Option β} {left : α → Bool} {cnt : Nat} (h : Ranging M w b r n g left cnt) (hb : Below w.heap.size w w') : Ranging M w' b r n g left cnt :=
 h.kept (hb.block b h.is.lt) (hb.block r h.lt)

theorem Ranging.left_eq {M : MK P α β} {w : World} {b r n : Nat} {g : α → Option β} {left : α → Bool} {cnt : Nat} (h : Ranging M w b r n g left cnt) : w.rangeLeft b r = cnt := by
 obtain ⟨es, clock, since, seen, c0, hb, he, hr, h1, h2, -⟩ := h
 simp only [World.rangeLeft, hb, hr]
 exact h2

theorem MapIs.range {M : MK P α β} {w : World} {b n : Nat} {g : α → Option β} (h : MapIs M w b n g) :
  ∃ w' cnt, (Instr.range M.T (.map (some b))).run P w = .ok (.pointer (some ⟨w.heap.size, 0, none⟩)) w' ∧ Ranging M w' b w.heap.size n g (fun a => (g a).isSome) cnt ∧ Below w.heap.size w w' ∧ w'.heap.size = w.heap.size + 1 := by
 have hlt := h.lt
 obtain ⟨es, clock, hb, he⟩ := h
 refine ⟨_, _, run_range_map w M.T M.K M.E b es clock M.und hb, ⟨es, clock, clock, #[], clock, ((MapKept.heap_alloc w _).2 b hlt).trans hb, he, (MapKept.heap_alloc w _).1, he.fit.stamped.1, rfl, ?_, ?_, Nat.le_refl _, Nat.le_refl _⟩, below_one w _, by simp⟩
 ·intro x hx a hk
  obtain ⟨v, _, hg⟩ := ents_key he hx hk
  simp [hg]
 ·intro a ha
  exact ha

theorem Ranging.next [DecidableEq α] {M : MK P α β} {w : World} {b r n : Nat} {g : α → Option β} {left : α → Bool} {cnt : Nat} (h : Ranging M w b r n g left cnt) (ty : TypeId) :
  (cnt = 0 ∧ (∀ a, left a = false) ∧ (Instr.next (.pointer (some ⟨r, 0, none⟩)) false ty).run P w = .ok (.tuple #[.bool false]) w) ∨
  ∃ a v w' cnt', M.ok a ∧ left a = true ∧ g a = some v ∧ (Instr.next (.pointer (some ⟨r, 0, none⟩)) false ty).run P w = .ok (.tuple #[.bool true, M.kv a, M.vv v]) w' ∧
   Ranging M w' b r n g (upd left a false) cnt' ∧ cnt' < cnt ∧ w.grownBy w' (some r) ∧ w'.heap.size = w.heap.size ∧ (Instr.entry (.pointer (some ⟨r, 0, none⟩))).run P w' = .ok (.tuple #[M.kv a, M.vv v]) w' := by
 have hne := h.ne
 obtain ⟨es, clock, since, seen, c0, hb, he, hr, hold, rfl, hl1, hl2, hsc, hsk⟩ := h
 have hst := (stamped_iff es clock).1 he.fit.stamped
 rcases run_next_at (P := P) w ty r b since c0 seen es clock hr hb hold hsc with ⟨h0, hrun⟩ | ⟨e, hem', w1, hal, hrun⟩
 ·refine Or.inl ⟨h0, fun a => ?_, hrun⟩
  cases hk : left a
  ·rfl
  ·obtain ⟨v, hv⟩ := Option.isSome_iff_exists.1 (hl2 a hk)
   obtain ⟨x, hx, hxk, _⟩ := he.up a v hv
   rw [hl1 x hx a hxk, all_seen es seen h0 x hx] at hk
   cases hk
 ·obtain ⟨hem, hes⟩ := mem_left hem'
  obtain ⟨a, v, hok, hka, hva, hga⟩ := he.down e hem
  have hr1 : w1.heap[r]? = some (.mapIter (some b) since seen c0) := by rcases hal with rfl | rfl <;> exact hr
  have hb1 : w1.heap[b]? = some (.map es clock) := by rcases hal with rfl | rfl <;> exact hb
  have hset := heap_set (o' := .mapIter (some b) since (seen.push e.born) clock) hr1
  have hb' : (setBlock w1 r (.mapIter (some b) since (seen.push e.born) clock)).heap[b]? = some (.map es clock) := (hset.2 b (fun e1 => hne e1.symm)).trans hb1
  rw [hka, hva] at hrun
  refine Or.inr ⟨a, v, _, _, hok, by rw [hl1 e hem a hka, hes]; rfl, hga, hrun,
   ⟨es, clock, since, seen.push e.born, clock, hb', he, hset.1, hold, rfl, fun x hx a' hxa => ?_, fun a' ha' => ?_, hsk, hsk⟩, left_shrinks es seen e hem', ?_, ?_, ?_⟩
  ·rw [contains_push]
   by_cases e1 : a' = a
   ·subst e1
    rw [upd_same]
    have : x = e := entry_eq_of_key hst.2.2 hx hem (hxa.trans hka.symm)
    subst this
    simp
   ·rw [upd_other left _ e1, hl1 x hx a' hxa]
    have : (x.born == e.born) = false := by
     rw [beq_eq_false_iff_ne]
     intro e2
     have := born_inj hst.2.1 hx hem e2
     subst this
     exact e1 (M.inj _ _ (hxa.symm.trans hka))
    rw [this, Bool.or_false]
  ·refine hl2 a' ?_
   by_cases e1 : a' = a
   ·subst e1
    rw [upd_same] at ha'
    cases ha'
   ·rw [upd_other left _ e1] at ha'
    exact ha'
  ·rcases hal with rfl | rfl <;> exact ⟨rfl, rfl, rfl, by simp [setBlock], fun i _ hi => hset.2 i (fun e1 => hi (by rw [e1]))⟩
  ·rcases hal with rfl | rfl <;> simp [setBlock]
  ·have := run_entry_at (P := P) _ r b since seen es clock e hset.1 hb' hem hst.2.1
   rw [hka, hva] at this
   exact this

theorem left_length (es : Array MapEntry) (seen : Array Nat) : (leftOf es seen).size = ((es.toList.map (·.born)).filter fun k => !seen.contains k).length := by
 unfold leftOf
 rw [← Array.length_toList, Array.toList_filter, List.filter_map, List.length_map]
 rfl

theorem Ranging.store [DecidableEq α] {M : MK P α β} {w : World} {b r n : Nat} {g : α → Option β} {left : α → Bool} {cnt : Nat} (h : Ranging M w b r n g left cnt) (hn : n < maxLen) {a : α} (ha : M.ok a) (hs : (g a).isSome = true) (v : β) :
  ∃ w', (Instr.mapUpdate M.T (.map (some b)) (M.kv a) (M.vv v)).run P w = .ok () w' ∧ Ranging M w' b r n (upd g a (some v)) left cnt ∧ w.grownBy w' (some b) ∧ w'.heap.size = w.heap.size := by
 have hne := h.ne
 obtain ⟨es, clock, since, seen, c0, hb, he, hr, hold, rfl, hl1, hl2, hsc, hsk⟩ := h
 obtain ⟨es', clock', hrun, he', hz⟩ := ents_store hb he hn ha v
 obtain ⟨rfl, hsz, hwho, hborn⟩ := hz hs
 refine ⟨_, hrun, ⟨es', clock', since, seen, c0, heap_setBlock_same hb _, ⟨he'.fit, by rw [hsz]; exact he.size, he'.down, he'.up⟩, (heap_setBlock_other hb _ hne).trans hr, ?_, ?_, ?_, ?_, hsc, hsk⟩, ⟨rfl, rfl, rfl, by simp [setBlock], fun i _ hi => heap_setBlock_other hb _ (fun e => hi (by rw [e]))⟩, by simp [setBlock]⟩
 ·intro x' hx'
  obtain ⟨x, hx, _, hxb⟩ := hwho x' hx'
  rw [← hxb]
  exact hold x hx
 ·rw [left_length, left_length, hborn]
 ·intro x' hx' a' hk
  obtain ⟨x, hx, hxk, hxb⟩ := hwho x' hx'
  rw [← hxb]
  exact hl1 x hx a' (hxk.trans hk)
 ·intro a' ha'
  by_cases e : a' = a
  ·subst e; rw [upd_same]; rfl
  ·rw [upd_other g _ e]; exact hl2 a' ha'

theorem Ranging.drop [DecidableEq α] {M : MK P α β} {w : World} {b r n : Nat} {g : α → Option β} {left : α → Bool} {cnt : Nat} (h : Ranging M w b r n g left cnt) {a : α} (ha : M.ok a) (hs : left a = false) (ty : TypeId) :
  ∃ w' cnt', (Builtin.delete_ #[M.T, M.K] ty #[.map (some b), M.kv a]).run P w = .ok (.tuple #[]) w' ∧ Ranging M w' b r n (upd g a none) left cnt' ∧ cnt' ≤ cnt ∧ w.grownBy w' (some b) ∧ w'.heap.size = w.heap.size := by
 have hne := h.ne
 obtain ⟨es, clock, since, seen, c0, hb, he, hr, hold, rfl, hl1, hl2, hsc, hsk⟩ := h
 obtain ⟨es', hrun, he', hsub, hwho⟩ := ents_drop hb he ha ty
 refine ⟨_, _, hrun, ⟨es', clock, since, seen, c0, heap_setBlock_same hb _, he', (heap_setBlock_other hb _ hne).trans hr, ?_, rfl, ?_, ?_, hsc, hsk⟩, ?_, ⟨rfl, rfl, rfl, by simp [setBlock], fun i _ hi => heap_setBlock_other hb _ (fun e => hi (by rw [e]))⟩, by simp [setBlock]⟩
 ·intro x hx
  exact hold x ((hwho x).1 hx).1
 ·intro x hx a' hk
  exact hl1 x ((hwho x).1 hx).1 a' hk
 ·intro a' ha'
  by_cases e : a' = a
  ·subst e; rw [hs] at ha'; cases ha'
  ·rw [upd_other g _ e]; exact hl2 a' ha'
 ·rw [left_length, left_length]
  exact ((hsub.map _).filter _).length_le

end

section
open Go.RowKit Go.ChangeMaps Go.MapKept
open Go.WideElems (Fit rd rd_mk rd_key other_key)
open Go.Maps (Keyed)

variable {P : Program} {α β : Type}

theorem upd_self [DecidableEq α] {γ : Type} {g : α → γ} {a : α} {v : γ} (h : g a = v) : upd g a v = g := by
 funext x
 by_cases e : x = a
 ·subst e; rw [upd_same, h]
 ·rw [upd_other g _ e]

theorem upd_twice [DecidableEq α] {γ : Type} (g : α → γ) (a : α) (u v : γ) : upd (upd g a u) a v = upd g a v := by
 funext x
 by_cases e : x = a
 ·subst e; rw [upd_same, upd_same]
 ·rw [upd_other _ _ e, upd_other _ _ e, upd_other _ _ e]

theorem ents_push [DecidableEq α] {M : MK P α β} {n : Nat} {es : Array MapEntry} {clock : Nat} {g : α → Option β} (he : Ents M es clock n g) (hn : n < maxLen) {a : α} (ha : M.ok a) (v : β) (h2 : ∀ x ∈ es.toList, x.key ≠ M.kv a) :
  Ents M (es.push ⟨M.kv a, M.vv v, clock⟩) (clock + 1) (n + 1) (upd g a (some v)) := by
 obtain ⟨kl, hkey⟩ := M.key a ha
 have hsz := he.size
 refine ⟨⟨by simp; omega, stamped_push he.fit.stamped h2, ?_⟩, by simp; omega, ?_, ?_⟩
 ·intro x hx
  simp only [Array.toList_push, List.mem_append, List.mem_singleton] at hx
  rcases hx with hx | rfl
  ·exact he.fit.reads x hx
  ·exact ⟨_, rd_mk (R := rdAny) hkey rfl⟩
 ·intro x hx
  simp only [Array.toList_push, List.mem_append, List.mem_singleton] at hx
  rcases hx with hx | rfl
  ·obtain ⟨a', v', h4, h5, h6, h7⟩ := he.down x hx
   refine ⟨a', v', h4, h5, h6, ?_⟩
   rw [upd_other g _ (fun e => h2 x hx (by rw [h5, e]))]
   exact h7
  ·exact ⟨a, v, ha, rfl, rfl, upd_same g a _⟩
 ·intro a' v' h4
  by_cases e : a' = a
  ·subst e
   rw [upd_same] at h4
   cases h4
   exact ⟨⟨M.kv a', M.vv v, clock⟩, by simp, rfl, rfl⟩
  ·rw [upd_other g _ e] at h4
   obtain ⟨x, hx, h5, h6⟩ := he.up a' v' h4
   exact ⟨x, by simp only [Array.toList_push, List.mem_append]; exact .inl hx, h5, h6⟩

theorem ents_val [DecidableEq α] {M : MK P α β} {n : Nat} {es : Array MapEntry} {clock : Nat} {g : α → Option β} (he : Ents M es clock n g) {j : Nat} {e0 : MapEntry} (h2 : es.toList[j]? = some e0) {a : α} (ha : M.ok a) (h3 : e0.key = M.kv a) (v : β) :
  Ents M (es.modify j (fun e' => { e' with val := M.vv v })) clock n (upd g a (some v)) := by
 obtain ⟨kl, hkey⟩ := M.key a ha
 have hjl : j < es.toList.length := (List.getElem?_eq_some_iff.1 h2).1
 have hlist : (es.modify j (fun e' => { e' with val := M.vv v })).toList = es.toList.set j { e0 with val := M.vv v } := by rw [Array.toList_modify, modify_eq_set _ _ _ _ h2]
 have who : ∀ x ∈ es.toList.set j { e0 with val := M.vv v }, x = { e0 with val := M.vv v } ∨ (x ∈ es.toList ∧ x.key ≠ M.kv a) := by
  intro x hx
  obtain ⟨i, hi, ex⟩ := List.getElem_of_mem hx
  rw [List.getElem_set] at ex
  split at ex
  ·exact Or.inl ex.symm
  ·rename_i hne
   have hi' : i < es.toList.length := by simpa using hi
   refine Or.inr ⟨ex ▸ List.getElem_mem hi', ?_⟩
   rw [← h3]
   exact other_key he.fit h2 (by rw [List.getElem?_eq_getElem hi', ex]) (fun e1 => hne e1.symm)
 refine ⟨⟨by simpa using he.fit.size, stamped_modify he.fit.stamped _ _ (fun _ _ => rfl) (fun _ _ _ => rfl), ?_⟩, by simpa using he.size, ?_, ?_⟩
 ·intro x hx
  rw [hlist] at hx
  rcases who x hx with rfl | ⟨hx', _⟩
  ·exact ⟨_, rd_mk (R := rdAny) (key := e0.key) (by rw [h3]; exact hkey) rfl⟩
  ·exact he.fit.reads x hx'
 ·intro x hx
  rw [hlist] at hx
  rcases who x hx with rfl | ⟨hx', hne⟩
  ·exact ⟨a, v, ha, h3, rfl, upd_same g a _⟩
  ·obtain ⟨a', v', h4, h5, h6, h7⟩ := he.down x hx'
   refine ⟨a', v', h4, h5, h6, ?_⟩
   rw [upd_other g _ (fun e => hne (by rw [h5, e]))]
   exact h7
 ·intro a' v' h4
  rw [hlist]
  by_cases e : a' = a
  ·subst e
   rw [upd_same] at h4
   cases h4
   exact ⟨{ e0 with val := M.vv v }, List.mem_iff_getElem.2 ⟨j, by simpa using hjl, by simp⟩, h3, rfl⟩
  ·rw [upd_other g _ e] at h4
   obtain ⟨x, hx, h5, h6⟩ := he.up a' v' h4
   obtain ⟨i, hi, ex⟩ := List.getElem_of_mem hx
   have hij : j ≠ i := by
    intro e1
    subst e1
    rw [List.getElem?_eq_getElem hi] at h2
    cases h2
    rw [ex] at h3
    exact e (M.inj _ _ (h5.symm.trans h3))
   exact ⟨x, List.mem_iff_getElem.2 ⟨i, by simpa using hi, by rw [List.getElem_set_ne hij]; exact ex⟩, h5, h6⟩

theorem entry_store [DecidableEq α] {M : MK P α β} {w : World} {b n : Nat} {es : Array MapEntry} {clock : Nat} {g : α → Option β} (hb : w.heap[b]? = some (.map es clock)) (he : Ents M es clock n g) {x : MapEntry} (hx : x ∈ es.toList) {a : α} (ha : M.ok a) (hk : x.key = M.kv a) (v : β) :
  ∃ w2, (Instr.entryStore M.T (.map (some b)) (.int .i64 x.born) (M.vv v)).run P w = .ok () w2 ∧ MapIs M w2 b n (upd g a (some v)) ∧ w.grownBy w2 (some b) ∧ w2.heap.size = w.heap.size := by
 have hst := (stamped_iff es clock).1 he.fit.stamped
 cases hf : es.findIdx? (fun e => (e.born : Int) == (x.born : Int)) with
 | none =>
  rw [Array.findIdx?_eq_none_iff] at hf
  have := hf x (by simpa using hx)
  simp at this
 | some j =>
  obtain ⟨hj, hp, -⟩ := Array.findIdx?_eq_some_iff_getElem.1 hf
  have hj2 : es.toList[j]? = some es[j] := by simp [hj]
  have hbn : es[j].born = x.born := by
   have h9 : (es[j].born : Int) = (x.born : Int) := by simpa using hp
   omega
  have hex : es[j] = x := born_inj hst.2.1 (List.mem_of_getElem? hj2) hx hbn
  have hk2 : es[j].key = M.kv a := by rw [hex]; exact hk
  refine ⟨setBlock w b (.map (es.modify j (fun e' => { e' with val := M.vv v })) clock), ?_, ⟨_, _, heap_setBlock_same hb _, ents_val he hj2 ha hk2 v⟩, ⟨rfl, rfl, rfl, by simp [setBlock], fun i _ hi => heap_setBlock_other hb _ (fun e => hi (by rw [e]))⟩, by simp [setBlock]⟩
  simp [Instr.entryStore, MapKept.run_getObj_map hb, asInt, asIntOf, hf, MapKept.run_setObj_map _ hb, Result.andThen, setBlock]

theorem modify_same {es : Array MapEntry} {j : Nat} {e0 : MapEntry} {key : Value} (h2 : es.toList[j]? = some e0) (h3 : e0.key = key) : es.modify j (fun e' => { e' with key := key }) = es := by
 apply Array.toList_inj.1
 rw [Array.toList_modify, modify_eq_set _ _ _ _ h2]
 have hjl : j < es.toList.length := (List.getElem?_eq_some_iff.1 h2).1
 have : ({ e0 with key := key } : MapEntry) = es.toList[j] := by
  rw [List.getElem?_eq_getElem hjl] at h2
  cases h2
  subst h3
  rfl
 rw [this]
 exact List.set_getElem_self _

theorem MapIs.entry [DecidableEq α] {M : MK P α β} {w : World} {b n : Nat} {g : α → Option β} (h : MapIs M w b n g) (hn : n < maxLen) {a : α} (ha : M.ok a) :
  ∃ w1 st, (Instr.mapEntry M.T (.map (some b)) (M.kv a)).run P w = .ok (.tuple #[M.vv ((g a).getD M.z), .int .i64 st]) w1 ∧ MapIs M w1 b (n + 1) (upd g a (some ((g a).getD M.z))) ∧ w.grownBy w1 (some b) ∧ w1.heap.size = w.heap.size ∧
   ∀ v, ∃ w2, (Instr.entryStore M.T (.map (some b)) (.int .i64 st) (M.vv v)).run P w1 = .ok () w2 ∧ MapIs M w2 b (n + 1) (upd g a (some v)) ∧ w1.grownBy w2 (some b) ∧ w2.heap.size = w1.heap.size := by
 obtain ⟨es, clock, hb, he⟩ := h
 obtain ⟨kl, hkey⟩ := M.key a ha
 rcases M.law.find w hkey es.toList he.fit.keys with ⟨h1, h2⟩ | ⟨j, e0, h1, h2, h3⟩
 ·have hg : g a = none := by
   cases hga : g a with
   | none => rfl
   | some u =>
    obtain ⟨x, hx, hk, _⟩ := he.up a u hga
    exact absurd hk (h2 x hx)
  have he1 := ents_push he hn ha M.z h2
  rw [hg]
  refine ⟨setBlock w b (.map (es.push ⟨M.kv a, M.vv M.z, clock⟩) (clock + 1)), clock, ?_, ⟨_, _, heap_setBlock_same hb _, he1⟩, ⟨rfl, rfl, rfl, by simp [setBlock], fun i _ hi => heap_setBlock_other hb _ (fun e => hi (by rw [e]))⟩, by simp [setBlock], ?_⟩
  ·simp [Instr.mapEntry, run_underlying M.und, MapKept.run_getObj_map hb, M.law.check w false hkey, h1, M.zero, MapKept.run_setObj_map _ hb, Result.andThen, setBlock, goInt]
  ·intro v
   obtain ⟨w2, r1, r2, r3, r4⟩ := entry_store (heap_setBlock_same hb _) he1 (x := ⟨M.kv a, M.vv M.z, clock⟩) (by simp) ha rfl v
   rw [upd_twice] at r2
   exact ⟨w2, r1, r2, r3, r4⟩
 ·have hm0 := List.mem_of_getElem? h2
  obtain ⟨v0, hv0, hg⟩ := ents_key he hm0 h3
  have hj : es[j]? = some e0 := by simpa using h2
  rw [hg]
  simp only [Option.getD_some]
  rw [upd_self hg]
  refine ⟨setBlock w b (.map es clock), e0.born, ?_, ⟨es, clock, heap_setBlock_same hb _, ⟨he.fit, Nat.le_trans he.size (Nat.le_succ n), he.down, he.up⟩⟩, ⟨rfl, rfl, rfl, by simp [setBlock], fun i _ hi => heap_setBlock_other hb _ (fun e => hi (by rw [e]))⟩, by simp [setBlock], ?_⟩
  ·simp [Instr.mapEntry, run_underlying M.und, MapKept.run_getObj_map hb, M.law.check w false hkey, h1, hj, h3, M.law.stays w hkey, modify_same h2 h3, hv0, MapKept.run_setObj_map _ hb, Result.andThen, setBlock, goInt]
  ·intro v
   obtain ⟨w2, r1, r2, r3, r4⟩ := entry_store (heap_setBlock_same hb _) (n := n + 1) ⟨he.fit, Nat.le_trans he.size (Nat.le_succ n), he.down, he.up⟩ hm0 ha h3 v
   exact ⟨w2, r1, r2, r3, r4⟩

end

abbrev FK := Int × Int × Int

def cnt (l : List FE) (t m : Int) : Int := ((l.filter (fun e => both e t m)).length : Int)

theorem cnt_nil (t m : Int) : cnt [] t m = 0 := rfl
theorem cnt_append (a b : List FE) (t m : Int) : cnt (a ++ b) t m = cnt a t m + cnt b t m := by simp [cnt]
theorem cnt_one (x : FE) (t m : Int) : cnt [x] t m = if both x t m = true then 1 else 0 := by
 unfold cnt
 cases h : both x t m <;> simp [h]
theorem cnt_self (x : FE) : cnt [x] x.t x.m = 1 := by rw [cnt_one, if_pos (both_iff.2 ⟨rfl, rfl⟩)]
theorem cnt_pos (l : List FE) (t m : Int) : 0 ≤ cnt l t m := by unfold cnt; omega
theorem cnt_le (l : List FE) (t m : Int) : cnt l t m ≤ l.length := by
 unfold cnt
 have := List.length_filter_le (fun e => both e t m) l
 omega

def keyIn (pre : List FE) (x : FE) : FK := (x.t, x.m, cnt pre x.t x.m)

def keysGo : List FE → List FE → List FK
 | _, [] => []
 | pre, x :: r => keyIn pre x :: keysGo (pre ++ [x]) r

def entsGo (g : FK → Option FE) : List FE → List FE → FK → Option FE
 | _, [] => g
 | pre, x :: r => entsGo (upd g (keyIn pre x) (some x)) (pre ++ [x]) r

def keysOf (l : List FE) : List FK := keysGo [] l
def entsOf (l : List FE) : FK → Option FE := entsGo (fun _ => none) [] l

theorem keysGo_snoc (x : FE) : ∀ (l pre : List FE), keysGo pre (l ++ [x]) = keysGo pre l ++ [keyIn (pre ++ l) x]
 | [], pre => by simp [keysGo]
 | y :: l, pre => by
  rw [List.cons_append, keysGo, keysGo_snoc x l (pre ++ [y]), keysGo, List.cons_append, List.append_assoc]
  rfl

theorem entsGo_snoc (x : FE) : ∀ (l pre : List FE) (g : FK → Option FE), entsGo g pre (l ++ [x]) = upd (entsGo g pre l) (keyIn (pre ++ l) x) (some x)
 | [], pre, g => by simp [entsGo]
 | y :: l, pre, g => by
  rw [List.cons_append, entsGo, entsGo_snoc x l (pre ++ [y]), entsGo, List.append_assoc]
  rfl

theorem keys_snoc (l : List FE) (x : FE) : keysOf (l ++ [x]) = keysOf l ++ [keyIn l x] := by
 unfold keysOf
 rw [keysGo_snoc, List.nil_append]
theorem ents_snoc (l : List FE) (x : FE) : entsOf (l ++ [x]) = upd (entsOf l) (keyIn l x) (some x) := by
 unfold entsOf
 rw [entsGo_snoc, List.nil_append]

theorem keysGo_length : ∀ (l pre : List FE), (keysGo pre l).length = l.length
 | [], _ => rfl
 | x :: r, pre => by rw [keysGo, List.length_cons, keysGo_length r, List.length_cons]
theorem keys_length (l : List FE) : (keysOf l).length = l.length := keysGo_length l []

theorem keysGo_least : ∀ (l pre : List FE) (k : FK), k ∈ keysGo pre l → cnt pre k.1 k.2.1 ≤ k.2.2
 | [], _, _, h => by cases h
 | x :: r, pre, k, h => by
  rw [keysGo] at h
  rcases List.mem_cons.1 h with rfl | h
  ·exact Int.le_refl _
  ·have := keysGo_least r (pre ++ [x]) k h
   rw [cnt_append] at this
   have := cnt_pos [x] k.1 k.2.1
   omega

theorem keysGo_new (l pre : List FE) (x : FE) : keyIn pre x ∉ keysGo (pre ++ [x]) l := by
 intro h
 have := keysGo_least _ _ _ h
 unfold keyIn at this
 simp only at this
 rw [cnt_append, cnt_self] at this
 omega

theorem entsGo_other : ∀ (l pre : List FE) (g : FK → Option FE) (k : FK), k ∉ keysGo pre l → entsGo g pre l k = g k
 | [], _, _, _, _ => rfl
 | x :: r, pre, g, k, h => by
  rw [keysGo] at h
  have h1 : k ≠ keyIn pre x := fun e => h (by rw [e]; exact List.mem_cons_self)
  rw [entsGo, entsGo_other r (pre ++ [x]) _ k (fun hk => h (List.mem_cons_of_mem _ hk)), upd_other g _ h1]

theorem entsGo_map : ∀ (l pre : List FE) (g : FK → Option FE), (keysGo pre l).map (entsGo g pre l) = l.map some
 | [], _, _ => rfl
 | x :: r, pre, g => by
  rw [keysGo, entsGo, List.map_cons, List.map_cons, entsGo_map r (pre ++ [x])]
  rw [entsGo_other r (pre ++ [x]) _ _ (keysGo_new r pre x), upd_same]
theorem ents_map (l : List FE) : (keysOf l).map (entsOf l) = l.map some := entsGo_map l [] _

theorem ents_none (l : List FE) {k : FK} (h : k ∉ keysOf l) : entsOf l k = none := entsGo_other l [] _ k h

theorem out_bind {ks : List FK} {g : FK → Option FE} {l : List FE} (h : ks.map g = l.map some) (f : FE → Option FE) : ks.filterMap (fun k => (g k).bind f) = l.filterMap f := by
 induction ks generalizing l with
 | nil =>
  cases l with
  | nil => rfl
  | cons y r => simp at h
 | cons k r ih =>
  cases l with
  | nil => simp at h
  | cons y r' =>
   simp only [List.map_cons, List.cons.injEq] at h
   rw [List.filterMap_cons, List.filterMap_cons, h.1, ih h.2]
   rfl

def FKok (k : FK) : Prop := (-9223372036854775808 ≤ k.1 ∧ k.1 ≤ 9223372036854775807) ∧ (-9223372036854775808 ≤ k.2.1 ∧ k.2.1 ≤ 9223372036854775807) ∧ (-9223372036854775808 ≤ k.2.2 ∧ k.2.2 ≤ 9223372036854775807)

theorem key_ok {pre : List FE} {x : FE} (hx : x.Rng) (hp : pre.length ≤ 16777216) : FKok (keyIn pre x) := by
 have h1 := cnt_pos pre x.t x.m
 have h2 := cnt_le pre x.t x.m
 exact ⟨hx.1, hx.2.1, by unfold keyIn; simp only; omega⟩

theorem keysGo_ok : ∀ (l pre : List FE), (∀ x ∈ l, x.Rng) → pre.length + l.length ≤ 16777216 → ∀ k ∈ keysGo pre l, FKok k
 | [], _, _, _, _, h => by cases h
 | x :: r, pre, hR, hl, k, h => by
  rw [keysGo] at h
  simp only [List.length_cons] at hl
  rcases List.mem_cons.1 h with rfl | h
  ·exact key_ok (hR x (by simp)) (by omega)
  ·exact keysGo_ok r (pre ++ [x]) (fun y hy => hR y (List.mem_cons_of_mem _ hy)) (by simp; omega) k h
theorem keys_ok {l : List FE} (hR : ∀ x ∈ l, x.Rng) (hl : l.length ≤ 16777216) : ∀ k ∈ keysOf l, FKok k := keysGo_ok l [] hR (by simpa using hl)

def cntF (l : List FE) : FK → Option Int := fun k => if k.2.2 = 0 ∧ 0 < cnt l k.1 k.2.1 then some (cnt l k.1 k.2.1) else none

theorem cntF_nil : cntF [] = fun _ => none := by
 funext k
 unfold cntF
 rw [if_neg]
 rw [cnt_nil]
 omega

theorem cntF_get (l : List FE) (t m : Int) : (cntF l (t, m, 0)).getD 0 = cnt l t m := by
 unfold cntF
 have := cnt_pos l t m
 simp only
 split
 ·rfl
 ·rename_i h
  simp only [true_and] at h
  show (0 : Int) = _
  omega

theorem cntF_snoc (l : List FE) (x : FE) : cntF (l ++ [x]) = upd (cntF l) (x.t, x.m, 0) (some (cnt l x.t x.m + 1)) := by
 funext k
 obtain ⟨t, m, c⟩ := k
 by_cases e : ((t, m, c) : FK) = (x.t, x.m, 0)
 ·cases e
  rw [upd_same]
  unfold cntF
  simp only
  have := cnt_pos l x.t x.m
  rw [cnt_append, cnt_self, if_pos ⟨trivial, by omega⟩]
 ·rw [upd_other _ _ e]
  unfold cntF
  simp only
  rw [cnt_append, cnt_one]
  by_cases hc : c = 0
  ·have hb : both x t m = false := by
    rw [both_not]
    rintro ⟨rfl, rfl⟩
    exact e (by rw [hc])
   rw [hb]
   simp
  ·simp [hc]

theorem keys_at {l : List FE} {i : Nat} {k : FK} (hk : (keysOf l)[i]? = some k) : ∃ e, l[i]? = some e ∧ entsOf l k = some e := by
 have hm := ents_map l
 have h1 : ((keysOf l).map (entsOf l))[i]? = some (entsOf l k) := by rw [List.getElem?_map, hk]; rfl
 rw [hm, List.getElem?_map] at h1
 cases he : l[i]? with
 | none => rw [he] at h1; cases h1
 | some e =>
  rw [he] at h1
  simp at h1
  exact ⟨e, rfl, h1.symm⟩

theorem run_copy_flat {P : Program} (w : World) (dT sT ty elem : TypeId) (g o dLen dCap : Nat) (a : Addr) (sLen sCap : Nat) (cur : Array Value) (t : TypeId) (cs : List Value) (K : Nat)
  (hu : P.underlying dT = some (.slice elem)) (hs : (P.info? elem).map (·.size) = some K)
  (hg : w.heap[g]? = some (.cells cur t (0, 0))) (hn : cs.length = Nat.min sLen dLen * K)
  (hsrc : ∀ j v, cs[j]? = some v → w.cell? (a.add j) = some v) (hfit : o + cs.length ≤ cur.size) (h1 : ∀ v ∈ cs, v.oneCell' = true) :
  (Builtin.copy_ #[dT, sT] ty #[.slice (some ⟨g, o, none⟩) dLen dCap, .slice (some a) sLen sCap]).run P w =
   .ok (goInt (Nat.min sLen dLen)) (w.setRow g (cur.toList.take o ++ cs ++ cur.toList.drop (o + cs.length)).toArray) := by
 have hl := run_loadCells_list (P := P) w a cs hsrc
 have hst := run_storeCells_at P g o t cs 0 cur w hg (by simpa using hfit) h1
 cases hq : P.info? elem with
 | none => simp [hq] at hs
 | some i =>
  have hi : i.size = K := by simpa [hq] using hs
  simp [Builtin.copy_, run_underlying hu, Builtin.lenOf, Builtin.firstCells, sizeOf, typeInfo, hq, hi, ← hn, hl, hst]

theorem wp_copy_eq {P : Program} (w : World) {o : Oper} {a : Act} {K : Act → World → Prop} {Q : Exit → Act → World → Prop} (d s : Operand) (t t' : TypeId)
  (ho : o.op = .call { callee := .builtin .copy, args := #[d, s], argTypes := #[t, t'] }) (v u : Value) (hd : a.eval d = v) (hs : a.eval s = u) {v' : Value} {w' : World}
  (hr : (Builtin.copy_ #[t, t'] o.type #[v, u]).run P w = .ok v' w') (h : K (a.put o.dst v') w') : o.wp P a w K Q := by
 unfold Oper.wp execOp
 simp only [ho, resolve, invoke, builtin, Sem.run_bind, Sem.run_pure, Result.andThen_ok, List.map_toArray, List.map_cons, List.map_nil, hd, hs, hr]
 exact h

theorem wpList_copy_eq {P : Program} (w : World) {ops : Array Oper} {rest : List Oper} {o : Oper} {a : Act} {Q : Exit → Act → World → Prop} (hgd : o.guard = none) (d s : Operand) (t t' : TypeId)
  (ho : o.op = .call { callee := .builtin .copy, args := #[d, s], argTypes := #[t, t'] }) (v u : Value) (hd : a.eval d = v) (hs : a.eval s = u) {v' : Value} {w' : World}
  (hr : (Builtin.copy_ #[t, t'] o.type #[v, u]).run P w = .ok v' w') (h : wpList P ops Q rest (a.put o.dst v') w') : wpList P ops Q (o :: rest) a w :=
 wpList_plain hgd fun _ hK => wp_copy_eq w d s t t' ho v u hd hs hr (hK _ _ h)

theorem step_copy_eq {P : Program} {ops : Array Oper} {o : Oper} {a : Act} {w : World} {K : Act → World → Prop} {Q : Exit → Act → World → Prop} {E : Prop}
  (hg : o.guard = none) (d x : Operand) (dT sT : TypeId) (hop : o.op = Op.call { callee := Callee.builtin Builtin.copy, args := #[d, x], argTypes := #[dT, sT] })
  (v u : Value) (hd : a.eval d = v) (hx : a.eval x = u) {v' : Value} {w' : World} (hr : (Builtin.copy_ #[dT, sT] o.type #[v, u]).run P w = .ok v' w') (hK : K (a.put o.dst v') w') :
  if Region.wanted o (yielded ops a.tmps) = true then Oper.wp P o a w K Q else E := by
 have hw : Region.wanted o (yielded ops a.tmps) = true := by simp [Region.wanted, hg]
 rw [if_pos hw]
 unfold Oper.wp
 simp [execOp, hop, resolve, invoke, builtin, hd, hx, hr, Result.andThen]
 exact hK

section
open Go.RowKit

variable {α : Type}

def repTo (x z : α) (p k : Nat) : List α := List.replicate k x ++ List.replicate (p - k) z

theorem rep_copy (F : Flat α) {P : Program} {tS T : TypeId} (hu : P.underlying tS = some (.slice T)) (hsz : (P.info? T).map (·.size) = some F.k) {x z : α} {w : World} {base g p k m : Nat} (h : w.ownsRow base T F.k (.slice (some ⟨g, 0, none⟩) p p) p (F.all (repTo x z p k))) (hk : k + m ≤ p) {a : Addr} {dl sl : Nat} (hmin : Nat.min sl dl = m) (hsrc : ∀ j v, (F.all (List.replicate m x))[j]? = some v → w.cell? (a.add j) = some v) :
  ∃ w', (∀ ty dc sc, (Builtin.copy_ #[tS, tS] ty #[.slice (some ⟨g, k * F.k, none⟩) dl dc, .slice (some a) sl sc]).run P w = .ok (goInt m) w') ∧ w'.ownsRow base T F.k (.slice (some ⟨g, 0, none⟩) p p) p (F.all (repTo x z p (k + m))) ∧ w.grownBy w' (some g) := by
 obtain ⟨hlen, ⟨hv, h0⟩ | ⟨g', cap', cur, hv, hg, hh, h1, h2, h3, h4⟩⟩ := h
 ·cases hv
 ·cases hv
  have hcl : (F.all (List.replicate m x)).length = m * F.k := by rw [F.all_length, List.length_replicate]
  have hcl0 : (F.all (List.replicate k x)).length = k * F.k := by rw [F.all_length, List.length_replicate]
  have hle : k * F.k + m * F.k ≤ p * F.k := by rw [← Nat.add_mul]; exact Nat.mul_le_mul_right _ hk
  have hfit : k * F.k + (F.all (List.replicate m x)).length ≤ cur.size := by rw [hcl, h3]; exact hle
  have hcur : cur.toList = F.all (List.replicate k x) ++ (F.all (List.replicate m z) ++ F.all (List.replicate (p - (k + m)) z)) := by
   have e : cur.toList = F.all (repTo x z p k) := by rw [← h4, List.take_of_length_le (by simp [h3])]
   rw [e]
   unfold repTo
   rw [F.all_append, ← F.all_append (List.replicate m z), List.replicate_append_replicate, show m + (p - (k + m)) = p - k by omega]
  have hclz : (F.all (List.replicate m z)).length = m * F.k := by rw [F.all_length, List.length_replicate]
  have hnew : cur.toList.take (k * F.k) ++ F.all (List.replicate m x) ++ cur.toList.drop (k * F.k + (F.all (List.replicate m x)).length) = F.all (repTo x z p (k + m)) := by
   rw [hcl, hcur, List.take_append_of_le_length (by omega), List.take_of_length_le (by omega)]
   rw [← List.append_assoc, List.drop_append, List.drop_eq_nil_of_le (by rw [List.length_append, hcl0, hclz]; omega), List.nil_append, List.length_append, hcl0, hclz, Nat.sub_self, List.drop_zero]
   unfold repTo
   rw [← List.replicate_append_replicate, F.all_append, F.all_append]
  refine ⟨w.setRow g (cur.toList.take (k * F.k) ++ F.all (List.replicate m x) ++ cur.toList.drop (k * F.k + (F.all (List.replicate m x)).length)).toArray, fun ty dc sc => ?_, ⟨?_, .inr ⟨g, p, _, rfl, hg, setRow_heap w g cur _ T _ hh, Nat.le_refl _, h2, ?_, ?_⟩⟩, ?_⟩
  ·have := run_copy_flat (P := P) w tS tS ty T g (k * F.k) dl dc a sl sc cur T (F.all (List.replicate m x)) F.k hu hsz hh (by rw [hcl, hmin]) hsrc hfit (F.all_oneCell _)
   rw [hmin] at this
   exact this
  ·rw [F.all_length]
   unfold repTo
   simp
   rw [show k + m + (p - (k + m)) = p by omega]
  ·rw [hnew]
   simp only [List.size_toArray]
   rw [F.all_length]
   unfold repTo
   simp
   rw [show k + m + (p - (k + m)) = p by omega]
  ·rw [hnew]
   simp only
   rw [List.take_of_length_le]
   rw [F.all_length]
   unfold repTo
   simp
   exact Nat.mul_le_mul_right _ (by omega)
  ·refine ⟨rfl, rfl, rfl, ?_, ?_⟩
   ·simp [World.setRow]
   ·intro i hi hkg
    rw [setRow_other _ _ _ _ (fun e => hkg (by rw [e]))]

end

def sameVd (x y : VD) : Bool := (x.r == y.r) && ((x.c == y.c) && ((x.h == y.h) && ((x.b == y.b) && (x.p == y.p))))
def samePt (x y : PT) : Bool := (x.up == y.up) && ((x.k == y.k) && ((x.has == y.has) && sameVd x.v y.v))
def sameFe (x y : FE) : Bool := (x.t == y.t) && ((x.m == y.m) && ((x.p == y.p) && ((x.a == y.a) && (x.s == y.s))))
def sameVr (x y : VR) : Bool := (x.i == y.i) && ((x.m == y.m) && (x.b == y.b))

theorem samePt_iff (x y : PT) : samePt x y = true ↔ x = y := by
 obtain ⟨u, k, h, ⟨r, c, hh, b, p⟩⟩ := x
 obtain ⟨u', k', h', ⟨r', c', hh', b', p'⟩⟩ := y
 simp [samePt, sameVd]

theorem sameFe_iff (x y : FE) : sameFe x y = true ↔ x = y := by
 obtain ⟨t, m, p, a, s⟩ := x
 obtain ⟨t', m', p', a', s'⟩ := y
 simp [sameFe]

theorem sameVr_iff (x y : VR) : sameVr x y = true ↔ x = y := by
 obtain ⟨i, m, b⟩ := x
 obtain ⟨i', m', b'⟩ := y
 simp [sameVr]

theorem fent_neq2 (x y : FE) (w : World) : (binOp .neq 49 (.agg #[.int .i64 x.t, .int .i64 x.m, .int .i64 x.p, .int .i64 x.a, .bool x.s]) (.agg #[.int .i64 y.t, .int .i64 y.m, .int .i64 y.p, .int .i64 y.a, .bool y.s])).run Tryz.prog w = .ok (.bool (!sameFe x y)) w := by
 have u3 := Tryz.underlying3
 have a3 := Tryz.isAgg3
 have z3 := Tryz.sizeOf3
 have u4 := Tryz.underlying4
 have a4 := Tryz.isAgg4
 have z4 := Tryz.sizeOf4
 have hS : Tryz.prog.underlying 49 = some (.struct (Tryz.prog.fieldsOf 49)) := by kernel_rfl
 have hp : Tryz.prog.stoodInHeld 49 = false := by kernel_rfl
 rw [run_neq_struct, show (10000 : Nat) = 9999 + 1 from rfl, run_equalIn_agg w 9999 49 _ _ hS hp]
 simp only [Program.fieldsOf, Tryz.underlying49]
 unfold sameFe
 go_simp
 by_cases h1 : x.t = y.t <;> by_cases h2 : x.m = y.m <;> by_cases h3 : x.p = y.p <;> by_cases h4 : x.a = y.a <;> by_cases h5 : x.s = y.s <;> simp [h1, h2, h3, h4, h5]

theorem vrow_neq2 (x y : VR) (w : World) : (binOp .neq 81 (.agg #[.int .i64 x.i, .int .i64 x.m, .int .i64 x.b]) (.agg #[.int .i64 y.i, .int .i64 y.m, .int .i64 y.b])).run Tryz.prog w = .ok (.bool (!sameVr x y)) w := by
 have u3 := Tryz.underlying3
 have a3 := Tryz.isAgg3
 have z3 := Tryz.sizeOf3
 have hS : Tryz.prog.underlying 81 = some (.struct (Tryz.prog.fieldsOf 81)) := by kernel_rfl
 have hp : Tryz.prog.stoodInHeld 81 = false := by kernel_rfl
 rw [run_neq_struct, show (10000 : Nat) = 9999 + 1 from rfl, run_equalIn_agg w 9999 81 _ _ hS hp]
 simp only [Program.fieldsOf, Tryz.underlying81]
 unfold sameVr
 go_simp
 by_cases h1 : x.i = y.i <;> by_cases h2 : x.m = y.m <;> by_cases h3 : x.b = y.b <;> simp [h1, h2, h3]

theorem pt_neq2 (x y : PT) (w : World) : (binOp .neq 44 (.agg #[.bool x.up, .int .i64 x.k, .bool x.has, .int .i64 x.v.r, .int .i64 x.v.c, .int .i64 x.v.h, .int .i64 x.v.b, .int .i64 x.v.p]) (.agg #[.bool y.up, .int .i64 y.k, .bool y.has, .int .i64 y.v.r, .int .i64 y.v.c, .int .i64 y.v.h, .int .i64 y.v.b, .int .i64 y.v.p])).run Tryz.prog w = .ok (.bool (!samePt x y)) w := by
 have u3 := Tryz.underlying3
 have a3 := Tryz.isAgg3
 have z3 := Tryz.sizeOf3
 have u4 := Tryz.underlying4
 have a4 := Tryz.isAgg4
 have z4 := Tryz.sizeOf4
 have u5 := Tryz.underlying35
 have a5 := Tryz.isAgg35
 have z5 := Tryz.sizeOf35
 have hS : Tryz.prog.underlying 44 = some (.struct (Tryz.prog.fieldsOf 44)) := by kernel_rfl
 have hp : Tryz.prog.stoodInHeld 44 = false := by kernel_rfl
 have hS5 : Tryz.prog.underlying 35 = some (.struct (Tryz.prog.fieldsOf 35)) := by kernel_rfl
 have hp5 : Tryz.prog.stoodInHeld 35 = false := by kernel_rfl
 have hE : ∀ W, (Op.equalIn 9999 35 (.agg #[.int .i64 x.v.r, .int .i64 x.v.c, .int .i64 x.v.h, .int .i64 x.v.b, .int .i64 x.v.p]) (.agg #[.int .i64 y.v.r, .int .i64 y.v.c, .int .i64 y.v.h, .int .i64 y.v.b, .int .i64 y.v.p])).run Tryz.prog W = .ok (sameVd x.v y.v) W := by
  intro W
  rw [show (9999 : Nat) = 9998 + 1 from rfl, run_equalIn_agg W 9998 35 _ _ hS5 hp5]
  simp only [Program.fieldsOf, Tryz.underlying35]
  unfold sameVd
  clear hS hp hS5 hp5 u4 a4 z4 u5 a5 z5
  go_simp
  by_cases h1 : x.v.r = y.v.r <;> by_cases h2 : x.v.c = y.v.c <;> by_cases h3 : x.v.h = y.v.h <;> by_cases h4 : x.v.b = y.v.b <;> by_cases h5 : x.v.p = y.v.p <;> simp [h1, h2, h3, h4, h5]
 rw [run_neq_struct, show (10000 : Nat) = 9999 + 1 from rfl, run_equalIn_agg w 9999 44 _ _ hS hp]
 simp only [Program.fieldsOf, Tryz.underlying44]
 unfold samePt
 generalize hV : sameVd x.v y.v = V at *
 clear hS hp hS5 hp5 hV
 go_simp
 by_cases h1 : x.up = y.up <;> by_cases h2 : x.k = y.k <;> by_cases h3 : x.has = y.has <;> cases V <;> simp [h1, h2, h3]

set_option maxRecDepth 100000 in
theorem five_eql (a b c d e a' b' c' d' e' : Int) (w : World) : (binOp .eql 83 (.agg #[.int .i64 a, .int .i64 b, .int .i64 c, .int .i64 d, .int .i64 e]) (.agg #[.int .i64 a', .int .i64 b', .int .i64 c', .int .i64 d', .int .i64 e'])).run Tryz.prog w = .ok (.bool ((a == a') && ((b == b') && ((c == c') && ((d == d') && (e == e')))))) w := by
 have u3 := Tryz.underlying3
 have a3 := Tryz.isAgg3
 have z3 := Tryz.sizeOf3
 obtain ⟨i0, hi, -, -, -⟩ := finfo_parts (k := 1) Tryz.infoI64
 have hc : Tryz.prog.cellsOf 3 = 1 := by kernel_rfl
 rw [run_eql_struct, show (10000 : Nat) = 9999 + 1 from rfl, run_equalIn_array w 9999 _ _ Tryz.underlying83 hi, hc]
 simp only [show List.range 5 = [0, 1, 2, 3, 4] from rfl, Op.eqItems]
 go_simp
 by_cases h1 : a = a' <;> by_cases h2 : b = b' <;> by_cases h3 : c = c' <;> by_cases h4 : d = d' <;> by_cases h5 : e = e' <;> simp [h1, h2, h3, h4, h5]

end Go.Proofs.YtfknffdlmcckkaaGreat
