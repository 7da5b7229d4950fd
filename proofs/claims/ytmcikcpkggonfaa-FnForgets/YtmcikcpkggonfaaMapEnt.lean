/-
  An entry of a map that is made where there is none, and stored into by its stamp (as 'm[k]++' goes); the laws on maps at the operations, for the walk.
-/
import Derived.Test.YtmcikcpkggonfaaMapIs
namespace Go.Proofs.Ytmcikcpkggonfaa
open Go.RowKit Go.ChangeMaps Go.MapKept
open Go.WideElems (Fit rd rd_mk rd_key other_key)
open Go.Maps (Keyed)

variable {P : Program} {α β : Type}

theorem upd_self [DecidableEq α] {γ : Type} {g : α → γ} {a : α} {v : γ} (h : g a = v) : upd g a v = g := by
  funext x
  by_cases e : x = a
  · subst e; rw [upd_same, h]
  · rw [upd_other g _ e]

theorem upd_twice [DecidableEq α] {γ : Type} (g : α → γ) (a : α) (u v : γ) : upd (upd g a u) a v = upd g a v := by
  funext x
  by_cases e : x = a
  · subst e; rw [upd_same, upd_same]
  · rw [upd_other _ _ e, upd_other _ _ e, upd_other _ _ e]

/-- A new entry at a key that is not there. -/
theorem ents_push [DecidableEq α] {M : MK P α β} {n : Nat} {es : Array MapEntry} {clock : Nat} {g : α → Option β} (he : Ents M es clock n g) (hn : n < maxLen) {a : α} (ha : M.ok a) (v : β) (h2 : ∀ x ∈ es.toList, x.key ≠ M.kv a) :
    Ents M (es.push ⟨M.kv a, M.vv v, clock⟩) (clock + 1) (n + 1) (upd g a (some v)) := by
  obtain ⟨kl, hkey⟩ := M.key a ha
  have hsz := he.size
  refine ⟨⟨by simp; omega, stamped_push he.fit.stamped h2, ?_⟩, by simp; omega, ?_, ?_⟩
  · intro x hx
    simp only [Array.toList_push, List.mem_append, List.mem_singleton] at hx
    rcases hx with hx | rfl
    · exact he.fit.reads x hx
    · exact ⟨_, rd_mk (R := rdAny) hkey rfl⟩
  · intro x hx
    simp only [Array.toList_push, List.mem_append, List.mem_singleton] at hx
    rcases hx with hx | rfl
    · obtain ⟨a', v', h4, h5, h6, h7⟩ := he.down x hx
      refine ⟨a', v', h4, h5, h6, ?_⟩
      rw [upd_other g _ (fun e => h2 x hx (by rw [h5, e]))]
      exact h7
    · exact ⟨a, v, ha, rfl, rfl, upd_same g a _⟩
  · intro a' v' h4
    by_cases e : a' = a
    · subst e
      rw [upd_same] at h4
      cases h4
      exact ⟨⟨M.kv a', M.vv v, clock⟩, by simp, rfl, rfl⟩
    · rw [upd_other g _ e] at h4
      obtain ⟨x, hx, h5, h6⟩ := he.up a' v' h4
      exact ⟨x, by simp only [Array.toList_push, List.mem_append]; exact .inl hx, h5, h6⟩

/-- The element of an entry that is there is another one. -/
theorem ents_val [DecidableEq α] {M : MK P α β} {n : Nat} {es : Array MapEntry} {clock : Nat} {g : α → Option β} (he : Ents M es clock n g) {j : Nat} {e0 : MapEntry} (h2 : es.toList[j]? = some e0) {a : α} (ha : M.ok a) (h3 : e0.key = M.kv a) (v : β) :
    Ents M (es.modify j (fun e' => { e' with val := M.vv v })) clock n (upd g a (some v)) := by
  obtain ⟨kl, hkey⟩ := M.key a ha
  have hjl : j < es.toList.length := (List.getElem?_eq_some_iff.1 h2).1
  have hlist : (es.modify j (fun e' => { e' with val := M.vv v })).toList = es.toList.set j { e0 with val := M.vv v } := by rw [Array.toList_modify, modify_eq_set _ _ _ _ h2]
  have who : ∀ x ∈ es.toList.set j { e0 with val := M.vv v }, x = { e0 with val := M.vv v } ∨ (x ∈ es.toList ∧ x.key ≠ M.kv a) := by
    intro x hx
    obtain ⟨i, hi, ex⟩ := List.getElem_of_mem hx
    rw [List.getElem_set] at ex
    split at ex
    · exact Or.inl ex.symm
    · rename_i hne
      have hi' : i < es.toList.length := by simpa using hi
      refine Or.inr ⟨ex ▸ List.getElem_mem hi', ?_⟩
      rw [← h3]
      exact other_key he.fit h2 (by rw [List.getElem?_eq_getElem hi', ex]) (fun e1 => hne e1.symm)
  refine ⟨⟨by simpa using he.fit.size, stamped_modify he.fit.stamped _ _ (fun _ _ => rfl) (fun _ _ _ => rfl), ?_⟩, by simpa using he.size, ?_, ?_⟩
  · intro x hx
    rw [hlist] at hx
    rcases who x hx with rfl | ⟨hx', _⟩
    · exact ⟨_, rd_mk (R := rdAny) (key := e0.key) (by rw [h3]; exact hkey) rfl⟩
    · exact he.fit.reads x hx'
  · intro x hx
    rw [hlist] at hx
    rcases who x hx with rfl | ⟨hx', hne⟩
    · exact ⟨a, v, ha, h3, rfl, upd_same g a _⟩
    · obtain ⟨a', v', h4, h5, h6, h7⟩ := he.down x hx'
      refine ⟨a', v', h4, h5, h6, ?_⟩
      rw [upd_other g _ (fun e => hne (by rw [h5, e]))]
      exact h7
  · intro a' v' h4
    rw [hlist]
    by_cases e : a' = a
    · subst e
      rw [upd_same] at h4
      cases h4
      exact ⟨{ e0 with val := M.vv v }, List.mem_iff_getElem.2 ⟨j, by simpa using hjl, by simp⟩, h3, rfl⟩
    · rw [upd_other g _ e] at h4
      obtain ⟨x, hx, h5, h6⟩ := he.up a' v' h4
      obtain ⟨i, hi, ex⟩ := List.getElem_of_mem hx
      have hij : j ≠ i := by
        intro e1
        subst e1
        rw [List.getElem?_eq_getElem hi] at h2
        cases h2
        rw [ex] at h3
        exact e (M.inj _ _ (h5.symm.trans h3))
      exact ⟨x, List.mem_iff_getElem.2 ⟨i, by simpa using hi, by rw [List.getElem_set_ne hij]; exact ex⟩, h5, h6⟩

/-- A store by the stamp of an entry. -/
theorem entry_store [DecidableEq α] {M : MK P α β} {w : World} {b n : Nat} {es : Array MapEntry} {clock : Nat} {g : α → Option β} (hb : w.heap[b]? = some (.map es clock)) (he : Ents M es clock n g) {x : MapEntry} (hx : x ∈ es.toList) {a : α} (ha : M.ok a) (hk : x.key = M.kv a) (v : β) :
    ∃ w2, (Instr.entryStore M.T (.map (some b)) (.int .i64 x.born) (M.vv v)).run P w = .ok () w2 ∧ MapIs M w2 b n (upd g a (some v)) ∧ w.grownBy w2 (some b) ∧ w2.heap.size = w.heap.size := by
  have hst := (stamped_iff es clock).1 he.fit.stamped
  cases hf : es.findIdx? (fun e => (e.born : Int) == (x.born : Int)) with
  | none =>
    rw [Array.findIdx?_eq_none_iff] at hf
    have := hf x (by simpa using hx)
    simp at this
  | some j =>
    obtain ⟨hj, hp, -⟩ := Array.findIdx?_eq_some_iff_getElem.1 hf
    have hj2 : es.toList[j]? = some es[j] := by simp [hj]
    have hbn : es[j].born = x.born := by
      have h9 : (es[j].born : Int) = (x.born : Int) := by simpa using hp
      omega
    have hex : es[j] = x := born_inj hst.2.1 (List.mem_of_getElem? hj2) hx hbn
    have hk2 : es[j].key = M.kv a := by rw [hex]; exact hk
    refine ⟨setBlock w b (.map (es.modify j (fun e' => { e' with val := M.vv v })) clock), ?_, ⟨_, _, heap_setBlock_same hb _, ents_val he hj2 ha hk2 v⟩, ⟨rfl, rfl, rfl, by simp [setBlock], fun i _ hi => heap_setBlock_other hb _ (fun e => hi (by rw [e]))⟩, by simp [setBlock]⟩
    simp [Instr.entryStore, MapKept.run_getObj_map hb, asInt, asIntOf, hf, MapKept.run_setObj_map _ hb, Result.andThen, setBlock]

theorem modify_same {es : Array MapEntry} {j : Nat} {e0 : MapEntry} {key : Value} (h2 : es.toList[j]? = some e0) (h3 : e0.key = key) : es.modify j (fun e' => { e' with key := key }) = es := by
  apply Array.toList_inj.1
  rw [Array.toList_modify, modify_eq_set _ _ _ _ h2]
  have hjl : j < es.toList.length := (List.getElem?_eq_some_iff.1 h2).1
  have : ({ e0 with key := key } : MapEntry) = es.toList[j] := by
    rw [List.getElem?_eq_getElem hjl] at h2
    cases h2
    subst h3
    rfl
  rw [this]
  exact List.set_getElem_self _

/-- The entry of a key, made where there is none. -/
theorem MapIs.entry [DecidableEq α] {M : MK P α β} {w : World} {b n : Nat} {g : α → Option β} (h : MapIs M w b n g) (hn : n < maxLen) {a : α} (ha : M.ok a) :
    ∃ w1 st, (Instr.mapEntry M.T (.map (some b)) (M.kv a)).run P w = .ok (.tuple #[M.vv ((g a).getD M.z), .int .i64 st]) w1 ∧ MapIs M w1 b (n + 1) (upd g a (some ((g a).getD M.z))) ∧ w.grownBy w1 (some b) ∧ w1.heap.size = w.heap.size ∧
      ∀ v, ∃ w2, (Instr.entryStore M.T (.map (some b)) (.int .i64 st) (M.vv v)).run P w1 = .ok () w2 ∧ MapIs M w2 b (n + 1) (upd g a (some v)) ∧ w1.grownBy w2 (some b) ∧ w2.heap.size = w1.heap.size := by
  obtain ⟨es, clock, hb, he⟩ := h
  obtain ⟨kl, hkey⟩ := M.key a ha
  rcases M.law.find w hkey es.toList he.fit.keys with ⟨h1, h2⟩ | ⟨j, e0, h1, h2, h3⟩
  · have hg : g a = none := by
      cases hga : g a with
      | none => rfl
      | some u =>
        obtain ⟨x, hx, hk, _⟩ := he.up a u hga
        exact absurd hk (h2 x hx)
    have he1 := ents_push he hn ha M.z h2
    rw [hg]
    refine ⟨setBlock w b (.map (es.push ⟨M.kv a, M.vv M.z, clock⟩) (clock + 1)), clock, ?_, ⟨_, _, heap_setBlock_same hb _, he1⟩, ⟨rfl, rfl, rfl, by simp [setBlock], fun i _ hi => heap_setBlock_other hb _ (fun e => hi (by rw [e]))⟩, by simp [setBlock], ?_⟩
    · simp [Instr.mapEntry, run_underlying M.und, MapKept.run_getObj_map hb, M.law.check w false hkey, h1, M.zero, MapKept.run_setObj_map _ hb, Result.andThen, setBlock, goInt]
    · intro v
      obtain ⟨w2, r1, r2, r3, r4⟩ := entry_store (heap_setBlock_same hb _) he1 (x := ⟨M.kv a, M.vv M.z, clock⟩) (by simp) ha rfl v
      rw [upd_twice] at r2
      exact ⟨w2, r1, r2, r3, r4⟩
  · have hm0 := List.mem_of_getElem? h2
    obtain ⟨v0, hv0, hg⟩ := ents_key he hm0 h3
    have hj : es[j]? = some e0 := by simpa using h2
    rw [hg]
    simp only [Option.getD_some]
    rw [upd_self hg]
    refine ⟨setBlock w b (.map es clock), e0.born, ?_, ⟨es, clock, heap_setBlock_same hb _, ⟨he.fit, Nat.le_trans he.size (Nat.le_succ n), he.down, he.up⟩⟩, ⟨rfl, rfl, rfl, by simp [setBlock], fun i _ hi => heap_setBlock_other hb _ (fun e => hi (by rw [e]))⟩, by simp [setBlock], ?_⟩
    · simp [Instr.mapEntry, run_underlying M.und, MapKept.run_getObj_map hb, M.law.check w false hkey, h1, hj, h3, M.law.stays w hkey, modify_same h2 h3, hv0, MapKept.run_setObj_map _ hb, Result.andThen, setBlock, goInt]
    · intro v
      obtain ⟨w2, r1, r2, r3, r4⟩ := entry_store (heap_setBlock_same hb _) (n := n + 1) ⟨he.fit, Nat.le_trans he.size (Nat.le_succ n), he.down, he.up⟩ hm0 ha h3 v
      exact ⟨w2, r1, r2, r3, r4⟩

end Go.Proofs.Ytmcikcpkggonfaa
