/-
  Slices of flat records (structs without memory of their own): what can be read of them, what a call owns, how both stay, what append makes; an argument as it is opened.
-/
import Derived.Test.YtmlcjdfnoipihaaMem
import Derived.Lib.SmallJoins
namespace Go.Proofs.Ytmlcjdfnoipihaa
open Go.RowKit

/-- How a flat record lies in memory: its cells. -/
structure Flat (α : Type) where
  k : Nat
  cs : α → List Value
  len : ∀ x, (cs x).length = k
  pos : 0 < k
  one : ∀ x, ∀ v ∈ cs x, v.oneCell' = true

variable {α : Type}

def Flat.all (F : Flat α) (l : List α) : List Value := l.flatMap F.cs

theorem Flat.all_cons (F : Flat α) (x : α) (l : List α) : F.all (x :: l) = F.cs x ++ F.all l := by simp [Flat.all]
theorem Flat.all_append (F : Flat α) (a b : List α) : F.all (a ++ b) = F.all a ++ F.all b := by simp [Flat.all]
theorem Flat.all_one (F : Flat α) (x : α) : F.all [x] = F.cs x := by simp [Flat.all]
theorem Flat.all_length (F : Flat α) (l : List α) : (F.all l).length = l.length * F.k := by
  induction l with
  | nil => simp [Flat.all]
  | cons x l ih => rw [F.all_cons, List.length_append, ih, F.len, List.length_cons, Nat.add_mul]; omega
theorem Flat.all_oneCell (F : Flat α) (l : List α) : ∀ u ∈ F.all l, u.oneCell' = true := by
  intro u hu
  obtain ⟨x, _, hx⟩ := List.mem_flatMap.1 hu
  exact F.one x u hx

theorem Flat.all_at (F : Flat α) : ∀ (l : List α) (i : Nat) (x : α), l[i]? = some x → ∀ (j : Nat) (v : Value), (F.cs x)[j]? = some v → (F.all l)[i * F.k + j]? = some v
  | [], i, x, h, _, _, _ => by simp at h
  | y :: l, 0, x, h, j, v, hv => by
    simp at h
    subst h
    have hj := (List.getElem?_eq_some_iff.1 hv).1
    rw [F.all_cons, Nat.zero_mul, Nat.zero_add, List.getElem?_append_left hj]
    exact hv
  | y :: l, i + 1, x, h, j, v, hv => by
    have h' : l[i]? = some x := by simpa using h
    rw [F.all_cons, List.getElem?_append_right (by rw [F.len, Nat.add_mul]; omega), F.len]
    rw [show (i + 1) * F.k + j - F.k = i * F.k + j by rw [Nat.add_mul]; omega]
    exact Flat.all_at F l i x h' j v hv

/-- A slice of flat records that can be read. -/
structure GRow (F : Flat α) (w : World) (ao : Option Addr) (len cap : Nat) (l : List α) : Prop where
  size : l.length = len
  le : len ≤ cap
  top : cap ≤ maxLen
  nil : ao = none → cap = 0
  cell : len = 0 ∨ ∃ b off, ao = some ⟨b, off, none⟩ ∧ ∀ (i : Nat) (x : α), l[i]? = some x → ∀ (j : Nat) (v : Value), (F.cs x)[j]? = some v → w.cell? ⟨b, off + i * F.k + j, none⟩ = some v

theorem grow_nil (F : Flat α) (w : World) : GRow F w none 0 0 [] := ⟨rfl, Nat.le_refl _, Nat.zero_le _, fun _ => rfl, .inl rfl⟩

theorem grow_none (F : Flat α) (w : World) (b off : Nat) : GRow F w (some ⟨b, off, none⟩) 0 0 [] := ⟨rfl, Nat.le_refl _, Nat.zero_le _, (by intro h; cases h), .inl rfl⟩

theorem GRow.below {F : Flat α} {w w' : World} {ao : Option Addr} {len cap : Nat} {l : List α} (h : GRow F w ao len cap l) (hb : Below w.heap.size w w') : GRow F w' ao len cap l where
  size := h.size
  le := h.le
  top := h.top
  nil := h.nil
  cell := by
    rcases h.cell with h0 | ⟨b, off, ha, hc⟩
    · exact .inl h0
    · exact .inr ⟨b, off, ha, fun i x hi j v hv => (hb.cell (block_lt (hc i x hi j v hv))).trans (hc i x hi j v hv)⟩

theorem GRow.at {F : Flat α} {w : World} {ao : Option Addr} {len cap : Nat} {l : List α} (h : GRow F w ao len cap l) (i : Nat) (hi : i < len) : ∃ x b off, l[i]? = some x ∧ ao = some ⟨b, off, none⟩ ∧ ∀ (j : Nat) (v : Value), (F.cs x)[j]? = some v → w.cell? ⟨b, off + i * F.k + j, none⟩ = some v := by
  have hl := h.size
  rcases h.cell with h0 | ⟨b, off, ha, hc⟩
  · omega
  · have hx : l[i]? = some l[i] := List.getElem?_eq_getElem (by omega)
    exact ⟨_, b, off, hx, ha, hc i _ hx⟩

/-! What a call owns. -/

theorem gown_below {w w' : World} {base k : Nat} {e : TypeId} {v : Value} {n : Nat} {xs : List Value} (h : w.ownsRow base e k v n xs) (hb : Below w.heap.size w w') : w'.ownsRow base e k v n xs := by
  obtain ⟨hl, h | ⟨g, cap, cur, rfl, hg, hh, h1, h2, h3, h4⟩⟩ := h
  · exact ⟨hl, .inl h⟩
  · refine ⟨hl, .inr ⟨g, cap, cur, rfl, hg, ?_, h1, h2, h3, h4⟩⟩
    rw [hb.block g ?_]
    · exact hh
    · by_cases hlt : g < w.heap.size
      · exact hlt
      · rw [Array.getElem?_eq_none (by omega)] at hh
        simp at hh

theorem gown_lt {w : World} {base k : Nat} {e : TypeId} {v : Value} {n : Nat} {xs : List Value} (h : w.ownsRow base e k v n xs) {base' : Nat} (hle : base' ≤ base) : w.ownsRow base' e k v n xs := by
  obtain ⟨hl, h | ⟨g, cap, cur, rfl, hg, hh, h1, h2, h3, h4⟩⟩ := h
  · exact ⟨hl, .inl h⟩
  · exact ⟨hl, .inr ⟨g, cap, cur, rfl, by omega, hh, h1, h2, h3, h4⟩⟩

theorem gown_slice {w : World} {base k : Nat} {e : TypeId} {v : Value} {n : Nat} {xs : List Value} (h : w.ownsRow base e k v n xs) : ∃ ao cap, v = .slice ao n cap := by
  rcases h.2 with ⟨rfl, rfl⟩ | ⟨g, cap, cur, rfl, _⟩
  · exact ⟨none, 0, rfl⟩
  · exact ⟨_, cap, rfl⟩

/-- What the call owns stays while another block is written. -/
theorem gown_other {w w' : World} {base k : Nat} {e : TypeId} {v : Value} {n : Nat} {xs : List Value} (h : w.ownsRow base e k v n xs) {g : Nat} (hg : w.grownBy w' (some g)) (hne : ∀ b, v.ownBlock = some b → b ≠ g) : w'.ownsRow base e k v n xs := by
  refine h.kept hg ?_
  cases hv : v.ownBlock with
  | none => exact .inl rfl
  | some b => exact .inr (by intro h; cases h; exact hne _ hv rfl)

/-- A row that the call owns can be read. -/
theorem grow_own {F : Flat α} {w : World} {base : Nat} {T : TypeId} {ao : Option Addr} {n cap : Nat} {l : List α} (h : w.ownsRow base T F.k (.slice ao n cap) n (F.all l)) : GRow F w ao n cap l := by
  have hl : l.length = n := by
    have := h.1
    rw [F.all_length] at this
    exact Nat.eq_of_mul_eq_mul_right F.pos this
  rcases h.2 with ⟨e, rfl⟩ | ⟨g, cap', cur, e, hg, hh, h1, h2, h3, h4⟩
  · cases e
    exact ⟨hl, Nat.le_refl _, Nat.zero_le _, fun _ => rfl, .inl rfl⟩
  · cases e
    refine ⟨hl, h1, h2, (by intro h; cases h), .inr ⟨g, 0, rfl, fun i x hi j v hv => ?_⟩⟩
    have hx := F.all_at l i x hi j v hv
    have hlt := (List.getElem?_eq_some_iff.1 hx).1
    rw [F.all_length] at hlt
    rw [Nat.zero_add, h.cellAt _ (by rw [← hl]; exact hlt)]
    exact hx

/-- What append reads of a row. -/
theorem GRow.news {F : Flat α} {w : World} {b off n cap : Nat} {l : List α} (h : GRow F w (some ⟨b, off, none⟩) n cap l) : ∀ (j : Nat) (u : Value), (F.all l)[j]? = some u → w.cell? ((⟨b, off, none⟩ : Addr).add j) = some u := by
  intro j u hu
  have hj := (List.getElem?_eq_some_iff.1 hu).1
  rw [F.all_length] at hj
  have hp := F.pos
  have hi : j / F.k < l.length := Nat.div_lt_of_lt_mul (by rw [Nat.mul_comm]; exact hj)
  rcases h.cell with h0 | ⟨b', off', e, hc⟩
  · have := h.size
    rw [this, h0] at hi
    exact absurd hi (Nat.not_lt_zero _)
  · cases e
    have hx : l[j / F.k]? = some l[j / F.k] := List.getElem?_eq_getElem hi
    have hm : j % F.k < (F.cs l[j / F.k]).length := by rw [F.len]; exact Nat.mod_lt _ hp
    have hv := List.getElem?_eq_getElem hm
    have ha := F.all_at l _ _ hx _ _ hv
    have hd : j / F.k * F.k + j % F.k = j := by rw [Nat.mul_comm]; exact Nat.div_add_mod j F.k
    rw [hd] at ha
    have hc := hc _ _ hx _ _ hv
    rw [add_none]
    rw [show off + j = off + j / F.k * F.k + j % F.k by omega, hc, ← ha, hu]

theorem finfo_parts {P : Program} {T : TypeId} {z : Value} {k b : Nat} (h : (P.info? T).map (fun i => (i.zero, i.size, i.bytes)) = some (some z, k, b)) : ∃ i, P.info? T = some i ∧ i.zero = some z ∧ i.size = k ∧ i.bytes = b := by
  cases hi : P.info? T with
  | none => rw [hi] at h; simp at h
  | some i =>
    rw [hi] at h
    simp at h
    exact ⟨i, rfl, h.1, h.2.1, h.2.2⟩

/-- 'append' of a row of records to one that the call owns. -/
theorem wpList_append_flat {F : Flat α} {P : Program} (w : World) {ops : Array Oper} {rest : List Oper} {o : Oper} {a : Act} {Q : Exit → Act → World → Prop} (hgd : o.guard = none)
    (s x : Operand) (t T : TypeId) (ho : o.op = Op.call { callee := Callee.builtin Builtin.append, args := #[s, x], argTypes := #[t, t] }) (base : Nat) {Z : Value} {by8 : Nat}
    (ht : P.underlying t = some (TypeDesc.slice T)) (hinfo : (P.info? T).map (fun i => (i.zero, i.size, i.bytes)) = some (some Z, F.k, by8)) (hZ : Z.cells.size = F.k) (hb8 : by8 ≤ 1024)
    (v : Value) (n : Nat) (xs : List α) (hs : a.eval s = v) (hown : w.ownsRow base T F.k v n (F.all xs)) (ao : Option Addr) (m c : Nat) (zs : List α)
    (hx : a.eval x = .slice ao m c) (hrow : GRow F w ao m c zs) (hsm : n + m ≤ 137438953472) (hbase : base ≤ w.heap.size)
    (h : ∀ ao' cap' w', w'.ownsRow base T F.k (.slice ao' (n + m) cap') (n + m) (F.all (xs ++ zs)) → GRow F w' ao' (n + m) cap' (xs ++ zs) → w.grownBy w' v.ownBlock → Below base w w' → wpList P ops Q rest (a.put o.dst (.slice ao' (n + m) cap')) w') :
    wpList P ops Q (o :: rest) a w := by
  obtain ⟨i0, hi, hz0, hz1, hz2⟩ := finfo_parts hinfo
  rcases ao with _ | ad
  · have hc0 := hrow.nil rfl
    have hm0 : m = 0 := by have := hrow.le; omega
    subst hc0 hm0
    have hz : zs = [] := List.eq_nil_of_length_eq_zero hrow.size
    subst hz
    refine wpList_append_own_none hgd s x t ho base T i0 F.k ht hi v n (F.all xs) hs hown hx ?_
    obtain ⟨ao', cap', rfl⟩ := gown_slice hown
    have := h ao' cap' w (by simpa using hown) (by simpa using grow_own hown) (World.grownBy.refl _ _) (Below.refl _ _)
    simpa using this
  · have hnews : ∀ (j : Nat) (u : Value), (F.all zs)[j]? = some u → w.cell? (ad.add j) = some u := by
      intro j u hu
      rcases hrow.cell with h0 | ⟨b, off, e, _⟩
      · have hl := (List.getElem?_eq_some_iff.1 hu).1
        rw [F.all_length, hrow.size, h0, Nat.zero_mul] at hl
        omega
      · cases e
        exact hrow.news j u hu
    have hB : (n + m) * by8 ≤ 140737488355328 := Nat.le_trans (Nat.mul_le_mul hsm hb8) (by omega)
    refine wpList_append_own w hgd s x t ho base T i0 Z F.k by8 ht hi hz0 hz1 hz2 hZ F.pos v n (F.all xs) hs hown ad m c (F.all zs) hx (by rw [F.all_length, hrow.size]) hnews (F.all_oneCell zs) (by unfold maxLen; omega) hB hbase ?_
    intro v' w' how hgr _
    rw [← F.all_append] at how
    have hlt := hown.lt
    obtain ⟨ao', cap', rfl⟩ := gown_slice how
    exact h ao' cap' w' how (grow_own how) hgr ((Below.refl _ _).grown hgr hbase (by intro k hk; exact (hlt k hk).1))

/-- The same, as one step of a region that draws its order. -/
theorem step_append_flat {F : Flat α} {P : Program} {ops : Array Oper} {o : Oper} {a : Act} {w : World} {K : Act → World → Prop} {Q : Exit → Act → World → Prop} {E : Prop} (hgd : o.guard = none)
    (s x : Operand) (t T : TypeId) (ho : o.op = Op.call { callee := Callee.builtin Builtin.append, args := #[s, x], argTypes := #[t, t] }) (base : Nat) {Z : Value} {by8 : Nat}
    (ht : P.underlying t = some (TypeDesc.slice T)) (hinfo : (P.info? T).map (fun i => (i.zero, i.size, i.bytes)) = some (some Z, F.k, by8)) (hZ : Z.cells.size = F.k) (hb8 : by8 ≤ 1024)
    (v : Value) (n : Nat) (xs : List α) (hs : a.eval s = v) (hown : w.ownsRow base T F.k v n (F.all xs)) (ao : Option Addr) (m c : Nat) (zs : List α)
    (hx : a.eval x = .slice ao m c) (hrow : GRow F w ao m c zs) (hsm : n + m ≤ 137438953472) (hbase : base ≤ w.heap.size)
    (h : ∀ ao' cap' w', w'.ownsRow base T F.k (.slice ao' (n + m) cap') (n + m) (F.all (xs ++ zs)) → GRow F w' ao' (n + m) cap' (xs ++ zs) → w.grownBy w' v.ownBlock → Below base w w' → K (a.put o.dst (.slice ao' (n + m) cap')) w') :
    if Region.wanted o (yielded ops a.tmps) = true then Oper.wp P o a w K Q else E := by
  have hw : Region.wanted o (yielded ops a.tmps) = true := by simp [Region.wanted, hgd]
  rw [if_pos hw]
  obtain ⟨i0, hi, hz0, hz1, hz2⟩ := finfo_parts hinfo
  rcases ao with _ | ad
  · have hc0 := hrow.nil rfl
    have hm0 : m = 0 := by have := hrow.le; omega
    subst hc0 hm0
    have hz : zs = [] := List.eq_nil_of_length_eq_zero hrow.size
    subst hz
    obtain ⟨ao', cap', rfl⟩ := gown_slice hown
    have hrun := run_append_owned_none (P := P) w base t o.type T i0 F.k ht hi (.slice ao' n cap') n (F.all xs) hown
    have hk : K (a.put o.dst (.slice ao' n cap')) w := by simpa using h ao' cap' w (by simpa using hown) (by simpa using grow_own hown) (World.grownBy.refl _ _) (Below.refl _ _)
    unfold Oper.wp
    simp [execOp, ho, resolve, invoke, builtin, hs, hx, hrun, Result.andThen]
    exact hk
  · have hnews : ∀ (j : Nat) (u : Value), (F.all zs)[j]? = some u → w.cell? (ad.add j) = some u := by
      intro j u hu
      rcases hrow.cell with h0 | ⟨b, off, e, _⟩
      · have hl := (List.getElem?_eq_some_iff.1 hu).1
        rw [F.all_length, hrow.size, h0, Nat.zero_mul] at hl
        omega
      · cases e
        exact hrow.news j u hu
    have hB : (n + m) * by8 ≤ 140737488355328 := Nat.le_trans (Nat.mul_le_mul hsm hb8) (by omega)
    refine wp_append_own w s x t ho base T i0 Z F.k by8 ht hi hz0 hz1 hz2 hZ F.pos v n (F.all xs) hs hown ad m c (F.all zs) hx (by rw [F.all_length, hrow.size]) hnews (F.all_oneCell zs) (by unfold maxLen; omega) hB hbase ?_
    intro v' w' how hgr _
    rw [← F.all_append] at how
    have hlt := hown.lt
    obtain ⟨ao', cap', rfl⟩ := gown_slice how
    exact h ao' cap' w' how (grow_own how) hgr ((Below.refl _ _).grown hgr hbase (by intro k hk; exact (hlt k hk).1))

/-- A new block of one record is a row of one. -/
theorem grow_one (F : Flat α) (w : World) (x : α) (cs : Array Value) (T : TypeId) (h : cs.toList = F.cs x) : GRow F (w.alloc (.cells cs T)) (some ⟨w.heap.size, 0, none⟩) 1 1 [x] := by
  refine ⟨rfl, Nat.le_refl _, by unfold maxLen; omega, (by intro h; cases h), .inr ⟨w.heap.size, 0, rfl, fun i y hi j v hv => ?_⟩⟩
  have hi0 : i = 0 := by
    have := (List.getElem?_eq_some_iff.1 hi).1
    simp at this
    exact this
  subst hi0
  simp at hi
  subst hi
  rw [Nat.zero_mul, Nat.zero_add]
  rw [← h] at hv
  have hb := block_last w (.cells cs T)
  simp only [World.cell?, hb]
  simpa using hv

/-- A new empty row is the call's own. -/
theorem flat_nil (F : Flat α) (w w' : World) (T : TypeId) (b : Nat) (h : w'.heap[b]? = some (.cells #[] T)) (hb : w.heap.size ≤ b) : w'.ownsRow w.heap.size T F.k (.slice (some ⟨b, 0, none⟩) 0 0) 0 (F.all []) :=
  ⟨by simp [Flat.all], .inr ⟨b, 0, #[], rfl, hb, h, Nat.le_refl _, Nat.zero_le _, by simp, by simp [Flat.all]⟩⟩

section
variable {H : Type} {enc : TypeId × Value → H} {P : Program} {w : World}

open Go.ChangeShapes Go.WideShapes Go.ChangeAt in
/-- A slice of flat records that came in. -/
theorem open_flat (z : α) (F : Flat α) (R : α → Prop) {ts tb : TypeId} (hs : P.underlying ts = some (.slice tb)) (hk : P.cellsOf tb = F.k)
    (hone : ∀ {fuel : Nat} {cs : List Value} {x : DataW H × List MemPlace}, DataW.trod enc P w 0 (fun _ => true) true fuel tb cs = some x → ∃ y, cs = F.cs y ∧ R y)
    {fuel : Nat} {v : Value} {x : DataW H × List MemPlace} (h : DataW.trod enc P w 0 (fun _ => true) true fuel ts [v] = some x) :
    ∃ ao len cap l, v = .slice ao len cap ∧ GRow F w ao len cap l ∧ ∀ x ∈ l, R x := by
  rcases Go.Deep.open_slice hs h with ⟨hcs, _⟩ | ⟨a, len, cap, m, n, D, Pl, hcs, _, hl, hm, hmm, _, hx⟩
  · simp only [List.cons.injEq, and_true] at hcs
    subst hcs
    exact ⟨none, 0, 0, [], rfl, grow_nil F w, (by intro x hx; cases hx)⟩
  · simp only [List.cons.injEq, and_true] at hcs
    subst hcs
    have hmc : m = cap := by simpa using hmm
    subst hmc
    have each : ∀ i, i < m → ∃ y, R y ∧ ∀ j, j < F.k → w.cell? (a.add (i * F.k + j)) = (F.cs y)[j]? := by
      intro i hi
      obtain ⟨cs', h1, h2⟩ := hx i hi
      rw [hk] at h1
      obtain ⟨_, _, hcell⟩ := World.cells?_some h1
      obtain ⟨y, rfl, hy⟩ := hone h2
      refine ⟨y, hy, fun j hj => ?_⟩
      have := hcell j hj
      rw [Go.Deep.add_add] at this
      exact this
    have : Inhabited α := ⟨z⟩
    obtain ⟨q, hq⟩ := Go.Deep.choose_lt each
    refine ⟨some a, len, m, (List.range len).map q, rfl, ⟨by simp, hl, hm, (by intro h; cases h), ?_⟩, fun y hy => ?_⟩
    rotate_left
    · obtain ⟨i, hi, rfl⟩ := List.mem_map.1 hy
      exact (hq i (by have := List.mem_range.1 hi; omega)).1
    by_cases h0 : len = 0
    · exact .inl h0
    · obtain ⟨b, off, spot⟩ := a
      have hp := F.pos
      have hspot : spot = none := by
        have h1 := (hq 0 (by omega)).2 0 hp
        have h2 : 0 < (F.cs (q 0)).length := by rw [F.len]; exact hp
        rw [List.getElem?_eq_getElem h2] at h1
        simpa [Addr.add] using World.cell?_spot h1
      subst hspot
      refine .inr ⟨b, off, rfl, fun i y hy j v hv => ?_⟩
      have hi : i < len := by
        have := (List.getElem?_eq_some_iff.1 hy).1
        simpa using this
      have hy' : q i = y := by
        rw [List.getElem?_map, List.getElem?_range hi] at hy
        simpa using hy
      subst hy'
      have hj := (List.getElem?_eq_some_iff.1 hv).1
      rw [F.len] at hj
      have c := (hq i (by omega)).2 j hj
      rw [add_none, hv] at c
      rw [Nat.add_assoc]
      exact c
end

end Go.Proofs.Ytmlcjdfnoipihaa
