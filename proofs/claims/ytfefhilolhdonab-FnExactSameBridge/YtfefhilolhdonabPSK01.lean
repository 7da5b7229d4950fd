/-
  Packed: Base Help Mem Flat FlatOwn VecHelp VecMath PtMem FdbMath FentMem VtabMath IBase IHelp VrowMem BrMem PtOkS PtApp PtHelp.
-/
import Derived.Test.YtfefhilolhdonabRows
import Derived.WalkKit
import Derived.WalkSpells
import Derived.WalkLawsBesides
import Derived.Deep.QuietTactic
import Derived.BigQuiet
import Derived.Laws.AppendOwnNone
import Derived.Deep.RegionWith
import Derived.Deep.RegionLaw
import Derived.Deep.RegionHeld
import Derived.Lib.SmallJoins
import Derived.Deep.CutRange
import Derived.Deep.RegionHeld3
namespace Go.Proofs.Ytfefhilolhdonab
open Go.RowKit

theorem lA {α : Type} (l : List α) (i : Nat) (a : α) : l.toArray.setIfInBounds i a = (l.set i a).toArray := List.setIfInBounds_toArray ..

theorem lB {α : Type} (a b : α) (l : List α) : (a :: l).set 0 b = b :: l := List.set_cons_zero

theorem lC {α : Type} (a b : α) (l : List α) (n : Nat) : (a :: l).set (n + 1) b = a :: l.set n b := List.set_cons_succ

def cB (zs : List Int) : List Value := zs.map (Value.int .u8)

theorem block_lt {w : World} {a : Addr} {v : Value} (h : w.cell? a = some v) : a.block < w.heap.size := by
 unfold World.cell? at h
 by_cases hb : a.block < w.heap.size
 ·exact hb
 ·rw [Array.getElem?_eq_none (by omega)] at h
  simp at h

theorem below_drewN {B : Nat} {a w : World} (h : Below B a w) (n : Nat) : Below B a (w.drewN n) :=
 ⟨h.os, h.tape, h.output, h.size, h.block⟩

theorem add_none (b off j : Nat) : (⟨b, off, none⟩ : Addr).add j = ⟨b, off + j, none⟩ := by
 by_cases h : j = 0 <;> simp [Addr.add, h]

theorem hide {p : Prop} (h : p) : Hid p := h

theorem take_succ_getD (l : List Int) (k : Nat) (h : k < l.length) : l.take (k + 1) = l.take k ++ [l.getD k 0] := by
 rw [List.take_succ_eq_append_getElem h]; simp [h]

theorem eq_of_takes {a b : List Int} (hl : a.length = b.length) (h : a.take a.length = b.take a.length) : a = b := by
 rw [List.take_length, hl, List.take_length] at h; exact h

theorem ne_at {a b : List Int} (k : Nat) (h : ¬ a.getD k 0 = b.getD k 0) : ¬ a = b := by
 intro e; exact h (by rw [e])

theorem ret_bool {a b : Bool} (h : a = b) : Ending.returned (.bool a) = .returned (.bool b) := by rw [h]
theorem ret_int {k : IntKind} {a b : Int} (h : a = b) : Ending.returned (.int k a) = .returned (.int k b) := by rw [h]

theorem grown_setCell {w0 w : World} {g : Nat} (h : w0.grownBy w (some g)) (j : Nat) (u : Value) : w0.grownBy (w.setCell ⟨g, j, none⟩ u) (some g) where
 os := h.os
 tape := h.tape
 output := h.output
 size := by have := h.size; simpa using this
 block := fun k hk hne => by
  rw [Below.heap_setCell _ _ _ _ (by intro e; exact hne (by rw [e]))]
  exact h.block k hk hne

theorem below_one (w : World) (o : Obj) : Below w.heap.size w (w.alloc o) := (Below.refl _ _).alloc (Nat.le_refl _) o

theorem below_two (w : World) (o p : Obj) : Below w.heap.size w ((w.alloc o).alloc p) := (below_one w o).alloc (by simp) p

theorem below_three (w : World) (o p q : Obj) : Below w.heap.size w (((w.alloc o).alloc p).alloc q) := (below_two w o p).alloc (by simp; omega) q

theorem block_last (w : World) (o : Obj) : (w.alloc o).heap[w.heap.size]? = some o := by show (w.heap.push o)[w.heap.size]? = _; simp

theorem kept_one {w w1 : World} {o : Obj} (hb : Below (w.alloc o).heap.size (w.alloc o) w1) : w1.heap[w.heap.size]? = some o := by
 rw [hb.block _ (by simp)]; exact block_last w o

theorem kept_two {w w1 : World} {o p : Obj} (hb : Below ((w.alloc o).alloc p).heap.size ((w.alloc o).alloc p) w1) : w1.heap[w.heap.size]? = some o ∧ w1.heap[w.heap.size + 1]? = some p := by
 refine ⟨?_, ?_⟩
 ·have := below_one (w.alloc o) p
  exact kept_one (w := w) (o := o) ((this.trans (hb.mono this.size)))
 ·have := kept_one (w := w.alloc o) (o := p) hb; simpa using this

theorem kept_three {w w1 : World} {o p q : Obj} (hb : Below (((w.alloc o).alloc p).alloc q).heap.size (((w.alloc o).alloc p).alloc q) w1) : w1.heap[w.heap.size]? = some o ∧ w1.heap[w.heap.size + 1]? = some p ∧ w1.heap[w.heap.size + 1 + 1]? = some q := by
 have t := below_one ((w.alloc o).alloc p) q
 have u := kept_two (w := w) (o := o) (p := p) (t.trans (hb.mono t.size))
 refine ⟨u.1, u.2, ?_⟩
 have := kept_one (w := (w.alloc o).alloc p) (o := q) hb; simpa using this

theorem below_set {B : Nat} {a w : World} (h : Below B a w) {g : Nat} (hB : B ≤ g) (j : Nat) (u : Value) : Below B a (w.setCell ⟨g, j, none⟩ u) := h.setCell (p := ⟨g, j, none⟩) hB u

theorem undrew {B n : Nat} {w w' : World} (h : Below B (w.drewN n) w') : Below B w w' := ⟨h.os, h.tape, h.output, h.size, h.block⟩

theorem kept_block {w w' : World} {i : Nat} {o : Obj} (h : w.heap[i]? = some o) (hb : Below w.heap.size w w') : w'.heap[i]? = some o := by
 by_cases hlt : i < w.heap.size
 ·rw [hb.block i hlt]; exact h
 ·rw [Array.getElem?_eq_none (by omega)] at h; cases h

theorem set_block5 {w : World} {b j : Nat} {cur : Array Value} {t : TypeId} (h : w.heap[b]? = some (.cells cur t)) (u : Value) : (w.setCell ⟨b, j, none⟩ u).heap[b]? = some (.cells (cur.setIfInBounds j u) t) := heap_setCell_same w b j cur t u h

theorem kept_set {w : World} {i b j : Nat} {o : Obj} {u : Value} (h : w.heap[i]? = some o) (hne : i ≠ b) : (w.setCell ⟨b, j, none⟩ u).heap[i]? = some o := by rw [Below.heap_setCell _ _ _ _ hne]; exact h

theorem cells2 {w : World} {C : Nat} {t : TypeId} {c0 c1 : Value} (h : w.heap[C]? = some (.cells #[c0, c1] t)) :
  (w.cell? ⟨C, 0, none⟩ = some c0 ∧ w.cell? ⟨C, 1, none⟩ = some c1) ∧ (w.frozen? ⟨C, 0, none⟩ = false ∧ w.frozen? ⟨C, 1, none⟩ = false) := by
 refine ⟨⟨?_, ?_⟩, ?_, ?_⟩ <;> simp [World.cell?, World.frozen?, h]

theorem grownTr {a b c : World} {row : Option Nat} (h : a.grownBy b row) (k : b.grownBy c row) : a.grownBy c row :=
 ⟨k.os.trans h.os, k.tape.trans h.tape, k.output.trans h.output, Nat.le_trans h.size k.size, fun i hi hn => (k.block i (Nat.lt_of_lt_of_le hi h.size) hn).trans (h.block i hi hn)⟩

theorem grown_set {w : World} {rb : Nat} (j : Nat) (u : Value) : w.grownBy (w.setCell ⟨rb, j, none⟩ u) (some rb) := grown_setCell (World.grownBy.refl _ _) j u

theorem kept_grown {w w' : World} {row : Option Nat} {i : Nat} {o : Obj} (h : w.heap[i]? = some o) (hg : w.grownBy w' row) (hne : ∀ k, row = some k → k ≠ i) : w'.heap[i]? = some o := by
 by_cases hlt : i < w.heap.size
 ·rw [hg.block i hlt (fun e => hne i e.symm rfl)]; exact h
 ·rw [Array.getElem?_eq_none (by omega)] at h; cases h

theorem gr_trans {w W W' : World} (a : Below w.heap.size w W) (b : Below W.heap.size W W') : Below w.heap.size w W' := a.trans (b.mono a.size)

theorem gr_drew {w W : World} (a : Below w.heap.size w W) : Below w.heap.size w W.drew := a.drew

theorem gr_drewN {w W : World} (a : Below w.heap.size w W) (n : Nat) : Below w.heap.size w (W.drewN n) := below_drewN a n

section
open Go.RowKit

structure Flat (α : Type) where
 k : Nat
 cs : α → List Value
 len : ∀ x, (cs x).length = k
 pos : 0 < k
 one : ∀ x, ∀ v ∈ cs x, v.oneCell' = true

variable {α : Type}

def Flat.all (F : Flat α) (l : List α) : List Value := l.flatMap F.cs

theorem Flat.all_cons (F : Flat α) (x : α) (l : List α) : F.all (x :: l) = F.cs x ++ F.all l := by simp [Flat.all]
theorem Flat.all_append (F : Flat α) (a b : List α) : F.all (a ++ b) = F.all a ++ F.all b := by simp [Flat.all]
theorem Flat.all_one (F : Flat α) (x : α) : F.all [x] = F.cs x := by simp [Flat.all]
theorem Flat.all_length (F : Flat α) (l : List α) : (F.all l).length = l.length * F.k := by
 induction l with
 | nil => simp [Flat.all]
 | cons x l ih => rw [F.all_cons, List.length_append, ih, F.len, List.length_cons, Nat.add_mul]; omega
theorem Flat.all_oneCell (F : Flat α) (l : List α) : ∀ u ∈ F.all l, u.oneCell' = true := by
 intro u hu
 obtain ⟨x, _, hx⟩ := List.mem_flatMap.1 hu
 exact F.one x u hx

theorem Flat.all_at (F : Flat α) : ∀ (l : List α) (i : Nat) (x : α), l[i]? = some x → ∀ (j : Nat) (v : Value), (F.cs x)[j]? = some v → (F.all l)[i * F.k + j]? = some v
 | [], i, x, h, _, _, _ => by simp at h
 | y :: l, 0, x, h, j, v, hv => by
  simp at h
  subst h
  have hj := (List.getElem?_eq_some_iff.1 hv).1
  rw [F.all_cons, Nat.zero_mul, Nat.zero_add, List.getElem?_append_left hj]
  exact hv
 | y :: l, i + 1, x, h, j, v, hv => by
  have h' : l[i]? = some x := by simpa using h
  rw [F.all_cons, List.getElem?_append_right (by rw [F.len, Nat.add_mul]; omega), F.len]
  rw [show (i + 1) * F.k + j - F.k = i * F.k + j by rw [Nat.add_mul]; omega]
  exact Flat.all_at F l i x h' j v hv

structure GRow (F : Flat α) (w : World) (ao : Option Addr) (len cap : Nat) (l : List α) : Prop where
 size : l.length = len
 le : len ≤ cap
 top : cap ≤ maxLen
 nil : ao = none → cap = 0
 cell : len = 0 ∨ ∃ b off, ao = some ⟨b, off, none⟩ ∧ ∀ (i : Nat) (x : α), l[i]? = some x → ∀ (j : Nat) (v : Value), (F.cs x)[j]? = some v → w.cell? ⟨b, off + i * F.k + j, none⟩ = some v

theorem grow_nil (F : Flat α) (w : World) : GRow F w none 0 0 [] := ⟨rfl, Nat.le_refl _, Nat.zero_le _, fun _ => rfl, .inl rfl⟩

theorem GRow.below {F : Flat α} {w w' : World} {ao : Option Addr} {len cap : Nat} {l : List α} (h : GRow F w ao len cap l) (hb : Below w.heap.size w w') : GRow F w' ao len cap l where
 size := h.size
 le := h.le
 top := h.top
 nil := h.nil
 cell := by
  rcases h.cell with h0 | ⟨b, off, ha, hc⟩
  ·exact .inl h0
  ·exact .inr ⟨b, off, ha, fun i x hi j v hv => (hb.cell (block_lt (hc i x hi j v hv))).trans (hc i x hi j v hv)⟩

theorem GRow.at {F : Flat α} {w : World} {ao : Option Addr} {len cap : Nat} {l : List α} (h : GRow F w ao len cap l) (i : Nat) (hi : i < len) : ∃ x b off, l[i]? = some x ∧ ao = some ⟨b, off, none⟩ ∧ ∀ (j : Nat) (v : Value), (F.cs x)[j]? = some v → w.cell? ⟨b, off + i * F.k + j, none⟩ = some v := by
 have hl := h.size
 rcases h.cell with h0 | ⟨b, off, ha, hc⟩
 ·omega
 ·have hx : l[i]? = some l[i] := List.getElem?_eq_getElem (by omega)
  exact ⟨_, b, off, hx, ha, hc i _ hx⟩

theorem gown_below {w w' : World} {base k : Nat} {e : TypeId} {v : Value} {n : Nat} {xs : List Value} (h : w.ownsRow base e k v n xs) (hb : Below w.heap.size w w') : w'.ownsRow base e k v n xs := by
 obtain ⟨hl, h | ⟨g, cap, cur, rfl, hg, hh, h1, h2, h3, h4⟩⟩ := h
 ·exact ⟨hl, .inl h⟩
 ·refine ⟨hl, .inr ⟨g, cap, cur, rfl, hg, ?_, h1, h2, h3, h4⟩⟩
  rw [hb.block g ?_]
  ·exact hh
  ·by_cases hlt : g < w.heap.size
   ·exact hlt
   ·rw [Array.getElem?_eq_none (by omega)] at hh
    simp at hh

theorem gown_lt {w : World} {base k : Nat} {e : TypeId} {v : Value} {n : Nat} {xs : List Value} (h : w.ownsRow base e k v n xs) {base' : Nat} (hle : base' ≤ base) : w.ownsRow base' e k v n xs := by
 obtain ⟨hl, h | ⟨g, cap, cur, rfl, hg, hh, h1, h2, h3, h4⟩⟩ := h
 ·exact ⟨hl, .inl h⟩
 ·exact ⟨hl, .inr ⟨g, cap, cur, rfl, by omega, hh, h1, h2, h3, h4⟩⟩

theorem gown_other {w w' : World} {base k : Nat} {e : TypeId} {v : Value} {n : Nat} {xs : List Value} (h : w.ownsRow base e k v n xs) {g : Nat} (hg : w.grownBy w' (some g)) (hne : ∀ b, v.ownBlock = some b → b ≠ g) : w'.ownsRow base e k v n xs := by
 refine h.kept hg ?_
 cases hv : v.ownBlock with
 | none => exact .inl rfl
 | some b => exact .inr (by intro h; cases h; exact hne _ hv rfl)

theorem grow_own {F : Flat α} {w : World} {base : Nat} {T : TypeId} {ao : Option Addr} {n cap : Nat} {l : List α} (h : w.ownsRow base T F.k (.slice ao n cap) n (F.all l)) : GRow F w ao n cap l := by
 have hl : l.length = n := by
  have := h.1
  rw [F.all_length] at this
  exact Nat.eq_of_mul_eq_mul_right F.pos this
 rcases h.2 with ⟨e, rfl⟩ | ⟨g, cap', cur, e, hg, hh, h1, h2, h3, h4⟩
 ·cases e
  exact ⟨hl, Nat.le_refl _, Nat.zero_le _, fun _ => rfl, .inl rfl⟩
 ·cases e
  refine ⟨hl, h1, h2, (by intro h; cases h), .inr ⟨g, 0, rfl, fun i x hi j v hv => ?_⟩⟩
  have hx := F.all_at l i x hi j v hv
  have hlt := (List.getElem?_eq_some_iff.1 hx).1
  rw [F.all_length] at hlt
  rw [Nat.zero_add, h.cellAt _ (by rw [← hl]; exact hlt)]
  exact hx

theorem finfo_parts {P : Program} {T : TypeId} {z : Value} {k b : Nat} (h : (P.info? T).map (fun i => (i.zero, i.size, i.bytes)) = some (some z, k, b)) : ∃ i, P.info? T = some i ∧ i.zero = some z ∧ i.size = k ∧ i.bytes = b := by
 cases hi : P.info? T with
 | none => rw [hi] at h; simp at h
 | some i =>
  rw [hi] at h
  simp at h
  exact ⟨i, rfl, h.1, h.2.1, h.2.2⟩

section
variable {H : Type} {enc : TypeId × Value → H} {P : Program} {w : World}

open Go.ChangeShapes Go.WideShapes Go.ChangeAt in
theorem open_flat (z : α) (F : Flat α) (R : α → Prop) {ts tb : TypeId} (hs : P.underlying ts = some (.slice tb)) (hk : P.cellsOf tb = F.k)
  (hone : ∀ {fuel : Nat} {cs : List Value} {x : DataW H × List MemPlace}, DataW.trod enc P w 0 (fun _ => true) true fuel tb cs = some x → ∃ y, cs = F.cs y ∧ R y)
  {fuel : Nat} {v : Value} {x : DataW H × List MemPlace} (h : DataW.trod enc P w 0 (fun _ => true) true fuel ts [v] = some x) :
  ∃ ao len cap l, v = .slice ao len cap ∧ GRow F w ao len cap l ∧ ∀ x ∈ l, R x := by
 rcases Go.Deep.open_slice hs h with ⟨hcs, _⟩ | ⟨a, len, cap, m, n, D, Pl, hcs, _, hl, hm, hmm, _, hx⟩
 ·simp only [List.cons.injEq, and_true] at hcs
  subst hcs
  exact ⟨none, 0, 0, [], rfl, grow_nil F w, (by intro x hx; cases hx)⟩
 ·simp only [List.cons.injEq, and_true] at hcs
  subst hcs
  have hmc : m = cap := by simpa using hmm
  subst hmc
  have each : ∀ i, i < m → ∃ y, R y ∧ ∀ j, j < F.k → w.cell? (a.add (i * F.k + j)) = (F.cs y)[j]? := by
   intro i hi
   obtain ⟨cs', h1, h2⟩ := hx i hi
   rw [hk] at h1
   obtain ⟨_, _, hcell⟩ := World.cells?_some h1
   obtain ⟨y, rfl, hy⟩ := hone h2
   refine ⟨y, hy, fun j hj => ?_⟩
   have := hcell j hj
   rw [Go.Deep.add_add] at this
   exact this
  have : Inhabited α := ⟨z⟩
  obtain ⟨q, hq⟩ := Go.Deep.choose_lt each
  refine ⟨some a, len, m, (List.range len).map q, rfl, ⟨by simp, hl, hm, (by intro h; cases h), ?_⟩, fun y hy => ?_⟩
  rotate_left
  ·obtain ⟨i, hi, rfl⟩ := List.mem_map.1 hy
   exact (hq i (by have := List.mem_range.1 hi; omega)).1
  by_cases h0 : len = 0
  ·exact .inl h0
  ·obtain ⟨b, off, spot⟩ := a
   have hp := F.pos
   have hspot : spot = none := by
    have h1 := (hq 0 (by omega)).2 0 hp
    have h2 : 0 < (F.cs (q 0)).length := by rw [F.len]; exact hp
    rw [List.getElem?_eq_getElem h2] at h1
    simpa [Addr.add] using World.cell?_spot h1
   subst hspot
   refine .inr ⟨b, off, rfl, fun i y hy j v hv => ?_⟩
   have hi : i < len := by
    have := (List.getElem?_eq_some_iff.1 hy).1
    simpa using this
   have hy' : q i = y := by
    rw [List.getElem?_map, List.getElem?_range hi] at hy
    simpa using hy
   subst hy'
   have hj := (List.getElem?_eq_some_iff.1 hv).1
   rw [F.len] at hj
   have c := (hq i (by omega)).2 j hj
   rw [add_none, hv] at c
   rw [Nat.add_assoc]
   exact c
end

end

section
open Go.RowKit

variable {α : Type}

theorem Flat.all_set (F : Flat α) (pre : List α) (x x' : α) (post : List α) (j : Nat) (u : Value) (hj : j < F.k) (h : (F.cs x).set j u = F.cs x') : (F.all (pre ++ x :: post)).set (pre.length * F.k + j) u = F.all (pre ++ x' :: post) := by
 rw [F.all_append, F.all_cons, List.set_append_right _ _ (by rw [F.all_length]; omega), F.all_length, Nat.add_sub_cancel_left, List.set_append_left _ _ (by rw [F.len]; exact hj), h, F.all_append, F.all_cons]

theorem flat_stored {F : Flat α} {w : World} {base g n cap : Nat} {T : TypeId} {pre post : List α} {x x' : α} (h : w.ownsRow base T F.k (.slice (some ⟨g, 0, none⟩) n cap) n (F.all (pre ++ x :: post))) (j : Nat) (u : Value) (hj : j < F.k) (hx : (F.cs x).set j u = F.cs x') :
  (w.setCell ⟨g, pre.length * F.k + j, none⟩ u).ownsRow base T F.k (.slice (some ⟨g, 0, none⟩) n cap) n (F.all (pre ++ x' :: post)) := by
 have := (h.stored (pre.length * F.k + j) u).1
 rw [F.all_set pre x x' post j u hj hx] at this
 exact this

theorem flat_made (F : Flat α) (z : α) (n : Nat) : (madeCells (F.cs z).toArray (n * F.k)).toList = F.all (List.replicate n z) := by
 have hp := F.pos
 apply List.ext_getElem?
 intro j
 by_cases hj : j < n * F.k
 ·have hi : j / F.k < n := Nat.div_lt_of_lt_mul (by rw [Nat.mul_comm]; exact hj)
  have hm : j % F.k < (F.cs z).length := by rw [F.len]; exact Nat.mod_lt _ hp
  have hx : (List.replicate n z)[j / F.k]? = some z := by rw [List.getElem?_replicate, if_pos hi]
  have hv := List.getElem?_eq_getElem hm
  have ha := F.all_at _ _ _ hx _ _ hv
  rw [show j / F.k * F.k + j % F.k = j by rw [Nat.mul_comm]; exact Nat.div_add_mod j F.k] at ha
  rw [ha]
  simp only [madeCells, Array.toList_map, Array.toList_range, List.getElem?_map, List.getElem?_range hj, Option.map_some]
  simp [F.len]
  rw [hv]
  rfl
 ·rw [List.getElem?_eq_none (by simp [madeCells]; omega), List.getElem?_eq_none (by rw [F.all_length]; simp; omega)]

theorem gown_apart {w w' : World} {base k : Nat} {e : TypeId} {v : Value} {n : Nat} {xs : List Value} (h : w.ownsRow base e k v n xs) {row : Option Nat} (hg : w.grownBy w' row) (hlt : ∀ b, row = some b → b < base) : w'.ownsRow base e k v n xs := by
 refine h.kept hg ?_
 cases hv : v.ownBlock with
 | none => exact .inl rfl
 | some b =>
  refine .inr (fun e => ?_)
  have h1 := (h.lt b hv).1
  have h2 := hlt b e.symm
  omega

theorem flat_cells {F : Flat α} {w : World} {base g n cap : Nat} {T : TypeId} {l : List α} (h : w.ownsRow base T F.k (.slice (some ⟨g, 0, none⟩) n cap) n (F.all l)) {i : Nat} {x : α} (hx : l[i]? = some x) {j : Nat} {v : Value} (hv : (F.cs x)[j]? = some v) : w.cell? ⟨g, i * F.k + j, none⟩ = some v ∧ w.frozen? ⟨g, i * F.k + j, none⟩ = false := by
 have ha := F.all_at l i x hx j v hv
 have hlt := (List.getElem?_eq_some_iff.1 ha).1
 have h1 := h.1
 refine ⟨?_, h.frozenAt _⟩
 rw [h.cellAt _ (by rw [← h1]; exact hlt)]
 exact ha

end

set_option maxRecDepth 100000 in
set_option maxHeartbeats 400000 in
theorem toVec_made (R C H B P : Int) (w : World) :
  Calls Try.prog 34 #[.agg #[.int .i64 R, .int .i64 C, .int .i64 H, .int .i64 B, .int .i64 P]] w fun e w' => e = .returned (.agg #[.int .i64 R, .int .i64 C, .int .i64 H, .int .i64 B, .int .i64 P]) ∧ Below w.heap.size w w' := by
 go_enter Try.func34, Try.ntmps34
 go_wp2
 exact bodyPost_ret (v := .agg #[.int .i64 R, .int .i64 C, .int .i64 H, .int .i64 B, .int .i64 P]) (by simp [results, Try.results34, go_sem, *]) rfl ⟨rfl, below_three _ _ _ _⟩

set_option maxRecDepth 100000 in
set_option maxHeartbeats 400000 in
theorem eqVec_same (R C H B P : Int) (w : World) :
  Calls Try.prog 36 #[.agg #[.int .i64 R, .int .i64 C, .int .i64 H, .int .i64 B, .int .i64 P], .agg #[.int .i64 R, .int .i64 C, .int .i64 H, .int .i64 B, .int .i64 P]] w fun e w' => e = .returned (.bool true) ∧ Below w.heap.size w w' := by
 go_enter Try.func36, Try.ntmps36
 go_wp2
 go_ret
 exact ⟨rfl, below_two _ _ _⟩

structure VD where
 r : Int
 c : Int
 h : Int
 b : Int
 p : Int

structure PT where
 up : Bool
 k : Int
 has : Bool
 v : VD

def ptF : Flat PT where
 k := 8
 cs := fun x => [.bool x.up, .int .i64 x.k, .bool x.has, .int .i64 x.v.r, .int .i64 x.v.c, .int .i64 x.v.h, .int .i64 x.v.b, .int .i64 x.v.p]
 len := fun _ => rfl
 pos := by decide
 one := fun _ v hv => by
  simp only [List.mem_cons, List.not_mem_nil, or_false] at hv
  rcases hv with rfl | rfl | rfl | rfl | rfl | rfl | rfl | rfl <;> rfl

theorem pt_at {w : World} {ao : Option Addr} {len cap : Nat} {l : List PT} (h : GRow ptF w ao len cap l) (i : Nat) (hi : i < len) : ∃ (x : PT) (b off : Nat), l[i]? = some x ∧ ao = some ⟨b, off, none⟩ ∧
  w.cell? ⟨b, off + i * 8, none⟩ = some (.bool x.up) ∧ w.cell? ⟨b, off + i * 8 + 1, none⟩ = some (.int .i64 x.k) ∧ w.cell? ⟨b, off + i * 8 + 2, none⟩ = some (.bool x.has) ∧
  w.cell? ⟨b, off + i * 8 + 3, none⟩ = some (.int .i64 x.v.r) ∧ w.cell? ⟨b, off + i * 8 + 4, none⟩ = some (.int .i64 x.v.c) ∧ w.cell? ⟨b, off + i * 8 + 5, none⟩ = some (.int .i64 x.v.h) ∧ w.cell? ⟨b, off + i * 8 + 6, none⟩ = some (.int .i64 x.v.b) ∧ w.cell? ⟨b, off + i * 8 + 7, none⟩ = some (.int .i64 x.v.p) := by
 obtain ⟨x, b, off, hx, ha, hc⟩ := h.at i hi
 exact ⟨x, b, off, hx, ha, hc 0 _ rfl, hc 1 _ rfl, hc 2 _ rfl, hc 3 _ rfl, hc 4 _ rfl, hc 5 _ rfl, hc 6 _ rfl, hc 7 _ rfl⟩

structure FE where
 t : Int
 m : Int
 p : Int
 a : Int
 s : Bool

section
open Go.RowKit

def fentF : Flat FE where
 k := 5
 cs := fun e => [.int .i64 e.t, .int .i64 e.m, .int .i64 e.p, .int .i64 e.a, .bool e.s]
 len := fun _ => rfl
 pos := by decide
 one := fun _ v hv => by
  simp only [List.mem_cons, List.not_mem_nil, or_false] at hv
  rcases hv with rfl | rfl | rfl | rfl | rfl <;> rfl

theorem wf_i64 {n : Int} (h : (Lit.int .i64 n).wf = true) : -9223372036854775808 ≤ n ∧ n ≤ 9223372036854775807 := by
 simp [Lit.wf, IntKind.min, IntKind.max, IntKind.bits, IntKind.signed] at h
 omega

def FE.Rng (e : FE) : Prop := (-9223372036854775808 ≤ e.t ∧ e.t ≤ 9223372036854775807) ∧ (-9223372036854775808 ≤ e.m ∧ e.m ≤ 9223372036854775807) ∧ (-9223372036854775808 ≤ e.p ∧ e.p ≤ 9223372036854775807) ∧ (-9223372036854775808 ≤ e.a ∧ e.a ≤ 9223372036854775807)

theorem fent_at {w : World} {ao : Option Addr} {len cap : Nat} {l : List FE} (h : GRow fentF w ao len cap l) (i : Nat) (hi : i < len) : ∃ (x : FE) (b off : Nat), l[i]? = some x ∧ ao = some ⟨b, off, none⟩ ∧
  w.cell? ⟨b, off + i * 5, none⟩ = some (.int .i64 x.t) ∧ w.cell? ⟨b, off + i * 5 + 1, none⟩ = some (.int .i64 x.m) ∧ w.cell? ⟨b, off + i * 5 + 2, none⟩ = some (.int .i64 x.p) ∧ w.cell? ⟨b, off + i * 5 + 3, none⟩ = some (.int .i64 x.a) ∧ w.cell? ⟨b, off + i * 5 + 4, none⟩ = some (.bool x.s) := by
 obtain ⟨x, b, off, hx, ha, hc⟩ := h.at i hi
 exact ⟨x, b, off, hx, ha, hc 0 _ rfl, hc 1 _ rfl, hc 2 _ rfl, hc 3 _ rfl, hc 4 _ rfl⟩

section
open Go.ChangeShapes Go.WideShapes Go.ChangeAt
variable {H : Type} {enc : TypeId × Value → H} {P : Program} {w : World}

theorem fent_trod {tp ti tb : TypeId} {g0 g1 g2 g3 g4 : Field} (hs : P.underlying tp = some (.struct #[g0, g1, g2, g3, g4])) (hi : P.underlying ti = some (.int .i64)) (hb : P.underlying tb = some .bool)
  (e0 : g0.type = ti ∧ g0.offset = 0) (e1 : g1.type = ti ∧ g1.offset = 1) (e2 : g2.type = ti ∧ g2.offset = 2) (e3 : g3.type = ti ∧ g3.offset = 3) (e4 : g4.type = tb ∧ g4.offset = 4) (hC : P.cellsOf tp = 5) (hti : P.cellsOf ti = 1) (htb : P.cellsOf tb = 1)
  {fuel : Nat} {cs : List Value} {x : DataW H × List MemPlace} (h : DataW.trod enc P w 0 (fun _ => true) true fuel tp cs = some x) : ∃ y, cs = fentF.cs y ∧ y.Rng := by
 obtain ⟨xs, n, _, _, hlen, hxl, hq⟩ := DataW.trod_struct hs h
 rw [hC] at hlen
 match xs, hxl, cs, hlen with
 | [y0, y1, y2, y3, y4], _, [v0, v1, v2, v3, v4], _ =>
  have k0 := hq 0 g0 rfl
  have k1 := hq 1 g1 rfl
  have k2 := hq 2 g2 rfl
  have k3 := hq 3 g3 rfl
  have k4 := hq 4 g4 rfl
  rw [e0.1, e0.2, hti] at k0
  rw [e1.1, e1.2, hti] at k1
  rw [e2.1, e2.2, hti] at k2
  rw [e3.1, e3.2, hti] at k3
  rw [e4.1, e4.2, htb] at k4
  simp at k0 k1 k2 k3 k4
  obtain ⟨T, i0, -, r0⟩ := DataW.trod_int hi k0
  obtain ⟨M, i1, -, r1⟩ := DataW.trod_int hi k1
  obtain ⟨P', i2, -, r2⟩ := DataW.trod_int hi k2
  obtain ⟨A, i3, -, r3⟩ := DataW.trod_int hi k3
  obtain ⟨S, i4, -⟩ := DataW.trod_bool hb k4
  simp only [List.cons.injEq, and_true] at i0 i1 i2 i3 i4
  subst i0 i1 i2 i3 i4
  exact ⟨⟨T, M, P', A, S⟩, rfl, wf_i64 r0, wf_i64 r1, wf_i64 r2, wf_i64 r3⟩
end

end

structure VR where
 i : Int
 m : Int
 b : Int

structure VT where
 rows : List VR
 own : List Int

def cI (zs : List Int) : List Value := zs.map (Value.int .i64)

def I64s (zs : List Int) : Prop := ∀ z ∈ zs, -9223372036854775808 ≤ z ∧ z ≤ 9223372036854775807

theorem cI_length (zs : List Int) : (cI zs).length = zs.length := by simp [cI]
theorem cI_append (a b : List Int) : cI (a ++ b) = cI a ++ cI b := by simp [cI]
theorem cI_get (zs : List Int) (j : Nat) (h : j < zs.length) : (cI zs)[j]? = some (.int .i64 (zs.getD j 0)) := by
 simp [cI, List.getElem?_map, List.getElem?_eq_getElem h]

structure IRow (w : World) (ao : Option Addr) (len cap : Nat) (zs : List Int) : Prop where
 size : zs.length = len
 le : len ≤ cap
 top : cap ≤ maxLen
 nil : ao = none → cap = 0
 byte : I64s zs
 cell : len = 0 ∨ ∃ b off, ao = some ⟨b, off, none⟩ ∧ ∀ i, i < len → w.cell? ⟨b, off + i, none⟩ = some (.int .i64 (zs.getD i 0))

theorem IRow.below {w w' : World} {ao : Option Addr} {len cap : Nat} {zs : List Int} (h : IRow w ao len cap zs) (hb : Below w.heap.size w w') : IRow w' ao len cap zs where
 size := h.size
 le := h.le
 top := h.top
 nil := h.nil
 byte := h.byte
 cell := by
  rcases h.cell with h0 | ⟨b, off, ha, hc⟩
  ·exact .inl h0
  ·exact .inr ⟨b, off, ha, fun i hi => by rw [hb.cell (block_lt (hc i hi))]; exact hc i hi⟩

theorem irow_of_own {w : World} {base : Nat} {v : Value} {n : Nat} {zs : List Int} (h : w.ownsRow base 3 1 v n (cI zs)) (hz : I64s zs) :
  ∃ ao cap, v = .slice ao n cap ∧ IRow w ao n cap zs := by
 have hl : zs.length = n := by have := h.1; simpa [cI] using this
 rcases h.2 with ⟨rfl, rfl⟩ | ⟨g, cap, cur, rfl, hg, hh, h1, h2, h3, h4⟩
 ·exact ⟨none, 0, rfl, hl, Nat.le_refl _, Nat.zero_le _, fun _ => rfl, hz, .inl rfl⟩
 ·refine ⟨_, cap, rfl, hl, h1, h2, (by intro h; cases h), hz, .inr ⟨g, 0, rfl, fun i hi => ?_⟩⟩
  have := h.cellAt i (by omega)
  rw [Nat.zero_add, this, cI_get zs i (by omega)]

theorem Try.infoI64 : (Try.prog.info? 3).map (fun i => (i.zero, i.size, i.bytes)) = some (some (.int .i64 0), 1, 8) := by kernel_rfl

theorem getD_i64 {zs : List Int} (h : I64s zs) (j : Nat) : -9223372036854775808 ≤ zs.getD j 0 ∧ zs.getD j 0 ≤ 9223372036854775807 := by
 by_cases hj : j < zs.length
 ·rw [List.getD_eq_getElem?_getD, List.getElem?_eq_getElem hj]; exact h _ (List.getElem_mem hj)
 ·rw [List.getD_eq_getElem?_getD, List.getElem?_eq_none (by omega)]; simp

theorem IRow.at {w : World} {ao : Option Addr} {len cap : Nat} {zs : List Int} (h : IRow w ao len cap zs) (hp : 0 < len) : ∃ b off, ao = some ⟨b, off, none⟩ ∧ ∀ i, i < len → w.cell? ⟨b, off + i, none⟩ = some (.int .i64 (zs.getD i 0)) := by
 rcases h.cell with h0 | h0
 ·omega
 ·exact h0

theorem I64s.at {zs : List Int} (h : I64s zs) (j : Nat) : -9223372036854775808 ≤ zs.getD j 0 ∧ zs.getD j 0 ≤ 9223372036854775807 := getD_i64 h j

theorem irow_nil (w : World) : IRow w none 0 0 [] := ⟨rfl, Nat.le_refl _, Nat.zero_le _, fun _ => rfl, (by intro z hz; cases hz), .inl rfl⟩

theorem irow_open {w : World} {x : Addr} {len cap : Nat} {zs : List Int} (hl : len ≤ cap) (hm : cap ≤ maxLen) (hz : zs.length = cap) (hcell : ∀ i, i < zs.length → w.cell? (x.add i) = some (.int .i64 (zs.getD i 0))) (hwz : ∀ n ∈ zs, (Lit.int .i64 n).wf = true) : IRow w (some x) len cap (zs.take len) where
 size := by simp; omega
 le := hl
 top := hm
 nil := by intro h; cases h
 byte := by
  intro z h
  have := hwz z (List.mem_of_mem_take h)
  simp [Lit.wf, IntKind.min, IntKind.max, IntKind.bits, IntKind.signed] at this
  omega
 cell := by
  by_cases h0 : len = 0
  ·exact .inl h0
  ·have hc0 := hcell 0 (by omega)
   obtain ⟨b, off, spot⟩ := x
   have hspot : spot = none := by simpa [Addr.add] using World.cell?_spot hc0
   subst hspot
   refine .inr ⟨b, off, rfl, fun i hi => ?_⟩
   have := hcell i (by omega)
   have e : (⟨b, off, none⟩ : Addr).add i = ⟨b, off + i, none⟩ := by by_cases h : i = 0 <;> simp [Addr.add, h]
   rw [e] at this
   rw [this]
   simp [List.getD_eq_getElem?_getD, hi]

set_option maxRecDepth 100000 in
set_option maxHeartbeats 400000 in
theorem eqI_any (a1 : Option Addr) (l1 c1 : Nat) (z1 : List Int) (a2 : Option Addr) (l2 c2 : Nat) (z2 : List Int) (w : World) (h1 : IRow w a1 l1 c1 z1) (h2 : IRow w a2 l2 c2 z2) :
  Calls Try.prog 33 #[.slice a1 l1 c1, .slice a2 l2 c2] w fun e w' => e = .returned (.bool (decide (z1 = z2))) ∧ ∃ n, w' = w.drewN n := by
 have m1 := h1.top; have m2 := h2.top; have s1 := h1.size; have s2 := h2.size; have e1 := h1.le; have e2 := h2.le
 unfold maxLen at m1 m2
 by_cases hl : l1 = l2
 ·subst hl
  by_cases h0 : l1 = 0
  ·subst h0
   have hz : z1 = z2 := by rw [List.eq_nil_of_length_eq_zero s1, List.eq_nil_of_length_eq_zero s2]
   go_enter Try.func33, Try.ntmps33
   go_wp2
   go_loop [5] (fun i => i = .int .i64 0) (fun _ => 0)
   case atStart => rfl
   case round =>
    subst hrel
    go_wp2
    go_ret
    exact ⟨by simp, 0, rfl⟩
  ·rcases h1.cell with h | ⟨b1, o1, rfl, g1⟩
   ·exact absurd h h0
   rcases h2.cell with h | ⟨b2, o2, rfl, g2⟩
   ·exact absurd h h0
   clear h1 h2
   have G1 : Hid (∀ i, i < l1 → w.cell? ⟨b1, o1 + i, none⟩ = some (.int .i64 (z1.getD i 0))) := g1
   have G2 : Hid (∀ i, i < l1 → w.cell? ⟨b2, o2 + i, none⟩ = some (.int .i64 (z2.getD i 0))) := g2
   clear g1 g2
   go_enter Try.func33, Try.ntmps33
   go_wp2
   go_loopw [5] (fun i wr => ∃ k : Nat, k ≤ l1 ∧ i = .int .i64 k ∧ z1.take k = z2.take k ∧ ∃ n, wr = w.drewN n) (fun i _ => l1 - (intOf i).toNat)
   case atStart => exact ⟨0, Nat.zero_le _, rfl, rfl, 0, rfl⟩
   case round =>
    obtain ⟨k, hk, rfl, ht, n, rfl⟩ := hrel
    have HT : Hid (z1.take k = z2.take k) := ht
    clear ht
    by_cases hlt : k < l1
    ·have c1 := G1.out k hlt
     have c2 := G2.out k hlt
     generalize hx : z1.getD k 0 = x at c1
     generalize hy : z2.getD k 0 = y at c2
     have HX : Hid (z1.getD k 0 = x) := hx
     have HY : Hid (z2.getD k 0 = y) := hy
     clear hx hy
     by_cases hq : x = y
     ·subst hq
      go_wp2
      go_quiet (fail)
      go_wp2
      go_roundw
      case rel => exact ⟨k + 1, by omega, by go_num, by rw [take_succ_getD _ _ (by omega), take_succ_getD _ _ (by omega), HT.out, HX.out, HY.out], _, rfl⟩
      case measure => simp [intOf]; omega
     ·have hne : (x != y) = true := by simp [hq]
      go_wp2
      go_quiet (fail)
      go_wp2
      go_ret
      exact ⟨ret_bool (decide_eq_false (ne_at k (by rw [HX.out, HY.out]; exact hq))).symm, _, World.drewN_drewN _ _ _⟩
    ·go_wp2
     go_ret
     have hk' : k = l1 := by omega
     exact ⟨ret_bool (decide_eq_true (eq_of_takes (by omega) (by rw [s1, ← hk']; exact HT.out))).symm, _, rfl⟩
 ·have hne : ((l1 : Int) != (l2 : Int)) = true := by simp; omega
  have hz : ¬ z1 = z2 := by intro e; rw [e] at s1; omega
  go_enter Try.func33, Try.ntmps33
  go_wp2
  go_ret
  exact ⟨ret_bool (decide_eq_false hz).symm, 0, rfl⟩

def halfI (zs : List Int) (n k : Nat) : List Value := cI (zs.take k) ++ List.replicate (n - k) (.int .i64 0)

theorem halfI_length (zs : List Int) (n k : Nat) (h : zs.length = n) (hk : k ≤ n) : (halfI zs n k).length = n := by
 simp [halfI, cI_length]; omega

theorem halfI_set (zs : List Int) (n k : Nat) (h : zs.length = n) (hk : k < n) : (halfI zs n k).set k (.int .i64 (zs.getD k 0)) = halfI zs n (k + 1) := by
 have hl : (cI (zs.take k)).length = k := by simp [cI_length]; omega
 unfold halfI
 rw [List.set_append_right _ _ (by omega), hl, Nat.sub_self, take_succ_getD _ _ (by omega), cI_append]
 obtain ⟨m, hm⟩ : ∃ m, n - k = m + 1 := ⟨n - k - 1, by omega⟩
 have hm' : n - (k + 1) = m := by omega
 rw [hm, hm', List.replicate_succ, List.set_cons_zero]
 simp [cI]

theorem halfI_all (zs : List Int) (n : Nat) (h : zs.length = n) : halfI zs n n = cI zs := by
 simp [halfI, ← h]

theorem halfI_none (zs : List Int) (n : Nat) : halfI zs n 0 = List.replicate n (.int .i64 0) := by
 simp [halfI, cI]

set_option maxRecDepth 100000 in
set_option maxHeartbeats 400000 in
theorem copyI_any (a1 : Option Addr) (l1 c1 : Nat) (z1 : List Int) (w : World) (h1 : IRow w a1 l1 c1 z1) (hs : l1 ≤ 16777216) :
  Calls Try.prog 29 #[.slice a1 l1 c1] w fun e w' => e = .returned (.slice (some ⟨w.heap.size, 0, none⟩) l1 l1) ∧
   w'.ownsRow w.heap.size 3 1 (.slice (some ⟨w.heap.size, 0, none⟩) l1 l1) l1 (cI z1) ∧ Below w.heap.size w w' := by
 obtain ⟨i0, hi, hz0, hz1, hz2⟩ := info_parts Try.infoI64
 have s1 := h1.size
 have hcell := h1.cell
 clear h1
 go_enter Try.func29, Try.ntmps29
 go_wp2_with (at_make; refine wpList_make_full _ rfl _ _ 25 rfl w.heap.size 3 i0 (.int .i64 0) 1 Try.underlying25 hi hz0 hz1 .i64 .i64 _ _ l1 rfl rfl rfl rfl ?c1 ?c2 ?c3 ?_)
 case c1 => rw [hz2]; omega
 case c2 => unfold maxLen; omega
 case c3 => exact Nat.le_refl _
 intro w1 hown hgrow
 have hb1 : Below w.heap.size w w1 := (Below.refl _ _).grown hgrow (Nat.le_refl _) (by intro k hk; cases hk)
 have hown1 : w1.ownsRow w.heap.size 3 1 (.slice (some ⟨w.heap.size, 0, none⟩) l1 l1) l1 (halfI z1 l1 0) := by
  rw [halfI_none, ← toList_madeCells_one]; simpa [Value.cells] using hown
 clear hown hgrow hi hz0 hz1 hz2
 go_wp2
 go_loopw [4] (fun i wr => ∃ k : Nat, k ≤ l1 ∧ i = .int .i64 k ∧ wr.ownsRow w.heap.size 3 1 (.slice (some ⟨w.heap.size, 0, none⟩) l1 l1) l1 (halfI z1 l1 k) ∧ Below w.heap.size w wr) (fun i _ => l1 - (intOf i).toNat)
 case atStart => exact ⟨0, Nat.zero_le _, rfl, hown1, hb1⟩
 case round =>
  obtain ⟨k, hk, rfl, hown, hb⟩ := hrel
  by_cases hlt : k < l1
  ·rcases hcell with h0 | ⟨b, off, rfl, hc⟩
   ·omega
   have cx : wr.cell? ⟨b, off + k, none⟩ = some (.int .i64 (z1.getD k 0)) := by rw [hb.cell (block_lt (hc k hlt))]; exact hc k hlt
   have cf := hown.frozenAt k
   have cc : ∃ u, wr.cell? ⟨w.heap.size, k, none⟩ = some u := by
    rw [hown.cellAt k (by omega)]
    exact ⟨_, List.getElem?_eq_getElem (by rw [halfI_length _ _ _ s1 (by omega)]; exact hlt)⟩
   obtain ⟨u, cu⟩ := cc
   have R := hown.stored k (.int .i64 (z1.getD k 0))
   rw [halfI_set _ _ _ s1 hlt] at R
   have hb' := hb.setCell (p := ⟨w.heap.size, k, none⟩) (Nat.le_refl _) (.int .i64 (z1.getD k 0))
   have HR := R.1
   generalize hx : z1.getD k 0 = x at cx HR hb'
   have HX : Hid (z1.getD k 0 = x) := hx
   clear hx hc hown R hb hb1 hown1
   go_wp2
   go_roundw
   case rel => exact ⟨k + 1, by omega, by go_num, HR, hb'⟩
   case measure => simp [intOf]; omega
  ·have hk' : k = l1 := by omega
   subst hk'
   rw [halfI_all _ _ s1] at hown
   go_wp2
   go_ret
   exact ⟨rfl, hown, hb⟩

theorem eqI_same (a1 : Option Addr) (l1 c1 : Nat) (a2 : Option Addr) (l2 c2 : Nat) (zs : List Int) (w : World) (h1 : IRow w a1 l1 c1 zs) (h2 : IRow w a2 l2 c2 zs) :
  Calls Try.prog 33 #[.slice a1 l1 c1, .slice a2 l2 c2] w fun e w' => e = .returned (.bool true) ∧ ∃ n, w' = w.drewN n := by
 refine (eqI_any a1 l1 c1 zs a2 l2 c2 zs w h1 h2).mono ?_
 rintro e w' ⟨rfl, n, rfl⟩
 exact ⟨by simp, n, rfl⟩

theorem irow_own {w : World} {base : Nat} {ao : Option Addr} {n cap : Nat} {zs : List Int} (h : w.ownsRow base 3 1 (.slice ao n cap) n (cI zs)) (hz : I64s zs) : IRow w ao n cap zs := by
 obtain ⟨ao', cap', e, hr⟩ := irow_of_own h hz
 cases e
 exact hr

theorem copyI_made (a1 : Option Addr) (l1 c1 : Nat) (z1 : List Int) (w : World) (h1 : IRow w a1 l1 c1 z1) (hs : l1 ≤ 16777216) :
  Calls Try.prog 29 #[.slice a1 l1 c1] w fun e w' => ∃ ao cap, e = .returned (.slice ao l1 cap) ∧
   w'.ownsRow w.heap.size 3 1 (.slice ao l1 cap) l1 (cI z1) ∧ IRow w' ao l1 cap z1 ∧ Below w.heap.size w w' := by
 refine (copyI_any a1 l1 c1 z1 w h1 hs).mono ?_
 rintro e w' ⟨rfl, ho, hb⟩
 exact ⟨_, _, rfl, ho, irow_own ho h1.byte, hb⟩

def vrowF : Flat VR where
 k := 3
 cs := fun e => [.int .i64 e.i, .int .i64 e.m, .int .i64 e.b]
 len := fun _ => rfl
 pos := by decide
 one := fun _ v hv => by
  simp only [List.mem_cons, List.not_mem_nil, or_false] at hv
  rcases hv with rfl | rfl | rfl <;> rfl

theorem vrow_at {w : World} {ao : Option Addr} {len cap : Nat} {l : List VR} (h : GRow vrowF w ao len cap l) (i : Nat) (hi : i < len) : ∃ (x : VR) (b off : Nat), l[i]? = some x ∧ ao = some ⟨b, off, none⟩ ∧
  w.cell? ⟨b, off + i * 3, none⟩ = some (.int .i64 x.i) ∧ w.cell? ⟨b, off + i * 3 + 1, none⟩ = some (.int .i64 x.m) ∧ w.cell? ⟨b, off + i * 3 + 2, none⟩ = some (.int .i64 x.b) := by
 obtain ⟨x, b, off, hx, ha, hc⟩ := h.at i hi
 exact ⟨x, b, off, hx, ha, hc 0 _ rfl, hc 1 _ rfl, hc 2 _ rfl⟩

structure VTab (w : World) (a : Option Addr) (n c : Nat) (o : Option Addr) (p q : Nat) (v : VT) : Prop where
 rows : GRow vrowF w a n c v.rows
 own : IRow w o p q v.own

theorem VTab.below {w w' : World} {a : Option Addr} {n c : Nat} {o : Option Addr} {p q : Nat} {v : VT} (h : VTab w a n c o p q v) (hb : Below w.heap.size w w') : VTab w' a n c o p q v :=
 ⟨h.rows.below hb, h.own.below hb⟩

structure BR where
 id : Int
 name : ByteArray
 ports : List PT
 f : List FE
 v : VT
 ticks : Int
 parse : Int
 word : Int
 drops : Int
 vers : Int

structure BrRow (w : World) (a : Option Addr) (n c : Nat) (fa : Option Addr) (fn fc : Nat) (ra : Option Addr) (rn rc : Nat) (oa : Option Addr) (on oc : Nat) (b : BR) : Prop where
 ports : GRow ptF w a n c b.ports
 f : GRow fentF w fa fn fc b.f
 v : VTab w ra rn rc oa on oc b.v

theorem BrRow.below {w w' : World} {a : Option Addr} {n c : Nat} {fa : Option Addr} {fn fc : Nat} {ra : Option Addr} {rn rc : Nat} {oa : Option Addr} {on oc : Nat} {b : BR} (h : BrRow w a n c fa fn fc ra rn rc oa on oc b) (hb : Below w.heap.size w w') : BrRow w' a n c fa fn fc ra rn rc oa on oc b :=
 ⟨h.ports.below hb, h.f.below hb, h.v.below hb⟩

theorem cells8 {w : World} {g : Nat} {T : TypeId} {c0 c1 c2 c3 c4 c5 c6 c7 : Value} (h : w.heap[g]? = some (.cells #[c0, c1, c2, c3, c4, c5, c6, c7] T)) :
  w.cell? ⟨g, 0, none⟩ = some c0 ∧ w.cell? ⟨g, 1, none⟩ = some c1 ∧ w.cell? ⟨g, 2, none⟩ = some c2 ∧ w.cell? ⟨g, 3, none⟩ = some c3 ∧ w.cell? ⟨g, 4, none⟩ = some c4 ∧ w.cell? ⟨g, 5, none⟩ = some c5 ∧ w.cell? ⟨g, 6, none⟩ = some c6 ∧ w.cell? ⟨g, 7, none⟩ = some c7 := by
 simp [World.cell?, h]

theorem frozen8 {w : World} {g : Nat} {T : TypeId} {cs : Array Value} (h : w.heap[g]? = some (.cells cs T)) (j : Nat) : w.frozen? ⟨g, j, none⟩ = false := by
 simp [World.frozen?, h]

set_option maxRecDepth 100000 in
set_option maxHeartbeats 2000000 in
theorem toPt_made (x : PT) (w : World) :
  Calls Try.prog 26 #[.agg #[.bool x.up, .int .i64 x.k, .bool x.has, .int .i64 x.v.r, .int .i64 x.v.c, .int .i64 x.v.h, .int .i64 x.v.b, .int .i64 x.v.p]] w fun r w' => r = .returned (.agg #[.bool x.up, .int .i64 x.k, .bool x.has, .int .i64 x.v.r, .int .i64 x.v.c, .int .i64 x.v.h, .int .i64 x.v.b, .int .i64 x.v.p]) ∧ Below w.heap.size w w' := by
 go_enter Try.func26, Try.ntmps26
 go_wp2_with fail
 refine (toVec_made x.v.r x.v.c x.v.h x.v.b x.v.p _).mono ?_
 rintro e w2 ⟨rfl, hb2⟩
 obtain ⟨-, k1, k2⟩ := kept_three hb2
 have HB0 := hide (gr_trans (below_three w _ _ _) hb2)
 clear hb2
 obtain ⟨d0, d1, d2, d3, d4, d5, d6, d7⟩ := cells8 k2
 obtain ⟨e0, e1, e2, e3, e4, e5, e6, e7⟩ := cells8 k1
 have fr : ∀ j, w2.frozen? ⟨w.heap.size + 1 + 1, j, none⟩ = false := fun j => by simp [World.frozen?, k2]
 have gr : ∀ j, w2.frozen? ⟨w.heap.size + 1, j, none⟩ = false := fun j => by simp [World.frozen?, k1]
 have f3 := fr 3
 have f4 := fr 4
 have f5 := fr 5
 have f6 := fr 6
 have f7 := fr 7
 have g0 := gr 0
 have g1 := gr 1
 have g2 := gr 2
 have g3 := gr 3
 have g4 := gr 4
 have g5 := gr 5
 have g6 := gr 6
 have g7 := gr 7
 have ne1 : ¬ w.heap.size + 1 = w.heap.size + 1 + 1 := by omega
 have ne2 : ¬ w.heap.size + 1 + 1 = w.heap.size + 1 := by omega
 have HB := hide (below_set (below_set (below_set (below_set (below_set (below_set (below_set (below_set (below_set (below_set (below_set (below_set (below_set HB0.out (g := w.heap.size + 1 + 1) (by omega) 3 (.int .i64 x.v.r)) (g := w.heap.size + 1 + 1) (by omega) 4 (.int .i64 x.v.c)) (g := w.heap.size + 1 + 1) (by omega) 5 (.int .i64 x.v.h)) (g := w.heap.size + 1 + 1) (by omega) 6 (.int .i64 x.v.b)) (g := w.heap.size + 1 + 1) (by omega) 7 (.int .i64 x.v.p)) (g := w.heap.size + 1) (by omega) 0 (.bool x.up)) (g := w.heap.size + 1) (by omega) 1 (.int .i64 x.k)) (g := w.heap.size + 1) (by omega) 2 (.bool x.has)) (g := w.heap.size + 1) (by omega) 3 (.int .i64 x.v.r)) (g := w.heap.size + 1) (by omega) 4 (.int .i64 x.v.c)) (g := w.heap.size + 1) (by omega) 5 (.int .i64 x.v.h)) (g := w.heap.size + 1) (by omega) 6 (.int .i64 x.v.b)) (g := w.heap.size + 1) (by omega) 7 (.int .i64 x.v.p))
 clear fr gr k1 k2
 go_wp2
 exact bodyPost_ret (v := .agg #[.bool x.up, .int .i64 x.k, .bool x.has, .int .i64 x.v.r, .int .i64 x.v.c, .int .i64 x.v.h, .int .i64 x.v.b, .int .i64 x.v.p]) (by simp [results, Try.results26, go_sem, *]) rfl ⟨rfl, HB.out⟩

theorem ptInfoH : (Try.prog.info? 48).map (fun i => (i.zero, i.size, i.bytes)) = some (some (.agg #[.bool false, .int .i64 0, .bool false, .int .i64 0, .int .i64 0, .int .i64 0, .int .i64 0, .int .i64 0]), 8, 64) := by kernel_rfl

def PT.zero : PT := ⟨false, 0, false, ⟨0, 0, 0, 0, 0⟩⟩

theorem at8h {w w' : World} {b off n cap : Nat} {l : List PT} (h : GRow ptF w (some ⟨b, off, none⟩) n cap l) (hb : Below w.heap.size w w') {i : Nat} {x : PT} (hx : l[i]? = some x) :
  w'.cell? ⟨b, off + i * 8, none⟩ = some (.bool x.up) ∧ w'.cell? ⟨b, off + i * 8 + 1, none⟩ = some (.int .i64 x.k) ∧ w'.cell? ⟨b, off + i * 8 + 2, none⟩ = some (.bool x.has) ∧ w'.cell? ⟨b, off + i * 8 + 3, none⟩ = some (.int .i64 x.v.r) ∧ w'.cell? ⟨b, off + i * 8 + 4, none⟩ = some (.int .i64 x.v.c) ∧ w'.cell? ⟨b, off + i * 8 + 5, none⟩ = some (.int .i64 x.v.h) ∧ w'.cell? ⟨b, off + i * 8 + 6, none⟩ = some (.int .i64 x.v.b) ∧ w'.cell? ⟨b, off + i * 8 + 7, none⟩ = some (.int .i64 x.v.p) := by
 have hi : i < n := by
  have := (List.getElem?_eq_some_iff.1 hx).1
  have := h.size
  omega
 obtain ⟨y, b', off', hy, e, c⟩ := pt_at (h.below hb) i hi
 cases e
 rw [hx] at hy
 cases hy
 exact c

theorem pt_put {w : World} {base g n cap : Nat} {pre post : List PT} {x y : PT} (h : w.ownsRow base 48 8 (.slice (some ⟨g, 0, none⟩) n cap) n (ptF.all (pre ++ x :: post))) :
  ((((((((w.setCell ⟨g, pre.length * 8, none⟩ (.bool y.up)).setCell ⟨g, pre.length * 8 + 1, none⟩ (.int .i64 y.k)).setCell ⟨g, pre.length * 8 + 2, none⟩ (.bool y.has)).setCell ⟨g, pre.length * 8 + 3, none⟩ (.int .i64 y.v.r)).setCell ⟨g, pre.length * 8 + 4, none⟩ (.int .i64 y.v.c)).setCell ⟨g, pre.length * 8 + 5, none⟩ (.int .i64 y.v.h)).setCell ⟨g, pre.length * 8 + 6, none⟩ (.int .i64 y.v.b)).setCell ⟨g, pre.length * 8 + 7, none⟩ (.int .i64 y.v.p)).ownsRow base 48 8 (.slice (some ⟨g, 0, none⟩) n cap) n (ptF.all (pre ++ y :: post)) := by
 have R0 := flat_stored (F := ptF) (x' := ⟨y.up, x.k, x.has, ⟨x.v.r, x.v.c, x.v.h, x.v.b, x.v.p⟩⟩) h 0 (.bool y.up) (by decide) rfl
 have R1 := flat_stored (F := ptF) (x' := ⟨y.up, y.k, x.has, ⟨x.v.r, x.v.c, x.v.h, x.v.b, x.v.p⟩⟩) R0 1 (.int .i64 y.k) (by decide) rfl
 have R2 := flat_stored (F := ptF) (x' := ⟨y.up, y.k, y.has, ⟨x.v.r, x.v.c, x.v.h, x.v.b, x.v.p⟩⟩) R1 2 (.bool y.has) (by decide) rfl
 have R3 := flat_stored (F := ptF) (x' := ⟨y.up, y.k, y.has, ⟨y.v.r, x.v.c, x.v.h, x.v.b, x.v.p⟩⟩) R2 3 (.int .i64 y.v.r) (by decide) rfl
 have R4 := flat_stored (F := ptF) (x' := ⟨y.up, y.k, y.has, ⟨y.v.r, y.v.c, x.v.h, x.v.b, x.v.p⟩⟩) R3 4 (.int .i64 y.v.c) (by decide) rfl
 have R5 := flat_stored (F := ptF) (x' := ⟨y.up, y.k, y.has, ⟨y.v.r, y.v.c, y.v.h, x.v.b, x.v.p⟩⟩) R4 5 (.int .i64 y.v.h) (by decide) rfl
 have R6 := flat_stored (F := ptF) (x' := ⟨y.up, y.k, y.has, ⟨y.v.r, y.v.c, y.v.h, y.v.b, x.v.p⟩⟩) R5 6 (.int .i64 y.v.b) (by decide) rfl
 exact flat_stored (F := ptF) (x' := y) R6 7 (.int .i64 y.v.p) (by decide) rfl

theorem grown_set8 {w : World} {g : Nat} (j0 j1 j2 j3 j4 j5 j6 j7 : Nat) (u0 u1 u2 u3 u4 u5 u6 u7 : Value) : w.grownBy ((((((((w.setCell ⟨g, j0, none⟩ u0).setCell ⟨g, j1, none⟩ u1).setCell ⟨g, j2, none⟩ u2).setCell ⟨g, j3, none⟩ u3).setCell ⟨g, j4, none⟩ u4).setCell ⟨g, j5, none⟩ u5).setCell ⟨g, j6, none⟩ u6).setCell ⟨g, j7, none⟩ u7) (some g) :=
 grownTr (grownTr (grownTr (grownTr (grownTr (grownTr (grownTr (grown_set _ _) (grown_set _ _)) (grown_set _ _)) (grown_set _ _)) (grown_set _ _)) (grown_set _ _)) (grown_set _ _)) (grown_set _ _)

theorem pt_cells {w : World} {base g n cap : Nat} {T : TypeId} {l : List PT} (h : w.ownsRow base T 8 (.slice (some ⟨g, 0, none⟩) n cap) n (ptF.all l)) {i : Nat} {x : PT} (hx : l[i]? = some x) :
  (w.cell? ⟨g, i * 8, none⟩ = some (.bool x.up) ∧ w.cell? ⟨g, i * 8 + 1, none⟩ = some (.int .i64 x.k) ∧ w.cell? ⟨g, i * 8 + 2, none⟩ = some (.bool x.has) ∧ w.cell? ⟨g, i * 8 + 3, none⟩ = some (.int .i64 x.v.r) ∧ w.cell? ⟨g, i * 8 + 4, none⟩ = some (.int .i64 x.v.c) ∧ w.cell? ⟨g, i * 8 + 5, none⟩ = some (.int .i64 x.v.h) ∧ w.cell? ⟨g, i * 8 + 6, none⟩ = some (.int .i64 x.v.b) ∧ w.cell? ⟨g, i * 8 + 7, none⟩ = some (.int .i64 x.v.p)) ∧
  (w.frozen? ⟨g, i * 8, none⟩ = false ∧ w.frozen? ⟨g, i * 8 + 1, none⟩ = false ∧ w.frozen? ⟨g, i * 8 + 2, none⟩ = false ∧ w.frozen? ⟨g, i * 8 + 3, none⟩ = false ∧ w.frozen? ⟨g, i * 8 + 4, none⟩ = false ∧ w.frozen? ⟨g, i * 8 + 5, none⟩ = false ∧ w.frozen? ⟨g, i * 8 + 6, none⟩ = false ∧ w.frozen? ⟨g, i * 8 + 7, none⟩ = false) := by
 have c0 := flat_cells (F := ptF) h hx (j := 0) (v := .bool x.up) rfl
 have c1 := flat_cells (F := ptF) h hx (j := 1) (v := .int .i64 x.k) rfl
 have c2 := flat_cells (F := ptF) h hx (j := 2) (v := .bool x.has) rfl
 have c3 := flat_cells (F := ptF) h hx (j := 3) (v := .int .i64 x.v.r) rfl
 have c4 := flat_cells (F := ptF) h hx (j := 4) (v := .int .i64 x.v.c) rfl
 have c5 := flat_cells (F := ptF) h hx (j := 5) (v := .int .i64 x.v.h) rfl
 have c6 := flat_cells (F := ptF) h hx (j := 6) (v := .int .i64 x.v.b) rfl
 have c7 := flat_cells (F := ptF) h hx (j := 7) (v := .int .i64 x.v.p) rfl
 exact ⟨⟨c0.1, c1.1, c2.1, c3.1, c4.1, c5.1, c6.1, c7.1⟩, c0.2, c1.2, c2.2, c3.2, c4.2, c5.2, c6.2, c7.2⟩

set_option maxRecDepth 100000 in
set_option maxHeartbeats 4000000 in
theorem toPts_made (ao : Option Addr) (n c : Nat) (l : List PT) (w : World) (hl : GRow ptF w ao n c l) (hs : n ≤ 1048576) :
  Calls Try.prog 13 #[.slice ao n c] w fun r w' => ∃ ao' cap, r = .returned (.slice ao' n cap) ∧ w'.ownsRow w.heap.size 48 8 (.slice ao' n cap) n (ptF.all l) ∧ GRow ptF w' ao' n cap l ∧ Below w.heap.size w w' := by
 obtain ⟨i0, hi, hz0, hz1, hz2⟩ := finfo_parts ptInfoH
 have s1 := hl.size
 go_enter Try.func13, Try.ntmps13
 go_wp2_with (at_make; refine wpList_make_full _ rfl _ _ 32 rfl w.heap.size 48 i0 (.agg #[.bool false, .int .i64 0, .bool false, .int .i64 0, .int .i64 0, .int .i64 0, .int .i64 0, .int .i64 0]) 8 Try.underlying32 hi hz0 hz1 .i64 .i64 _ _ n rfl rfl rfl rfl ?c1 ?c2 ?c3 ?_)
 case c1 => rw [hz2]; omega
 case c2 => unfold maxLen; omega
 case c3 => exact Nat.le_refl _
 intro w1 hown hgrow
 have hb1 : Below w.heap.size w w1 := (Below.refl _ _).grown hgrow (Nat.le_refl _) (by intro k hk; cases hk)
 have hown1 : w1.ownsRow w.heap.size 48 8 (.slice (some ⟨w.heap.size, 0, none⟩) n n) n (ptF.all (l.take 0 ++ List.replicate (n - 0) PT.zero)) := by
  rw [List.take_zero, List.nil_append, Nat.sub_zero, ← flat_made]; exact hown
 clear hown hgrow hi hz0 hz1 hz2
 go_wp2
 go_loopw [4] (fun i wr => ∃ k : Nat, k ≤ n ∧ i = .int .i64 k ∧ wr.ownsRow w.heap.size 48 8 (.slice (some ⟨w.heap.size, 0, none⟩) n n) n (ptF.all (l.take k ++ List.replicate (n - k) PT.zero)) ∧ Below w.heap.size w wr) (fun i _ => n - (intOf i).toNat)
 case atStart => exact ⟨0, Nat.zero_le _, rfl, hown1, hb1⟩
 case round =>
  obtain ⟨k, hk, rfl, ho, hb⟩ := hrel
  clear hown1 hb1
  by_cases hlt : k < n
  ·obtain ⟨x, b, off, hx, rfl, a0, a1, a2, a3, a4, a5, a6, a7⟩ := pt_at (hl.below hb) k hlt
   have hrep : List.replicate (n - k) PT.zero = PT.zero :: List.replicate (n - (k + 1)) PT.zero := by rw [← List.replicate_succ]; congr 1; omega
   have hlk : (l.take k).length = k := by rw [List.length_take]; omega
   rw [hrep] at ho
   have htk : l.take (k + 1) = l.take k ++ [x] := by rw [List.take_add_one, hx]; rfl
   have HTK := hide htk
   have HB := hide hb
   have HO := hide ho
   have HX := hide hx
   clear hb ho htk hx
   go_wp2_with fail
   refine (toPt_made x _).mono ?_
   rintro r w2 ⟨rfl, hb2⟩
   have ho2 := gown_below HO.out hb2
   have hz : (l.take k ++ PT.zero :: List.replicate (n - (k + 1)) PT.zero)[k]? = some PT.zero := by rw [List.getElem?_append_right (by omega), hlk, Nat.sub_self]; rfl
   obtain ⟨⟨t0, t1, t2, t3, t4, t5, t6, t7⟩, f0, f1, f2, f3, f4, f5, f6, f7⟩ := pt_cells ho2 hz
   have o3 := pt_put (y := x) ho2
   rw [hlk] at o3
   have HO3 := hide o3
   have hb3 := gr_trans HB.out hb2
   have HB3 := hide (hb3.grown (grown_set8 (w := w2) (g := w.heap.size) (k * 8) (k * 8 + 1) (k * 8 + 2) (k * 8 + 3) (k * 8 + 4) (k * 8 + 5) (k * 8 + 6) (k * 8 + 7) (.bool x.up) (.int .i64 x.k) (.bool x.has) (.int .i64 x.v.r) (.int .i64 x.v.c) (.int .i64 x.v.h) (.int .i64 x.v.b) (.int .i64 x.v.p)) hb3.size (by intro j e; cases e; exact Nat.le_refl _))
   clear ho2 hb2 hb3 o3 hz a0 a1 a2 a3 a4 a5 a6 a7
   go_wp2
   go_roundw
   case rel => exact ⟨k + 1, by omega, by go_num, by rw [HTK.out, List.append_assoc]; exact HO3.out, HB3.out⟩
   case measure => simp [intOf]; omega
  ·have hkn : k = n := by omega
   subst hkn
   rw [Nat.sub_self, List.take_of_length_le (by omega), List.replicate_zero, List.append_nil] at ho
   have HO := hide ho
   have HR := hide (grow_own ho)
   have HB := hide hb
   clear ho hb
   go_wp2
   go_ret
   exact ⟨_, _, rfl, HO.out, HR.out, HB.out⟩

set_option maxRecDepth 100000 in
set_option maxHeartbeats 2000000 in
theorem eqPt_same (x : PT) (w : World) :
  Calls Try.prog 30 #[.agg #[.bool x.up, .int .i64 x.k, .bool x.has, .int .i64 x.v.r, .int .i64 x.v.c, .int .i64 x.v.h, .int .i64 x.v.b, .int .i64 x.v.p], .agg #[.bool x.up, .int .i64 x.k, .bool x.has, .int .i64 x.v.r, .int .i64 x.v.c, .int .i64 x.v.h, .int .i64 x.v.b, .int .i64 x.v.p]] w fun r w' => r = .returned (.bool true) ∧ Below w.heap.size w w' := by
 go_enter Try.func30, Try.ntmps30
 go_wp2_with fail
 refine (eqVec_same x.v.r x.v.c x.v.h x.v.b x.v.p _).mono ?_
 rintro e w2 ⟨rfl, hb2⟩
 have HB := hide (gr_trans (below_two _ _ _) hb2)
 clear hb2
 go_wp2
 go_ret
 exact ⟨rfl, HB.out⟩

set_option maxRecDepth 100000 in
set_option maxHeartbeats 400000 in
theorem szPts_any (ao : Option Addr) (n c : Nat) (left : Int) (w : World) (hl : n ≤ maxLen) (h0 : 0 ≤ left) (h1 : left ≤ 1048576) :
  Calls Try.prog 9 #[.slice ao n c, .int .i64 left] w fun r w' => r = .returned (.int .i64 (if (n : Int) ≤ left then left - n else -1)) ∧ w' = w := by
 unfold maxLen at hl
 go_enter Try.func9, Try.ntmps9
 go_wp2
 all_goals go_ret
 all_goals exact ⟨rfl, rfl⟩

set_option maxRecDepth 100000 in
set_option maxHeartbeats 4000000 in
theorem eqPts_same (ao : Option Addr) (n c : Nat) (ao' : Option Addr) (n' c' : Nat) (l : List PT) (w : World) (hl : GRow ptF w ao n c l) (hl' : GRow ptF w ao' n' c' l) :
  Calls Try.prog 21 #[.slice ao n c, .slice ao' n' c'] w fun r w' => r = .returned (.bool true) ∧ Below w.heap.size w w' := by
 have hs := hl.size
 have hs' := hl'.size
 have htop := Nat.le_trans hl.le hl.top
 unfold maxLen at htop
 have hnn : n' = n := by omega
 subst hnn
 go_enter Try.func21, Try.ntmps21
 go_wp2
 go_loopw [5] (fun i wr => ∃ k : Nat, k ≤ n' ∧ i = .int .i64 k ∧ Below w.heap.size w wr) (fun i _ => n' - (intOf i).toNat)
 case atStart => exact ⟨0, Nat.zero_le _, rfl, Below.refl _ _⟩
 case round =>
  obtain ⟨k, hk, rfl, hb⟩ := hrel
  by_cases hlt : k < n'
  ·obtain ⟨x, b, off, hx, rfl, a0, a1, a2, a3, a4, a5, a6, a7⟩ := pt_at (hl.below hb) k hlt
   obtain ⟨y, b', off', hy, rfl, e0, e1, e2, e3, e4, e5, e6, e7⟩ := pt_at (hl'.below hb) k hlt
   rw [hx] at hy
   cases hy
   have CX : Hid (∀ W, Below wr.heap.size wr W → _ ∧ _) := fun W h => ⟨at8h (hl.below hb) h hx, at8h (hl'.below hb) h hx⟩
   have HB := hide hb
   clear hb
   go_wp2_with fail
   go_region_held3 (fun W => (W.cell? ⟨b, off + k * 8, none⟩ = some (.bool x.up) ∧ W.cell? ⟨b, off + k * 8 + 1, none⟩ = some (.int .i64 x.k) ∧ W.cell? ⟨b, off + k * 8 + 2, none⟩ = some (.bool x.has) ∧ W.cell? ⟨b, off + k * 8 + 3, none⟩ = some (.int .i64 x.v.r) ∧ W.cell? ⟨b, off + k * 8 + 4, none⟩ = some (.int .i64 x.v.c) ∧ W.cell? ⟨b, off + k * 8 + 5, none⟩ = some (.int .i64 x.v.h) ∧ W.cell? ⟨b, off + k * 8 + 6, none⟩ = some (.int .i64 x.v.b) ∧ W.cell? ⟨b, off + k * 8 + 7, none⟩ = some (.int .i64 x.v.p)) ∧ (W.cell? ⟨b', off' + k * 8, none⟩ = some (.bool x.up) ∧ W.cell? ⟨b', off' + k * 8 + 1, none⟩ = some (.int .i64 x.k) ∧ W.cell? ⟨b', off' + k * 8 + 2, none⟩ = some (.bool x.has) ∧ W.cell? ⟨b', off' + k * 8 + 3, none⟩ = some (.int .i64 x.v.r) ∧ W.cell? ⟨b', off' + k * 8 + 4, none⟩ = some (.int .i64 x.v.c) ∧ W.cell? ⟨b', off' + k * 8 + 5, none⟩ = some (.int .i64 x.v.h) ∧ W.cell? ⟨b', off' + k * 8 + 6, none⟩ = some (.int .i64 x.v.b) ∧ W.cell? ⟨b', off' + k * 8 + 7, none⟩ = some (.int .i64 x.v.p))) (first | exact CX.out _ u1 | go_keep) (first
    | (go_at_call 30; refine (eqPt_same x _).mono ?_; rintro r w1 ⟨rfl, hb1⟩; have u1 : Below wr.heap.size wr w1 := undrew hb1))
   have b1 := gr_trans HB.out u1
   clear u1 hb1 a0 a1 a2 a3 a4 a5 a6 a7 e0 e1 e2 e3 e4 e5 e6 e7
   go_wp2
   go_roundw
   case rel => exact ⟨k + 1, by omega, by go_num, b1⟩
   case measure => simp [intOf]; omega
  ·have hk' : k = n' := by omega
   subst hk'
   go_wp2
   go_ret
   exact ⟨rfl, hb⟩

end Go.Proofs.Ytfefhilolhdonab
