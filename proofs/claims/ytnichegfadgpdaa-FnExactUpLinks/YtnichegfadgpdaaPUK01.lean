/-
  Packed: Base Help Mem Flat FlatOwn VecHelp Num VecMath FrameHelp PtMem FdbMath FentMem VtabMath IBase IHelp VrowMem BrMem BrLie NetMem.
-/
import Derived.Test.YtnichegfadgpdaaRows
import Derived.WalkKit
import Derived.WalkSpells
import Derived.WalkLawsBesides
import Derived.Deep.QuietTactic
import Derived.BigQuiet
import Derived.Laws.AppendOwnNone
import Derived.Deep.RegionWith
import Derived.Deep.RegionLaw
import Derived.Deep.RegionHeld
import Derived.Lib.SmallJoins
namespace Go.Proofs.Ytnichegfadgpdaa
open Go.RowKit

theorem lA {α : Type} (l : List α) (i : Nat) (a : α) : l.toArray.setIfInBounds i a = (l.set i a).toArray := List.setIfInBounds_toArray ..

theorem lB {α : Type} (a b : α) (l : List α) : (a :: l).set 0 b = b :: l := List.set_cons_zero

theorem lC {α : Type} (a b : α) (l : List α) (n : Nat) : (a :: l).set (n + 1) b = a :: l.set n b := List.set_cons_succ

def cB (zs : List Int) : List Value := zs.map (Value.int .u8)

def Byt (zs : List Int) : Prop := ∀ z ∈ zs, 0 ≤ z ∧ z ≤ 255

theorem cB_length (zs : List Int) : (cB zs).length = zs.length := by simp [cB]
theorem cB_append (a b : List Int) : cB (a ++ b) = cB a ++ cB b := by simp [cB]
theorem cB_get (zs : List Int) (j : Nat) (h : j < zs.length) : (cB zs)[j]? = some (.int .u8 (zs.getD j 0)) := by
 simp [cB, List.getElem?_map, List.getElem?_eq_getElem h]

structure Row (w : World) (ao : Option Addr) (len cap : Nat) (zs : List Int) : Prop where
 size : zs.length = len
 le : len ≤ cap
 top : cap ≤ maxLen
 nil : ao = none → cap = 0
 byte : Byt zs
 cell : len = 0 ∨ ∃ b off, ao = some ⟨b, off, none⟩ ∧ ∀ i, i < len → w.cell? ⟨b, off + i, none⟩ = some (.int .u8 (zs.getD i 0))

theorem block_lt {w : World} {a : Addr} {v : Value} (h : w.cell? a = some v) : a.block < w.heap.size := by
 unfold World.cell? at h
 by_cases hb : a.block < w.heap.size
 ·exact hb
 ·rw [Array.getElem?_eq_none (by omega)] at h
  simp at h

theorem Row.below {w w' : World} {ao : Option Addr} {len cap : Nat} {zs : List Int} (h : Row w ao len cap zs) (hb : Below w.heap.size w w') : Row w' ao len cap zs where
 size := h.size
 le := h.le
 top := h.top
 nil := h.nil
 byte := h.byte
 cell := by
  rcases h.cell with h0 | ⟨b, off, ha, hc⟩
  ·exact .inl h0
  ·exact .inr ⟨b, off, ha, fun i hi => by rw [hb.cell (block_lt (hc i hi))]; exact hc i hi⟩

theorem below_drewN {B : Nat} {a w : World} (h : Below B a w) (n : Nat) : Below B a (w.drewN n) :=
 ⟨h.os, h.tape, h.output, h.size, h.block⟩

theorem add_none (b off j : Nat) : (⟨b, off, none⟩ : Addr).add j = ⟨b, off + j, none⟩ := by
 by_cases h : j = 0 <;> simp [Addr.add, h]

theorem Row.news {w : World} {ao : Option Addr} {len cap : Nat} {zs : List Int} (h : Row w ao len cap zs) (ad : Addr) (ha : ao = some ad) (j : Nat) (u : Value) (hu : (cB zs)[j]? = some u) : w.cell? (ad.add j) = some u := by
 have hj : j < zs.length := by
  by_cases hlt : j < zs.length
  ·exact hlt
  ·rw [List.getElem?_eq_none (by rw [cB_length]; omega)] at hu
   cases hu
 rw [cB_get _ _ hj] at hu
 rcases h.cell with h0 | ⟨b, off, hb, hc⟩
 ·have := h.size; omega
 ·rw [ha] at hb
  cases hb
  rw [← hu]
  rw [add_none]; exact hc j (by have := h.size; omega)

theorem Row.none_zero {w : World} {ao : Option Addr} {len cap : Nat} {zs : List Int} (h : Row w ao len cap zs) (ha : ao = none) : len = 0 ∧ cap = 0 := by
 have := h.nil ha; have := h.le; omega

theorem hide {p : Prop} (h : p) : Hid p := h

theorem getD_byte {zs : List Int} (h : Byt zs) (j : Nat) : 0 ≤ zs.getD j 0 ∧ zs.getD j 0 ≤ 255 := by
 by_cases hj : j < zs.length
 ·rw [List.getD_eq_getElem?_getD, List.getElem?_eq_getElem hj]; exact h _ (List.getElem_mem hj)
 ·rw [List.getD_eq_getElem?_getD, List.getElem?_eq_none (by omega)]; simp

theorem Row.at {w : World} {ao : Option Addr} {len cap : Nat} {zs : List Int} (h : Row w ao len cap zs) (hp : 0 < len) : ∃ b off, ao = some ⟨b, off, none⟩ ∧ ∀ i, i < len → w.cell? ⟨b, off + i, none⟩ = some (.int .u8 (zs.getD i 0)) := by
 rcases h.cell with h0 | h0
 ·omega
 ·exact h0

theorem Byt.at {zs : List Int} (h : Byt zs) (j : Nat) : 0 ≤ zs.getD j 0 ∧ zs.getD j 0 ≤ 255 := getD_byte h j

theorem take_succ_getD (l : List Int) (k : Nat) (h : k < l.length) : l.take (k + 1) = l.take k ++ [l.getD k 0] := by
 rw [List.take_succ_eq_append_getElem h]; simp [h]

theorem eq_of_takes {a b : List Int} (hl : a.length = b.length) (h : a.take a.length = b.take a.length) : a = b := by
 rw [List.take_length, hl, List.take_length] at h; exact h

theorem ne_at {a b : List Int} (k : Nat) (h : ¬ a.getD k 0 = b.getD k 0) : ¬ a = b := by
 intro e; exact h (by rw [e])

theorem ret_bool {a b : Bool} (h : a = b) : Ending.returned (.bool a) = .returned (.bool b) := by rw [h]
theorem ret_int {k : IntKind} {a b : Int} (h : a = b) : Ending.returned (.int k a) = .returned (.int k b) := by rw [h]

theorem grown_setCell {w0 w : World} {g : Nat} (h : w0.grownBy w (some g)) (j : Nat) (u : Value) : w0.grownBy (w.setCell ⟨g, j, none⟩ u) (some g) where
 os := h.os
 tape := h.tape
 output := h.output
 size := by have := h.size; simpa using this
 block := fun k hk hne => by
  rw [Below.heap_setCell _ _ _ _ (by intro e; exact hne (by rw [e]))]
  exact h.block k hk hne

theorem below_one (w : World) (o : Obj) : Below w.heap.size w (w.alloc o) := (Below.refl _ _).alloc (Nat.le_refl _) o

theorem below_two (w : World) (o p : Obj) : Below w.heap.size w ((w.alloc o).alloc p) := (below_one w o).alloc (by simp) p

theorem below_three (w : World) (o p q : Obj) : Below w.heap.size w (((w.alloc o).alloc p).alloc q) := (below_two w o p).alloc (by simp; omega) q

theorem block_last (w : World) (o : Obj) : (w.alloc o).heap[w.heap.size]? = some o := by show (w.heap.push o)[w.heap.size]? = _; simp

theorem kept_one {w w1 : World} {o : Obj} (hb : Below (w.alloc o).heap.size (w.alloc o) w1) : w1.heap[w.heap.size]? = some o := by
 rw [hb.block _ (by simp)]; exact block_last w o

theorem kept_two {w w1 : World} {o p : Obj} (hb : Below ((w.alloc o).alloc p).heap.size ((w.alloc o).alloc p) w1) : w1.heap[w.heap.size]? = some o ∧ w1.heap[w.heap.size + 1]? = some p := by
 refine ⟨?_, ?_⟩
 ·have := below_one (w.alloc o) p
  exact kept_one (w := w) (o := o) ((this.trans (hb.mono this.size)))
 ·have := kept_one (w := w.alloc o) (o := p) hb; simpa using this

theorem kept_three {w w1 : World} {o p q : Obj} (hb : Below (((w.alloc o).alloc p).alloc q).heap.size (((w.alloc o).alloc p).alloc q) w1) : w1.heap[w.heap.size]? = some o ∧ w1.heap[w.heap.size + 1]? = some p ∧ w1.heap[w.heap.size + 1 + 1]? = some q := by
 have t := below_one ((w.alloc o).alloc p) q
 have u := kept_two (w := w) (o := o) (p := p) (t.trans (hb.mono t.size))
 refine ⟨u.1, u.2, ?_⟩
 have := kept_one (w := (w.alloc o).alloc p) (o := q) hb; simpa using this

theorem below_set {B : Nat} {a w : World} (h : Below B a w) {g : Nat} (hB : B ≤ g) (j : Nat) (u : Value) : Below B a (w.setCell ⟨g, j, none⟩ u) := h.setCell (p := ⟨g, j, none⟩) hB u

theorem undrew {B n : Nat} {w w' : World} (h : Below B (w.drewN n) w') : Below B w w' := ⟨h.os, h.tape, h.output, h.size, h.block⟩

theorem kept_block {w w' : World} {i : Nat} {o : Obj} (h : w.heap[i]? = some o) (hb : Below w.heap.size w w') : w'.heap[i]? = some o := by
 by_cases hlt : i < w.heap.size
 ·rw [hb.block i hlt]; exact h
 ·rw [Array.getElem?_eq_none (by omega)] at h; cases h

theorem set_block5 {w : World} {b j : Nat} {cur : Array Value} {t : TypeId} (h : w.heap[b]? = some (.cells cur t)) (u : Value) : (w.setCell ⟨b, j, none⟩ u).heap[b]? = some (.cells (cur.setIfInBounds j u) t) := heap_setCell_same w b j cur t u h

theorem kept_set {w : World} {i b j : Nat} {o : Obj} {u : Value} (h : w.heap[i]? = some o) (hne : i ≠ b) : (w.setCell ⟨b, j, none⟩ u).heap[i]? = some o := by rw [Below.heap_setCell _ _ _ _ hne]; exact h

theorem cells2 {w : World} {C : Nat} {t : TypeId} {c0 c1 : Value} (h : w.heap[C]? = some (.cells #[c0, c1] t)) :
  (w.cell? ⟨C, 0, none⟩ = some c0 ∧ w.cell? ⟨C, 1, none⟩ = some c1) ∧ (w.frozen? ⟨C, 0, none⟩ = false ∧ w.frozen? ⟨C, 1, none⟩ = false) := by
 refine ⟨⟨?_, ?_⟩, ?_, ?_⟩ <;> simp [World.cell?, World.frozen?, h]

theorem grownTr {a b c : World} {row : Option Nat} (h : a.grownBy b row) (k : b.grownBy c row) : a.grownBy c row :=
 ⟨k.os.trans h.os, k.tape.trans h.tape, k.output.trans h.output, Nat.le_trans h.size k.size, fun i hi hn => (k.block i (Nat.lt_of_lt_of_le hi h.size) hn).trans (h.block i hi hn)⟩

theorem grown_set {w : World} {rb : Nat} (j : Nat) (u : Value) : w.grownBy (w.setCell ⟨rb, j, none⟩ u) (some rb) := grown_setCell (World.grownBy.refl _ _) j u

theorem kept_grown {w w' : World} {row : Option Nat} {i : Nat} {o : Obj} (h : w.heap[i]? = some o) (hg : w.grownBy w' row) (hne : ∀ k, row = some k → k ≠ i) : w'.heap[i]? = some o := by
 by_cases hlt : i < w.heap.size
 ·rw [hg.block i hlt (fun e => hne i e.symm rfl)]; exact h
 ·rw [Array.getElem?_eq_none (by omega)] at h; cases h

theorem Row.set {w : World} {b off len cap : Nat} {zs : List Int} (h : Row w (some ⟨b, off, none⟩) len cap zs) {P : Nat} (hP : ¬ b = P) (j : Nat) (u : Value) : Row (w.setCell ⟨P, j, none⟩ u) (some ⟨b, off, none⟩) len cap zs where
 size := h.size
 le := h.le
 top := h.top
 nil := h.nil
 byte := h.byte
 cell := by
  rcases h.cell with h0 | ⟨b', off', e, hc⟩
  ·exact .inl h0
  ·cases e
   refine .inr ⟨b, off, rfl, fun i hi => ?_⟩
   rw [World.cell?_setCell_far w ⟨P, j, none⟩ ⟨b, off + i, none⟩ u (fun e => hP e.symm)]
   exact hc i hi

theorem gr_trans {w W W' : World} (a : Below w.heap.size w W) (b : Below W.heap.size W W') : Below w.heap.size w W' := a.trans (b.mono a.size)

theorem gr_drew {w W : World} (a : Below w.heap.size w W) : Below w.heap.size w W.drew := a.drew

theorem gr_drewN {w W : World} (a : Below w.heap.size w W) (n : Nat) : Below w.heap.size w (W.drewN n) := below_drewN a n

section
open Go.RowKit

structure Flat (α : Type) where
 k : Nat
 cs : α → List Value
 len : ∀ x, (cs x).length = k
 pos : 0 < k
 one : ∀ x, ∀ v ∈ cs x, v.oneCell' = true

variable {α : Type}

def Flat.all (F : Flat α) (l : List α) : List Value := l.flatMap F.cs

theorem Flat.all_cons (F : Flat α) (x : α) (l : List α) : F.all (x :: l) = F.cs x ++ F.all l := by simp [Flat.all]
theorem Flat.all_append (F : Flat α) (a b : List α) : F.all (a ++ b) = F.all a ++ F.all b := by simp [Flat.all]
theorem Flat.all_one (F : Flat α) (x : α) : F.all [x] = F.cs x := by simp [Flat.all]
theorem Flat.all_length (F : Flat α) (l : List α) : (F.all l).length = l.length * F.k := by
 induction l with
 | nil => simp [Flat.all]
 | cons x l ih => rw [F.all_cons, List.length_append, ih, F.len, List.length_cons, Nat.add_mul]; omega
theorem Flat.all_oneCell (F : Flat α) (l : List α) : ∀ u ∈ F.all l, u.oneCell' = true := by
 intro u hu
 obtain ⟨x, _, hx⟩ := List.mem_flatMap.1 hu
 exact F.one x u hx

theorem Flat.all_at (F : Flat α) : ∀ (l : List α) (i : Nat) (x : α), l[i]? = some x → ∀ (j : Nat) (v : Value), (F.cs x)[j]? = some v → (F.all l)[i * F.k + j]? = some v
 | [], i, x, h, _, _, _ => by simp at h
 | y :: l, 0, x, h, j, v, hv => by
  simp at h
  subst h
  have hj := (List.getElem?_eq_some_iff.1 hv).1
  rw [F.all_cons, Nat.zero_mul, Nat.zero_add, List.getElem?_append_left hj]
  exact hv
 | y :: l, i + 1, x, h, j, v, hv => by
  have h' : l[i]? = some x := by simpa using h
  rw [F.all_cons, List.getElem?_append_right (by rw [F.len, Nat.add_mul]; omega), F.len]
  rw [show (i + 1) * F.k + j - F.k = i * F.k + j by rw [Nat.add_mul]; omega]
  exact Flat.all_at F l i x h' j v hv

structure GRow (F : Flat α) (w : World) (ao : Option Addr) (len cap : Nat) (l : List α) : Prop where
 size : l.length = len
 le : len ≤ cap
 top : cap ≤ maxLen
 nil : ao = none → cap = 0
 cell : len = 0 ∨ ∃ b off, ao = some ⟨b, off, none⟩ ∧ ∀ (i : Nat) (x : α), l[i]? = some x → ∀ (j : Nat) (v : Value), (F.cs x)[j]? = some v → w.cell? ⟨b, off + i * F.k + j, none⟩ = some v

theorem grow_nil (F : Flat α) (w : World) : GRow F w none 0 0 [] := ⟨rfl, Nat.le_refl _, Nat.zero_le _, fun _ => rfl, .inl rfl⟩

theorem GRow.below {F : Flat α} {w w' : World} {ao : Option Addr} {len cap : Nat} {l : List α} (h : GRow F w ao len cap l) (hb : Below w.heap.size w w') : GRow F w' ao len cap l where
 size := h.size
 le := h.le
 top := h.top
 nil := h.nil
 cell := by
  rcases h.cell with h0 | ⟨b, off, ha, hc⟩
  ·exact .inl h0
  ·exact .inr ⟨b, off, ha, fun i x hi j v hv => (hb.cell (block_lt (hc i x hi j v hv))).trans (hc i x hi j v hv)⟩

theorem GRow.at {F : Flat α} {w : World} {ao : Option Addr} {len cap : Nat} {l : List α} (h : GRow F w ao len cap l) (i : Nat) (hi : i < len) : ∃ x b off, l[i]? = some x ∧ ao = some ⟨b, off, none⟩ ∧ ∀ (j : Nat) (v : Value), (F.cs x)[j]? = some v → w.cell? ⟨b, off + i * F.k + j, none⟩ = some v := by
 have hl := h.size
 rcases h.cell with h0 | ⟨b, off, ha, hc⟩
 ·omega
 ·have hx : l[i]? = some l[i] := List.getElem?_eq_getElem (by omega)
  exact ⟨_, b, off, hx, ha, hc i _ hx⟩

theorem gown_below {w w' : World} {base k : Nat} {e : TypeId} {v : Value} {n : Nat} {xs : List Value} (h : w.ownsRow base e k v n xs) (hb : Below w.heap.size w w') : w'.ownsRow base e k v n xs := by
 obtain ⟨hl, h | ⟨g, cap, cur, rfl, hg, hh, h1, h2, h3, h4⟩⟩ := h
 ·exact ⟨hl, .inl h⟩
 ·refine ⟨hl, .inr ⟨g, cap, cur, rfl, hg, ?_, h1, h2, h3, h4⟩⟩
  rw [hb.block g ?_]
  ·exact hh
  ·by_cases hlt : g < w.heap.size
   ·exact hlt
   ·rw [Array.getElem?_eq_none (by omega)] at hh
    simp at hh

theorem gown_lt {w : World} {base k : Nat} {e : TypeId} {v : Value} {n : Nat} {xs : List Value} (h : w.ownsRow base e k v n xs) {base' : Nat} (hle : base' ≤ base) : w.ownsRow base' e k v n xs := by
 obtain ⟨hl, h | ⟨g, cap, cur, rfl, hg, hh, h1, h2, h3, h4⟩⟩ := h
 ·exact ⟨hl, .inl h⟩
 ·exact ⟨hl, .inr ⟨g, cap, cur, rfl, by omega, hh, h1, h2, h3, h4⟩⟩

theorem gown_slice {w : World} {base k : Nat} {e : TypeId} {v : Value} {n : Nat} {xs : List Value} (h : w.ownsRow base e k v n xs) : ∃ ao cap, v = .slice ao n cap := by
 rcases h.2 with ⟨rfl, rfl⟩ | ⟨g, cap, cur, rfl, _⟩
 ·exact ⟨none, 0, rfl⟩
 ·exact ⟨_, cap, rfl⟩

theorem gown_other {w w' : World} {base k : Nat} {e : TypeId} {v : Value} {n : Nat} {xs : List Value} (h : w.ownsRow base e k v n xs) {g : Nat} (hg : w.grownBy w' (some g)) (hne : ∀ b, v.ownBlock = some b → b ≠ g) : w'.ownsRow base e k v n xs := by
 refine h.kept hg ?_
 cases hv : v.ownBlock with
 | none => exact .inl rfl
 | some b => exact .inr (by intro h; cases h; exact hne _ hv rfl)

theorem grow_own {F : Flat α} {w : World} {base : Nat} {T : TypeId} {ao : Option Addr} {n cap : Nat} {l : List α} (h : w.ownsRow base T F.k (.slice ao n cap) n (F.all l)) : GRow F w ao n cap l := by
 have hl : l.length = n := by
  have := h.1
  rw [F.all_length] at this
  exact Nat.eq_of_mul_eq_mul_right F.pos this
 rcases h.2 with ⟨e, rfl⟩ | ⟨g, cap', cur, e, hg, hh, h1, h2, h3, h4⟩
 ·cases e
  exact ⟨hl, Nat.le_refl _, Nat.zero_le _, fun _ => rfl, .inl rfl⟩
 ·cases e
  refine ⟨hl, h1, h2, (by intro h; cases h), .inr ⟨g, 0, rfl, fun i x hi j v hv => ?_⟩⟩
  have hx := F.all_at l i x hi j v hv
  have hlt := (List.getElem?_eq_some_iff.1 hx).1
  rw [F.all_length] at hlt
  rw [Nat.zero_add, h.cellAt _ (by rw [← hl]; exact hlt)]
  exact hx

theorem GRow.news {F : Flat α} {w : World} {b off n cap : Nat} {l : List α} (h : GRow F w (some ⟨b, off, none⟩) n cap l) : ∀ (j : Nat) (u : Value), (F.all l)[j]? = some u → w.cell? ((⟨b, off, none⟩ : Addr).add j) = some u := by
 intro j u hu
 have hj := (List.getElem?_eq_some_iff.1 hu).1
 rw [F.all_length] at hj
 have hp := F.pos
 have hi : j / F.k < l.length := Nat.div_lt_of_lt_mul (by rw [Nat.mul_comm]; exact hj)
 rcases h.cell with h0 | ⟨b', off', e, hc⟩
 ·have := h.size
  rw [this, h0] at hi
  exact absurd hi (Nat.not_lt_zero _)
 ·cases e
  have hx : l[j / F.k]? = some l[j / F.k] := List.getElem?_eq_getElem hi
  have hm : j % F.k < (F.cs l[j / F.k]).length := by rw [F.len]; exact Nat.mod_lt _ hp
  have hv := List.getElem?_eq_getElem hm
  have ha := F.all_at l _ _ hx _ _ hv
  have hd : j / F.k * F.k + j % F.k = j := by rw [Nat.mul_comm]; exact Nat.div_add_mod j F.k
  rw [hd] at ha
  have hc := hc _ _ hx _ _ hv
  rw [add_none]
  rw [show off + j = off + j / F.k * F.k + j % F.k by omega, hc, ← ha, hu]

theorem finfo_parts {P : Program} {T : TypeId} {z : Value} {k b : Nat} (h : (P.info? T).map (fun i => (i.zero, i.size, i.bytes)) = some (some z, k, b)) : ∃ i, P.info? T = some i ∧ i.zero = some z ∧ i.size = k ∧ i.bytes = b := by
 cases hi : P.info? T with
 | none => rw [hi] at h; simp at h
 | some i =>
  rw [hi] at h
  simp at h
  exact ⟨i, rfl, h.1, h.2.1, h.2.2⟩

theorem wpList_append_flat {F : Flat α} {P : Program} (w : World) {ops : Array Oper} {rest : List Oper} {o : Oper} {a : Act} {Q : Exit → Act → World → Prop} (hgd : o.guard = none)
  (s x : Operand) (t T : TypeId) (ho : o.op = Op.call { callee := Callee.builtin Builtin.append, args := #[s, x], argTypes := #[t, t] }) (base : Nat) {Z : Value} {by8 : Nat}
  (ht : P.underlying t = some (TypeDesc.slice T)) (hinfo : (P.info? T).map (fun i => (i.zero, i.size, i.bytes)) = some (some Z, F.k, by8)) (hZ : Z.cells.size = F.k) (hb8 : by8 ≤ 1024)
  (v : Value) (n : Nat) (xs : List α) (hs : a.eval s = v) (hown : w.ownsRow base T F.k v n (F.all xs)) (ao : Option Addr) (m c : Nat) (zs : List α)
  (hx : a.eval x = .slice ao m c) (hrow : GRow F w ao m c zs) (hsm : n + m ≤ 137438953472) (hbase : base ≤ w.heap.size)
  (h : ∀ ao' cap' w', w'.ownsRow base T F.k (.slice ao' (n + m) cap') (n + m) (F.all (xs ++ zs)) → GRow F w' ao' (n + m) cap' (xs ++ zs) → w.grownBy w' v.ownBlock → Below base w w' → wpList P ops Q rest (a.put o.dst (.slice ao' (n + m) cap')) w') :
  wpList P ops Q (o :: rest) a w := by
 obtain ⟨i0, hi, hz0, hz1, hz2⟩ := finfo_parts hinfo
 rcases ao with _ | ad
 ·have hc0 := hrow.nil rfl
  have hm0 : m = 0 := by have := hrow.le; omega
  subst hc0 hm0
  have hz : zs = [] := List.eq_nil_of_length_eq_zero hrow.size
  subst hz
  refine wpList_append_own_none hgd s x t ho base T i0 F.k ht hi v n (F.all xs) hs hown hx ?_
  obtain ⟨ao', cap', rfl⟩ := gown_slice hown
  have := h ao' cap' w (by simpa using hown) (by simpa using grow_own hown) (World.grownBy.refl _ _) (Below.refl _ _)
  simpa using this
 ·have hnews : ∀ (j : Nat) (u : Value), (F.all zs)[j]? = some u → w.cell? (ad.add j) = some u := by
   intro j u hu
   rcases hrow.cell with h0 | ⟨b, off, e, _⟩
   ·have hl := (List.getElem?_eq_some_iff.1 hu).1
    rw [F.all_length, hrow.size, h0, Nat.zero_mul] at hl
    omega
   ·cases e
    exact hrow.news j u hu
  have hB : (n + m) * by8 ≤ 140737488355328 := Nat.le_trans (Nat.mul_le_mul hsm hb8) (by omega)
  refine wpList_append_own w hgd s x t ho base T i0 Z F.k by8 ht hi hz0 hz1 hz2 hZ F.pos v n (F.all xs) hs hown ad m c (F.all zs) hx (by rw [F.all_length, hrow.size]) hnews (F.all_oneCell zs) (by unfold maxLen; omega) hB hbase ?_
  intro v' w' how hgr _
  rw [← F.all_append] at how
  have hlt := hown.lt
  obtain ⟨ao', cap', rfl⟩ := gown_slice how
  exact h ao' cap' w' how (grow_own how) hgr ((Below.refl _ _).grown hgr hbase (by intro k hk; exact (hlt k hk).1))

theorem flat_nil (F : Flat α) (w w' : World) (T : TypeId) (b : Nat) (h : w'.heap[b]? = some (.cells #[] T)) (hb : w.heap.size ≤ b) : w'.ownsRow w.heap.size T F.k (.slice (some ⟨b, 0, none⟩) 0 0) 0 (F.all []) :=
 ⟨by simp [Flat.all], .inr ⟨b, 0, #[], rfl, hb, h, Nat.le_refl _, Nat.zero_le _, by simp, by simp [Flat.all]⟩⟩

section
variable {H : Type} {enc : TypeId × Value → H} {P : Program} {w : World}

open Go.ChangeShapes Go.WideShapes Go.ChangeAt in
theorem open_flat (z : α) (F : Flat α) (R : α → Prop) {ts tb : TypeId} (hs : P.underlying ts = some (.slice tb)) (hk : P.cellsOf tb = F.k)
  (hone : ∀ {fuel : Nat} {cs : List Value} {x : DataW H × List MemPlace}, DataW.trod enc P w 0 (fun _ => true) true fuel tb cs = some x → ∃ y, cs = F.cs y ∧ R y)
  {fuel : Nat} {v : Value} {x : DataW H × List MemPlace} (h : DataW.trod enc P w 0 (fun _ => true) true fuel ts [v] = some x) :
  ∃ ao len cap l, v = .slice ao len cap ∧ GRow F w ao len cap l ∧ ∀ x ∈ l, R x := by
 rcases Go.Deep.open_slice hs h with ⟨hcs, _⟩ | ⟨a, len, cap, m, n, D, Pl, hcs, _, hl, hm, hmm, _, hx⟩
 ·simp only [List.cons.injEq, and_true] at hcs
  subst hcs
  exact ⟨none, 0, 0, [], rfl, grow_nil F w, (by intro x hx; cases hx)⟩
 ·simp only [List.cons.injEq, and_true] at hcs
  subst hcs
  have hmc : m = cap := by simpa using hmm
  subst hmc
  have each : ∀ i, i < m → ∃ y, R y ∧ ∀ j, j < F.k → w.cell? (a.add (i * F.k + j)) = (F.cs y)[j]? := by
   intro i hi
   obtain ⟨cs', h1, h2⟩ := hx i hi
   rw [hk] at h1
   obtain ⟨_, _, hcell⟩ := World.cells?_some h1
   obtain ⟨y, rfl, hy⟩ := hone h2
   refine ⟨y, hy, fun j hj => ?_⟩
   have := hcell j hj
   rw [Go.Deep.add_add] at this
   exact this
  have : Inhabited α := ⟨z⟩
  obtain ⟨q, hq⟩ := Go.Deep.choose_lt each
  refine ⟨some a, len, m, (List.range len).map q, rfl, ⟨by simp, hl, hm, (by intro h; cases h), ?_⟩, fun y hy => ?_⟩
  rotate_left
  ·obtain ⟨i, hi, rfl⟩ := List.mem_map.1 hy
   exact (hq i (by have := List.mem_range.1 hi; omega)).1
  by_cases h0 : len = 0
  ·exact .inl h0
  ·obtain ⟨b, off, spot⟩ := a
   have hp := F.pos
   have hspot : spot = none := by
    have h1 := (hq 0 (by omega)).2 0 hp
    have h2 : 0 < (F.cs (q 0)).length := by rw [F.len]; exact hp
    rw [List.getElem?_eq_getElem h2] at h1
    simpa [Addr.add] using World.cell?_spot h1
   subst hspot
   refine .inr ⟨b, off, rfl, fun i y hy j v hv => ?_⟩
   have hi : i < len := by
    have := (List.getElem?_eq_some_iff.1 hy).1
    simpa using this
   have hy' : q i = y := by
    rw [List.getElem?_map, List.getElem?_range hi] at hy
    simpa using hy
   subst hy'
   have hj := (List.getElem?_eq_some_iff.1 hv).1
   rw [F.len] at hj
   have c := (hq i (by omega)).2 j hj
   rw [add_none, hv] at c
   rw [Nat.add_assoc]
   exact c
end

end

section
open Go.RowKit

variable {α : Type}

theorem Flat.all_set (F : Flat α) (pre : List α) (x x' : α) (post : List α) (j : Nat) (u : Value) (hj : j < F.k) (h : (F.cs x).set j u = F.cs x') : (F.all (pre ++ x :: post)).set (pre.length * F.k + j) u = F.all (pre ++ x' :: post) := by
 rw [F.all_append, F.all_cons, List.set_append_right _ _ (by rw [F.all_length]; omega), F.all_length, Nat.add_sub_cancel_left, List.set_append_left _ _ (by rw [F.len]; exact hj), h, F.all_append, F.all_cons]

theorem flat_stored {F : Flat α} {w : World} {base g n cap : Nat} {T : TypeId} {pre post : List α} {x x' : α} (h : w.ownsRow base T F.k (.slice (some ⟨g, 0, none⟩) n cap) n (F.all (pre ++ x :: post))) (j : Nat) (u : Value) (hj : j < F.k) (hx : (F.cs x).set j u = F.cs x') :
  (w.setCell ⟨g, pre.length * F.k + j, none⟩ u).ownsRow base T F.k (.slice (some ⟨g, 0, none⟩) n cap) n (F.all (pre ++ x' :: post)) := by
 have := (h.stored (pre.length * F.k + j) u).1
 rw [F.all_set pre x x' post j u hj hx] at this
 exact this

theorem flat_made (F : Flat α) (z : α) (n : Nat) : (madeCells (F.cs z).toArray (n * F.k)).toList = F.all (List.replicate n z) := by
 have hp := F.pos
 apply List.ext_getElem?
 intro j
 by_cases hj : j < n * F.k
 ·have hi : j / F.k < n := Nat.div_lt_of_lt_mul (by rw [Nat.mul_comm]; exact hj)
  have hm : j % F.k < (F.cs z).length := by rw [F.len]; exact Nat.mod_lt _ hp
  have hx : (List.replicate n z)[j / F.k]? = some z := by rw [List.getElem?_replicate, if_pos hi]
  have hv := List.getElem?_eq_getElem hm
  have ha := F.all_at _ _ _ hx _ _ hv
  rw [show j / F.k * F.k + j % F.k = j by rw [Nat.mul_comm]; exact Nat.div_add_mod j F.k] at ha
  rw [ha]
  simp only [madeCells, Array.toList_map, Array.toList_range, List.getElem?_map, List.getElem?_range hj, Option.map_some]
  simp [F.len]
  rw [hv]
  rfl
 ·rw [List.getElem?_eq_none (by simp [madeCells]; omega), List.getElem?_eq_none (by rw [F.all_length]; simp; omega)]

theorem gown_apart {w w' : World} {base k : Nat} {e : TypeId} {v : Value} {n : Nat} {xs : List Value} (h : w.ownsRow base e k v n xs) {row : Option Nat} (hg : w.grownBy w' row) (hlt : ∀ b, row = some b → b < base) : w'.ownsRow base e k v n xs := by
 refine h.kept hg ?_
 cases hv : v.ownBlock with
 | none => exact .inl rfl
 | some b =>
  refine .inr (fun e => ?_)
  have h1 := (h.lt b hv).1
  have h2 := hlt b e.symm
  omega

theorem flat_cells {F : Flat α} {w : World} {base g n cap : Nat} {T : TypeId} {l : List α} (h : w.ownsRow base T F.k (.slice (some ⟨g, 0, none⟩) n cap) n (F.all l)) {i : Nat} {x : α} (hx : l[i]? = some x) {j : Nat} {v : Value} (hv : (F.cs x)[j]? = some v) : w.cell? ⟨g, i * F.k + j, none⟩ = some v ∧ w.frozen? ⟨g, i * F.k + j, none⟩ = false := by
 have ha := F.all_at l i x hx j v hv
 have hlt := (List.getElem?_eq_some_iff.1 ha).1
 have h1 := h.1
 refine ⟨?_, h.frozenAt _⟩
 rw [h.cellAt _ (by rw [← h1]; exact hlt)]
 exact ha

end

set_option maxRecDepth 100000 in
set_option maxHeartbeats 400000 in
theorem toVec_made (R C H B P : Int) (w : World) :
  Calls Try.prog 61 #[.agg #[.int .i64 R, .int .i64 C, .int .i64 H, .int .i64 B, .int .i64 P]] w fun e w' => e = .returned (.agg #[.int .i64 R, .int .i64 C, .int .i64 H, .int .i64 B, .int .i64 P]) ∧ Below w.heap.size w w' := by
 go_enter Try.func61, Try.ntmps61
 go_wp2
 exact bodyPost_ret (v := .agg #[.int .i64 R, .int .i64 C, .int .i64 H, .int .i64 B, .int .i64 P]) (by simp [results, Try.results61, go_sem, *]) rfl ⟨rfl, below_three _ _ _ _⟩

set_option maxRecDepth 100000 in
set_option maxHeartbeats 400000 in
theorem eqVec_same (R C H B P : Int) (w : World) :
  Calls Try.prog 66 #[.agg #[.int .i64 R, .int .i64 C, .int .i64 H, .int .i64 B, .int .i64 P], .agg #[.int .i64 R, .int .i64 C, .int .i64 H, .int .i64 B, .int .i64 P]] w fun e w' => e = .returned (.bool true) ∧ Below w.heap.size w w' := by
 go_enter Try.func66, Try.ntmps66
 go_wp2
 go_ret
 exact ⟨rfl, below_two _ _ _⟩

def Fits (f : Nat) (n : Int) : Prop := -(128 * 256 ^ f) ≤ n ∧ n < 128 * 256 ^ f

theorem row_one (w : World) (b : Int) (h : 0 ≤ b ∧ b ≤ 255) : Row (w.alloc (.cells #[.int .u8 b] 5)) (some ⟨w.heap.size, 0, none⟩) 1 1 [b] where
 size := rfl
 le := Nat.le_refl _
 top := by unfold maxLen; omega
 nil := by intro h; cases h
 byte := by intro z hz; simp at hz; subst hz; exact h
 cell := .inr ⟨w.heap.size, 0, rfl, fun i hi => by
  obtain rfl : i = 0 := by omega
  simp⟩

structure VD where
 r : Int
 c : Int
 h : Int
 b : Int
 p : Int

set_option maxRecDepth 100000 in
set_option maxHeartbeats 400000 in
theorem within_any (x lo hi : Int) (w : World) :
  Calls Try.prog 34 #[.int .i64 x, .int .i64 lo, .int .i64 hi] w fun e w' => e = .returned (.bool (decide (lo ≤ x) && decide (x ≤ hi))) ∧ w' = w := by
 by_cases h1 : lo ≤ x
 ·go_enter Try.func34, Try.ntmps34
  go_wp2
  go_ret
  exact ⟨ret_bool (by simp [h1]), rfl⟩
 ·go_enter Try.func34, Try.ntmps34
  go_wp2
  go_ret
  exact ⟨ret_bool (by rw [decide_eq_false (show ¬ lo ≤ x by omega)]; rfl), rfl⟩

structure PT where
 up : Bool
 k : Int
 has : Bool
 v : VD

def ptF : Flat PT where
 k := 8
 cs := fun x => [.bool x.up, .int .i64 x.k, .bool x.has, .int .i64 x.v.r, .int .i64 x.v.c, .int .i64 x.v.h, .int .i64 x.v.b, .int .i64 x.v.p]
 len := fun _ => rfl
 pos := by decide
 one := fun _ v hv => by
  simp only [List.mem_cons, List.not_mem_nil, or_false] at hv
  rcases hv with rfl | rfl | rfl | rfl | rfl | rfl | rfl | rfl <;> rfl

theorem pt_at {w : World} {ao : Option Addr} {len cap : Nat} {l : List PT} (h : GRow ptF w ao len cap l) (i : Nat) (hi : i < len) : ∃ (x : PT) (b off : Nat), l[i]? = some x ∧ ao = some ⟨b, off, none⟩ ∧
  w.cell? ⟨b, off + i * 8, none⟩ = some (.bool x.up) ∧ w.cell? ⟨b, off + i * 8 + 1, none⟩ = some (.int .i64 x.k) ∧ w.cell? ⟨b, off + i * 8 + 2, none⟩ = some (.bool x.has) ∧
  w.cell? ⟨b, off + i * 8 + 3, none⟩ = some (.int .i64 x.v.r) ∧ w.cell? ⟨b, off + i * 8 + 4, none⟩ = some (.int .i64 x.v.c) ∧ w.cell? ⟨b, off + i * 8 + 5, none⟩ = some (.int .i64 x.v.h) ∧ w.cell? ⟨b, off + i * 8 + 6, none⟩ = some (.int .i64 x.v.b) ∧ w.cell? ⟨b, off + i * 8 + 7, none⟩ = some (.int .i64 x.v.p) := by
 obtain ⟨x, b, off, hx, ha, hc⟩ := h.at i hi
 exact ⟨x, b, off, hx, ha, hc 0 _ rfl, hc 1 _ rfl, hc 2 _ rfl, hc 3 _ rfl, hc 4 _ rfl, hc 5 _ rfl, hc 6 _ rfl, hc 7 _ rfl⟩

structure FE where
 t : Int
 m : Int
 p : Int
 a : Int
 s : Bool

section
open Go.RowKit

def fentF : Flat FE where
 k := 5
 cs := fun e => [.int .i64 e.t, .int .i64 e.m, .int .i64 e.p, .int .i64 e.a, .bool e.s]
 len := fun _ => rfl
 pos := by decide
 one := fun _ v hv => by
  simp only [List.mem_cons, List.not_mem_nil, or_false] at hv
  rcases hv with rfl | rfl | rfl | rfl | rfl <;> rfl

theorem wf_i64 {n : Int} (h : (Lit.int .i64 n).wf = true) : -9223372036854775808 ≤ n ∧ n ≤ 9223372036854775807 := by
 simp [Lit.wf, IntKind.min, IntKind.max, IntKind.bits, IntKind.signed] at h
 omega

def FE.Rng (e : FE) : Prop := (-9223372036854775808 ≤ e.t ∧ e.t ≤ 9223372036854775807) ∧ (-9223372036854775808 ≤ e.m ∧ e.m ≤ 9223372036854775807) ∧ (-9223372036854775808 ≤ e.p ∧ e.p ≤ 9223372036854775807) ∧ (-9223372036854775808 ≤ e.a ∧ e.a ≤ 9223372036854775807)

theorem fent_at {w : World} {ao : Option Addr} {len cap : Nat} {l : List FE} (h : GRow fentF w ao len cap l) (i : Nat) (hi : i < len) : ∃ (x : FE) (b off : Nat), l[i]? = some x ∧ ao = some ⟨b, off, none⟩ ∧
  w.cell? ⟨b, off + i * 5, none⟩ = some (.int .i64 x.t) ∧ w.cell? ⟨b, off + i * 5 + 1, none⟩ = some (.int .i64 x.m) ∧ w.cell? ⟨b, off + i * 5 + 2, none⟩ = some (.int .i64 x.p) ∧ w.cell? ⟨b, off + i * 5 + 3, none⟩ = some (.int .i64 x.a) ∧ w.cell? ⟨b, off + i * 5 + 4, none⟩ = some (.bool x.s) := by
 obtain ⟨x, b, off, hx, ha, hc⟩ := h.at i hi
 exact ⟨x, b, off, hx, ha, hc 0 _ rfl, hc 1 _ rfl, hc 2 _ rfl, hc 3 _ rfl, hc 4 _ rfl⟩

section
open Go.ChangeShapes Go.WideShapes Go.ChangeAt
variable {H : Type} {enc : TypeId × Value → H} {P : Program} {w : World}

theorem fent_trod {tp ti tb : TypeId} {g0 g1 g2 g3 g4 : Field} (hs : P.underlying tp = some (.struct #[g0, g1, g2, g3, g4])) (hi : P.underlying ti = some (.int .i64)) (hb : P.underlying tb = some .bool)
  (e0 : g0.type = ti ∧ g0.offset = 0) (e1 : g1.type = ti ∧ g1.offset = 1) (e2 : g2.type = ti ∧ g2.offset = 2) (e3 : g3.type = ti ∧ g3.offset = 3) (e4 : g4.type = tb ∧ g4.offset = 4) (hC : P.cellsOf tp = 5) (hti : P.cellsOf ti = 1) (htb : P.cellsOf tb = 1)
  {fuel : Nat} {cs : List Value} {x : DataW H × List MemPlace} (h : DataW.trod enc P w 0 (fun _ => true) true fuel tp cs = some x) : ∃ y, cs = fentF.cs y ∧ y.Rng := by
 obtain ⟨xs, n, _, _, hlen, hxl, hq⟩ := DataW.trod_struct hs h
 rw [hC] at hlen
 match xs, hxl, cs, hlen with
 | [y0, y1, y2, y3, y4], _, [v0, v1, v2, v3, v4], _ =>
  have k0 := hq 0 g0 rfl
  have k1 := hq 1 g1 rfl
  have k2 := hq 2 g2 rfl
  have k3 := hq 3 g3 rfl
  have k4 := hq 4 g4 rfl
  rw [e0.1, e0.2, hti] at k0
  rw [e1.1, e1.2, hti] at k1
  rw [e2.1, e2.2, hti] at k2
  rw [e3.1, e3.2, hti] at k3
  rw [e4.1, e4.2, htb] at k4
  simp at k0 k1 k2 k3 k4
  obtain ⟨T, i0, -, r0⟩ := DataW.trod_int hi k0
  obtain ⟨M, i1, -, r1⟩ := DataW.trod_int hi k1
  obtain ⟨P', i2, -, r2⟩ := DataW.trod_int hi k2
  obtain ⟨A, i3, -, r3⟩ := DataW.trod_int hi k3
  obtain ⟨S, i4, -⟩ := DataW.trod_bool hb k4
  simp only [List.cons.injEq, and_true] at i0 i1 i2 i3 i4
  subst i0 i1 i2 i3 i4
  exact ⟨⟨T, M, P', A, S⟩, rfl, wf_i64 r0, wf_i64 r1, wf_i64 r2, wf_i64 r3⟩
end

end

structure VR where
 i : Int
 m : Int
 b : Int

structure VT where
 rows : List VR
 own : List Int

def cI (zs : List Int) : List Value := zs.map (Value.int .i64)

def I64s (zs : List Int) : Prop := ∀ z ∈ zs, -9223372036854775808 ≤ z ∧ z ≤ 9223372036854775807

theorem cI_length (zs : List Int) : (cI zs).length = zs.length := by simp [cI]
theorem cI_append (a b : List Int) : cI (a ++ b) = cI a ++ cI b := by simp [cI]
theorem cI_get (zs : List Int) (j : Nat) (h : j < zs.length) : (cI zs)[j]? = some (.int .i64 (zs.getD j 0)) := by
 simp [cI, List.getElem?_map, List.getElem?_eq_getElem h]

structure IRow (w : World) (ao : Option Addr) (len cap : Nat) (zs : List Int) : Prop where
 size : zs.length = len
 le : len ≤ cap
 top : cap ≤ maxLen
 nil : ao = none → cap = 0
 byte : I64s zs
 cell : len = 0 ∨ ∃ b off, ao = some ⟨b, off, none⟩ ∧ ∀ i, i < len → w.cell? ⟨b, off + i, none⟩ = some (.int .i64 (zs.getD i 0))

theorem IRow.below {w w' : World} {ao : Option Addr} {len cap : Nat} {zs : List Int} (h : IRow w ao len cap zs) (hb : Below w.heap.size w w') : IRow w' ao len cap zs where
 size := h.size
 le := h.le
 top := h.top
 nil := h.nil
 byte := h.byte
 cell := by
  rcases h.cell with h0 | ⟨b, off, ha, hc⟩
  ·exact .inl h0
  ·exact .inr ⟨b, off, ha, fun i hi => by rw [hb.cell (block_lt (hc i hi))]; exact hc i hi⟩

theorem irow_of_own {w : World} {base : Nat} {v : Value} {n : Nat} {zs : List Int} (h : w.ownsRow base 3 1 v n (cI zs)) (hz : I64s zs) :
  ∃ ao cap, v = .slice ao n cap ∧ IRow w ao n cap zs := by
 have hl : zs.length = n := by have := h.1; simpa [cI] using this
 rcases h.2 with ⟨rfl, rfl⟩ | ⟨g, cap, cur, rfl, hg, hh, h1, h2, h3, h4⟩
 ·exact ⟨none, 0, rfl, hl, Nat.le_refl _, Nat.zero_le _, fun _ => rfl, hz, .inl rfl⟩
 ·refine ⟨_, cap, rfl, hl, h1, h2, (by intro h; cases h), hz, .inr ⟨g, 0, rfl, fun i hi => ?_⟩⟩
  have := h.cellAt i (by omega)
  rw [Nat.zero_add, this, cI_get zs i (by omega)]

theorem Try.infoI64 : (Try.prog.info? 3).map (fun i => (i.zero, i.size, i.bytes)) = some (some (.int .i64 0), 1, 8) := by kernel_rfl

theorem IRow.news {w : World} {ao : Option Addr} {len cap : Nat} {zs : List Int} (h : IRow w ao len cap zs) (ad : Addr) (ha : ao = some ad) (j : Nat) (u : Value) (hu : (cI zs)[j]? = some u) : w.cell? (ad.add j) = some u := by
 have hj : j < zs.length := by
  by_cases hlt : j < zs.length
  ·exact hlt
  ·rw [List.getElem?_eq_none (by rw [cI_length]; omega)] at hu
   cases hu
 rw [cI_get _ _ hj] at hu
 rcases h.cell with h0 | ⟨b, off, hb, hc⟩
 ·have := h.size; omega
 ·rw [ha] at hb
  cases hb
  rw [← hu]
  rw [add_none]; exact hc j (by have := h.size; omega)

theorem IRow.none_zero {w : World} {ao : Option Addr} {len cap : Nat} {zs : List Int} (h : IRow w ao len cap zs) (ha : ao = none) : len = 0 ∧ cap = 0 := by
 have := h.nil ha; have := h.le; omega

theorem getD_i64 {zs : List Int} (h : I64s zs) (j : Nat) : -9223372036854775808 ≤ zs.getD j 0 ∧ zs.getD j 0 ≤ 9223372036854775807 := by
 by_cases hj : j < zs.length
 ·rw [List.getD_eq_getElem?_getD, List.getElem?_eq_getElem hj]; exact h _ (List.getElem_mem hj)
 ·rw [List.getD_eq_getElem?_getD, List.getElem?_eq_none (by omega)]; simp

theorem IRow.at {w : World} {ao : Option Addr} {len cap : Nat} {zs : List Int} (h : IRow w ao len cap zs) (hp : 0 < len) : ∃ b off, ao = some ⟨b, off, none⟩ ∧ ∀ i, i < len → w.cell? ⟨b, off + i, none⟩ = some (.int .i64 (zs.getD i 0)) := by
 rcases h.cell with h0 | h0
 ·omega
 ·exact h0

theorem I64s.at {zs : List Int} (h : I64s zs) (j : Nat) : -9223372036854775808 ≤ zs.getD j 0 ∧ zs.getD j 0 ≤ 9223372036854775807 := getD_i64 h j

theorem irow_nil (w : World) : IRow w none 0 0 [] := ⟨rfl, Nat.le_refl _, Nat.zero_le _, fun _ => rfl, (by intro z hz; cases hz), .inl rfl⟩

theorem irow_open {w : World} {x : Addr} {len cap : Nat} {zs : List Int} (hl : len ≤ cap) (hm : cap ≤ maxLen) (hz : zs.length = cap) (hcell : ∀ i, i < zs.length → w.cell? (x.add i) = some (.int .i64 (zs.getD i 0))) (hwz : ∀ n ∈ zs, (Lit.int .i64 n).wf = true) : IRow w (some x) len cap (zs.take len) where
 size := by simp; omega
 le := hl
 top := hm
 nil := by intro h; cases h
 byte := by
  intro z h
  have := hwz z (List.mem_of_mem_take h)
  simp [Lit.wf, IntKind.min, IntKind.max, IntKind.bits, IntKind.signed] at this
  omega
 cell := by
  by_cases h0 : len = 0
  ·exact .inl h0
  ·have hc0 := hcell 0 (by omega)
   obtain ⟨b, off, spot⟩ := x
   have hspot : spot = none := by simpa [Addr.add] using World.cell?_spot hc0
   subst hspot
   refine .inr ⟨b, off, rfl, fun i hi => ?_⟩
   have := hcell i (by omega)
   have e : (⟨b, off, none⟩ : Addr).add i = ⟨b, off + i, none⟩ := by by_cases h : i = 0 <;> simp [Addr.add, h]
   rw [e] at this
   rw [this]
   simp [List.getD_eq_getElem?_getD, hi]

set_option maxRecDepth 100000 in
set_option maxHeartbeats 400000 in
theorem eqI_any (a1 : Option Addr) (l1 c1 : Nat) (z1 : List Int) (a2 : Option Addr) (l2 c2 : Nat) (z2 : List Int) (w : World) (h1 : IRow w a1 l1 c1 z1) (h2 : IRow w a2 l2 c2 z2) :
  Calls Try.prog 9 #[.slice a1 l1 c1, .slice a2 l2 c2] w fun e w' => e = .returned (.bool (decide (z1 = z2))) ∧ ∃ n, w' = w.drewN n := by
 have m1 := h1.top; have m2 := h2.top; have s1 := h1.size; have s2 := h2.size; have e1 := h1.le; have e2 := h2.le
 unfold maxLen at m1 m2
 by_cases hl : l1 = l2
 ·subst hl
  by_cases h0 : l1 = 0
  ·subst h0
   have hz : z1 = z2 := by rw [List.eq_nil_of_length_eq_zero s1, List.eq_nil_of_length_eq_zero s2]
   go_enter Try.func9, Try.ntmps9
   go_wp2
   go_loop [5] (fun i => i = .int .i64 0) (fun _ => 0)
   case atStart => rfl
   case round =>
    subst hrel
    go_wp2
    go_ret
    exact ⟨by simp, 0, rfl⟩
  ·rcases h1.cell with h | ⟨b1, o1, rfl, g1⟩
   ·exact absurd h h0
   rcases h2.cell with h | ⟨b2, o2, rfl, g2⟩
   ·exact absurd h h0
   clear h1 h2
   have G1 : Hid (∀ i, i < l1 → w.cell? ⟨b1, o1 + i, none⟩ = some (.int .i64 (z1.getD i 0))) := g1
   have G2 : Hid (∀ i, i < l1 → w.cell? ⟨b2, o2 + i, none⟩ = some (.int .i64 (z2.getD i 0))) := g2
   clear g1 g2
   go_enter Try.func9, Try.ntmps9
   go_wp2
   go_loopw [5] (fun i wr => ∃ k : Nat, k ≤ l1 ∧ i = .int .i64 k ∧ z1.take k = z2.take k ∧ ∃ n, wr = w.drewN n) (fun i _ => l1 - (intOf i).toNat)
   case atStart => exact ⟨0, Nat.zero_le _, rfl, rfl, 0, rfl⟩
   case round =>
    obtain ⟨k, hk, rfl, ht, n, rfl⟩ := hrel
    have HT : Hid (z1.take k = z2.take k) := ht
    clear ht
    by_cases hlt : k < l1
    ·have c1 := G1.out k hlt
     have c2 := G2.out k hlt
     generalize hx : z1.getD k 0 = x at c1
     generalize hy : z2.getD k 0 = y at c2
     have HX : Hid (z1.getD k 0 = x) := hx
     have HY : Hid (z2.getD k 0 = y) := hy
     clear hx hy
     by_cases hq : x = y
     ·subst hq
      go_wp2
      go_quiet (fail)
      go_wp2
      go_roundw
      case rel => exact ⟨k + 1, by omega, by go_num, by rw [take_succ_getD _ _ (by omega), take_succ_getD _ _ (by omega), HT.out, HX.out, HY.out], _, rfl⟩
      case measure => simp [intOf]; omega
     ·have hne : (x != y) = true := by simp [hq]
      go_wp2
      go_quiet (fail)
      go_wp2
      go_ret
      exact ⟨ret_bool (decide_eq_false (ne_at k (by rw [HX.out, HY.out]; exact hq))).symm, _, World.drewN_drewN _ _ _⟩
    ·go_wp2
     go_ret
     have hk' : k = l1 := by omega
     exact ⟨ret_bool (decide_eq_true (eq_of_takes (by omega) (by rw [s1, ← hk']; exact HT.out))).symm, _, rfl⟩
 ·have hne : ((l1 : Int) != (l2 : Int)) = true := by simp; omega
  have hz : ¬ z1 = z2 := by intro e; rw [e] at s1; omega
  go_enter Try.func9, Try.ntmps9
  go_wp2
  go_ret
  exact ⟨ret_bool (decide_eq_false hz).symm, 0, rfl⟩

def halfI (zs : List Int) (n k : Nat) : List Value := cI (zs.take k) ++ List.replicate (n - k) (.int .i64 0)

theorem halfI_length (zs : List Int) (n k : Nat) (h : zs.length = n) (hk : k ≤ n) : (halfI zs n k).length = n := by
 simp [halfI, cI_length]; omega

theorem halfI_set (zs : List Int) (n k : Nat) (h : zs.length = n) (hk : k < n) : (halfI zs n k).set k (.int .i64 (zs.getD k 0)) = halfI zs n (k + 1) := by
 have hl : (cI (zs.take k)).length = k := by simp [cI_length]; omega
 unfold halfI
 rw [List.set_append_right _ _ (by omega), hl, Nat.sub_self, take_succ_getD _ _ (by omega), cI_append]
 obtain ⟨m, hm⟩ : ∃ m, n - k = m + 1 := ⟨n - k - 1, by omega⟩
 have hm' : n - (k + 1) = m := by omega
 rw [hm, hm', List.replicate_succ, List.set_cons_zero]
 simp [cI]

theorem halfI_all (zs : List Int) (n : Nat) (h : zs.length = n) : halfI zs n n = cI zs := by
 simp [halfI, ← h]

theorem halfI_none (zs : List Int) (n : Nat) : halfI zs n 0 = List.replicate n (.int .i64 0) := by
 simp [halfI, cI]

set_option maxRecDepth 100000 in
set_option maxHeartbeats 400000 in
theorem copyI_any (a1 : Option Addr) (l1 c1 : Nat) (z1 : List Int) (w : World) (h1 : IRow w a1 l1 c1 z1) (hs : l1 ≤ 16777216) :
  Calls Try.prog 79 #[.slice a1 l1 c1] w fun e w' => e = .returned (.slice (some ⟨w.heap.size, 0, none⟩) l1 l1) ∧
   w'.ownsRow w.heap.size 3 1 (.slice (some ⟨w.heap.size, 0, none⟩) l1 l1) l1 (cI z1) ∧ Below w.heap.size w w' := by
 obtain ⟨i0, hi, hz0, hz1, hz2⟩ := info_parts Try.infoI64
 have s1 := h1.size
 have hcell := h1.cell
 clear h1
 go_enter Try.func79, Try.ntmps79
 go_wp2_with (at_make; refine wpList_make_full _ rfl _ _ 28 rfl w.heap.size 3 i0 (.int .i64 0) 1 Try.underlying28 hi hz0 hz1 .i64 .i64 _ _ l1 rfl rfl rfl rfl ?c1 ?c2 ?c3 ?_)
 case c1 => rw [hz2]; omega
 case c2 => unfold maxLen; omega
 case c3 => exact Nat.le_refl _
 intro w1 hown hgrow
 have hb1 : Below w.heap.size w w1 := (Below.refl _ _).grown hgrow (Nat.le_refl _) (by intro k hk; cases hk)
 have hown1 : w1.ownsRow w.heap.size 3 1 (.slice (some ⟨w.heap.size, 0, none⟩) l1 l1) l1 (halfI z1 l1 0) := by
  rw [halfI_none, ← toList_madeCells_one]; simpa [Value.cells] using hown
 clear hown hgrow hi hz0 hz1 hz2
 go_wp2
 go_loopw [4] (fun i wr => ∃ k : Nat, k ≤ l1 ∧ i = .int .i64 k ∧ wr.ownsRow w.heap.size 3 1 (.slice (some ⟨w.heap.size, 0, none⟩) l1 l1) l1 (halfI z1 l1 k) ∧ Below w.heap.size w wr) (fun i _ => l1 - (intOf i).toNat)
 case atStart => exact ⟨0, Nat.zero_le _, rfl, hown1, hb1⟩
 case round =>
  obtain ⟨k, hk, rfl, hown, hb⟩ := hrel
  by_cases hlt : k < l1
  ·rcases hcell with h0 | ⟨b, off, rfl, hc⟩
   ·omega
   have cx : wr.cell? ⟨b, off + k, none⟩ = some (.int .i64 (z1.getD k 0)) := by rw [hb.cell (block_lt (hc k hlt))]; exact hc k hlt
   have cf := hown.frozenAt k
   have cc : ∃ u, wr.cell? ⟨w.heap.size, k, none⟩ = some u := by
    rw [hown.cellAt k (by omega)]
    exact ⟨_, List.getElem?_eq_getElem (by rw [halfI_length _ _ _ s1 (by omega)]; exact hlt)⟩
   obtain ⟨u, cu⟩ := cc
   have R := hown.stored k (.int .i64 (z1.getD k 0))
   rw [halfI_set _ _ _ s1 hlt] at R
   have hb' := hb.setCell (p := ⟨w.heap.size, k, none⟩) (Nat.le_refl _) (.int .i64 (z1.getD k 0))
   have HR := R.1
   generalize hx : z1.getD k 0 = x at cx HR hb'
   have HX : Hid (z1.getD k 0 = x) := hx
   clear hx hc hown R hb hb1 hown1
   go_wp2
   go_roundw
   case rel => exact ⟨k + 1, by omega, by go_num, HR, hb'⟩
   case measure => simp [intOf]; omega
  ·have hk' : k = l1 := by omega
   subst hk'
   rw [halfI_all _ _ s1] at hown
   go_wp2
   go_ret
   exact ⟨rfl, hown, hb⟩

def marksI (k : Int) (n : Nat) : List Int := (List.range n).map fun i : Nat => (k + i)

theorem marksI_length (k : Int) (n : Nat) : (marksI k n).length = n := by simp [marksI]
theorem marksI_get (k : Int) (n i : Nat) (h : i < n) : (marksI k n).getD i 0 = (k + i) := by
 simp [marksI, List.getD_eq_getElem?_getD, List.getElem?_map, List.getElem?_range h]
theorem marksI_succ (k : Int) (n : Nat) : marksI k (n + 1) = marksI k n ++ [(k + n)] := by
 simp [marksI, List.range_succ]
theorem marksI_byte (k : Int) (n : Nat) (h0 : 0 ≤ k) (h1 : k ≤ 1099511627776) (hn : n ≤ 16777216) : I64s (marksI k n) := by
 intro z hz
 simp only [marksI, List.mem_map, List.mem_range] at hz
 obtain ⟨i, hi, rfl⟩ := hz
 omega

def markedI (k : Int) (zs : List Int) (j : Nat) : List Int := marksI k j ++ zs.drop j

theorem markedI_set (k : Int) (zs : List Int) (j : Nat) (h : j < zs.length) : (cI (markedI k zs j)).set j (.int .i64 ((k + j))) = cI (markedI k zs (j + 1)) := by
 have hl : (cI (marksI k j)).length = j := by rw [cI_length, marksI_length]
 unfold markedI
 rw [cI_append, List.set_append_right _ _ (by omega), hl, Nat.sub_self, marksI_succ, cI_append, cI_append]
 rw [List.drop_eq_getElem_cons h]
 simp only [cI, List.map_cons, List.set_cons_zero, List.map_nil, List.append_assoc, List.cons_append, List.nil_append]

theorem markedI_length (k : Int) (zs : List Int) (j : Nat) (h : j ≤ zs.length) : (markedI k zs j).length = zs.length := by
 simp [markedI, marksI_length]; omega

set_option maxRecDepth 100000 in
set_option maxHeartbeats 400000 in
theorem markI_any (base g n cap : Nat) (zs : List Int) (k : Int) (w : World) (hown : w.ownsRow base 3 1 (.slice (some ⟨g, 0, none⟩) n cap) n (cI zs)) (hn : n ≤ 16777216) (hk0 : 0 ≤ k) (hk1 : k ≤ 1099511627776) :
  Calls Try.prog 12 #[.slice (some ⟨g, 0, none⟩) n cap, .int .i64 k] w fun e w' => e = .returned (.int .i64 (k + n)) ∧
   w'.ownsRow base 3 1 (.slice (some ⟨g, 0, none⟩) n cap) n (cI (marksI k n)) ∧ w.grownBy w' (some g) := by
 have hl : zs.length = n := by have := hown.1; simpa [cI] using this
 go_enter Try.func12, Try.ntmps12
 go_wp2
 go_loopw [1, 5] (fun m i wr => ∃ j : Nat, j ≤ n ∧ i = .int .i64 j ∧ m = .int .i64 (k + j) ∧ wr.ownsRow base 3 1 (.slice (some ⟨g, 0, none⟩) n cap) n (cI (markedI k zs j)) ∧ w.grownBy wr (some g)) (fun _ i _ => n - (intOf i).toNat)
 case atStart => exact ⟨0, Nat.zero_le _, rfl, by simp, by simpa [markedI, marksI] using hown, World.grownBy.refl _ _⟩
 case round =>
  obtain ⟨j, hj, rfl, rfl, how, hg⟩ := hrel
  by_cases hlt : j < n
  ·have cf := how.frozenAt j
   have cc : ∃ u, wr.cell? ⟨g, j, none⟩ = some u := by
    rw [how.cellAt j (by omega)]
    exact ⟨_, List.getElem?_eq_getElem (by rw [cI_length, markedI_length _ _ _ (by omega)]; omega)⟩
   obtain ⟨u, cu⟩ := cc
   have R := (how.stored j (.int .i64 ((k + j)))).1
   rw [markedI_set _ _ _ (by omega)] at R
   have hg' := grown_setCell hg j (.int .i64 ((k + j)))
   clear how hg hown
   go_wp2
   go_roundw
   case rel => exact ⟨j + 1, by omega, by go_num, by go_num, R, hg'⟩
   case measure => simp [intOf]; omega
  ·have hj' : j = n := by omega
   subst hj'
   have hd : markedI k zs j = marksI k j := by simp [markedI, ← hl]
   rw [hd] at how
   clear hd
   go_wp2
   go_ret
   exact ⟨rfl, how, hg⟩

set_option maxRecDepth 100000 in
set_option maxHeartbeats 400000 in
theorem markI_nil (k : Int) (w : World) :
  Calls Try.prog 12 #[.slice none 0 0, .int .i64 k] w fun e w' => e = .returned (.int .i64 k) ∧ w' = w := by
 go_enter Try.func12, Try.ntmps12
 go_wp2
 go_loop [1, 5] (fun m i => m = .int .i64 k ∧ i = .int .i64 0) (fun _ _ => 0)
 case atStart => exact ⟨rfl, rfl⟩
 case round =>
  obtain ⟨rfl, rfl⟩ := hrel
  go_wp2
  go_ret
  exact ⟨rfl, rfl⟩

set_option maxRecDepth 100000 in
set_option maxHeartbeats 400000 in
theorem heldI_any (ao : Option Addr) (n cap : Nat) (k : Int) (w : World) (h1 : IRow w ao n cap (marksI k n)) (hn : n ≤ 16777216) (hk0 : 0 ≤ k) (hk1 : k ≤ 1099511627776) :
  Calls Try.prog 13 #[.slice ao n cap, .int .i64 k] w fun e w' => e = .returned (.int .i64 (k + n)) ∧ w' = w := by
 have hcell := h1.cell
 clear h1
 go_enter Try.func13, Try.ntmps13
 go_wp2
 go_loop [1, 5] (fun m i => ∃ j : Nat, j ≤ n ∧ i = .int .i64 j ∧ m = .int .i64 (k + j)) (fun _ i => n - (intOf i).toNat)
 case atStart => exact ⟨0, Nat.zero_le _, rfl, by simp⟩
 case round =>
  obtain ⟨j, hj, rfl, rfl⟩ := hrel
  by_cases hlt : j < n
  ·rcases hcell with h0 | ⟨b, off, rfl, hc⟩
   ·omega
   have cx := hc j hlt
   rw [marksI_get _ _ _ hlt] at cx
   clear hc
   go_wp2
   go_round
   case rel => exact ⟨j + 1, by omega, by go_num, by go_num⟩
   case measure => simp [intOf]; omega
  ·have hj' : j = n := by omega
   subst hj'
   go_wp2
   go_ret
   exact ⟨rfl, rfl⟩

theorem eqI_same (a1 : Option Addr) (l1 c1 : Nat) (a2 : Option Addr) (l2 c2 : Nat) (zs : List Int) (w : World) (h1 : IRow w a1 l1 c1 zs) (h2 : IRow w a2 l2 c2 zs) :
  Calls Try.prog 9 #[.slice a1 l1 c1, .slice a2 l2 c2] w fun e w' => e = .returned (.bool true) ∧ ∃ n, w' = w.drewN n := by
 refine (eqI_any a1 l1 c1 zs a2 l2 c2 zs w h1 h2).mono ?_
 rintro e w' ⟨rfl, n, rfl⟩
 exact ⟨by simp, n, rfl⟩

theorem irow_own {w : World} {base : Nat} {ao : Option Addr} {n cap : Nat} {zs : List Int} (h : w.ownsRow base 3 1 (.slice ao n cap) n (cI zs)) (hz : I64s zs) : IRow w ao n cap zs := by
 obtain ⟨ao', cap', e, hr⟩ := irow_of_own h hz
 cases e
 exact hr

theorem markI_grown (base : Nat) (ao : Option Addr) (n cap : Nat) (zs : List Int) (k : Int) (w : World) (hown : w.ownsRow base 3 1 (.slice ao n cap) n (cI zs)) (hn : n ≤ 16777216) (hk0 : 0 ≤ k) (hk1 : k ≤ 1099511627776) :
  Calls Try.prog 12 #[.slice ao n cap, .int .i64 k] w fun e w' => e = .returned (.int .i64 (k + n)) ∧
   w'.ownsRow base 3 1 (.slice ao n cap) n (cI (marksI k n)) ∧ w.grownBy w' (Value.slice ao n cap).ownBlock := by
 rcases hown.2 with ⟨h, h0⟩ | ⟨g, cap', cur, h, hg, h3⟩
 ·cases h
  refine (markI_nil k w).mono ?_
  rintro e w' ⟨rfl, rfl⟩
  exact ⟨by simp, by simpa [marksI, cI] using World.ownsRow_nil _ _ _ _, World.grownBy.refl _ _⟩
 ·cases h
  refine (markI_any base g n cap zs k w hown hn hk0 hk1).mono ?_
  rintro e w' ⟨rfl, ho, hgr⟩
  exact ⟨rfl, ho, hgr⟩

theorem copyI_made (a1 : Option Addr) (l1 c1 : Nat) (z1 : List Int) (w : World) (h1 : IRow w a1 l1 c1 z1) (hs : l1 ≤ 16777216) :
  Calls Try.prog 79 #[.slice a1 l1 c1] w fun e w' => ∃ ao cap, e = .returned (.slice ao l1 cap) ∧
   w'.ownsRow w.heap.size 3 1 (.slice ao l1 cap) l1 (cI z1) ∧ IRow w' ao l1 cap z1 ∧ Below w.heap.size w w' := by
 refine (copyI_any a1 l1 c1 z1 w h1 hs).mono ?_
 rintro e w' ⟨rfl, ho, hb⟩
 exact ⟨_, _, rfl, ho, irow_own ho h1.byte, hb⟩

def vrowF : Flat VR where
 k := 3
 cs := fun e => [.int .i64 e.i, .int .i64 e.m, .int .i64 e.b]
 len := fun _ => rfl
 pos := by decide
 one := fun _ v hv => by
  simp only [List.mem_cons, List.not_mem_nil, or_false] at hv
  rcases hv with rfl | rfl | rfl <;> rfl

theorem vrow_at {w : World} {ao : Option Addr} {len cap : Nat} {l : List VR} (h : GRow vrowF w ao len cap l) (i : Nat) (hi : i < len) : ∃ (x : VR) (b off : Nat), l[i]? = some x ∧ ao = some ⟨b, off, none⟩ ∧
  w.cell? ⟨b, off + i * 3, none⟩ = some (.int .i64 x.i) ∧ w.cell? ⟨b, off + i * 3 + 1, none⟩ = some (.int .i64 x.m) ∧ w.cell? ⟨b, off + i * 3 + 2, none⟩ = some (.int .i64 x.b) := by
 obtain ⟨x, b, off, hx, ha, hc⟩ := h.at i hi
 exact ⟨x, b, off, hx, ha, hc 0 _ rfl, hc 1 _ rfl, hc 2 _ rfl⟩

structure VTab (w : World) (a : Option Addr) (n c : Nat) (o : Option Addr) (p q : Nat) (v : VT) : Prop where
 rows : GRow vrowF w a n c v.rows
 own : IRow w o p q v.own

theorem VTab.below {w w' : World} {a : Option Addr} {n c : Nat} {o : Option Addr} {p q : Nat} {v : VT} (h : VTab w a n c o p q v) (hb : Below w.heap.size w w') : VTab w' a n c o p q v :=
 ⟨h.rows.below hb, h.own.below hb⟩

structure BR where
 id : Int
 name : ByteArray
 ports : List PT
 f : List FE
 v : VT
 ticks : Int
 parse : Int
 word : Int
 drops : Int
 vers : Int

structure BrRow (w : World) (a : Option Addr) (n c : Nat) (fa : Option Addr) (fn fc : Nat) (ra : Option Addr) (rn rc : Nat) (oa : Option Addr) (on oc : Nat) (b : BR) : Prop where
 ports : GRow ptF w a n c b.ports
 f : GRow fentF w fa fn fc b.f
 v : VTab w ra rn rc oa on oc b.v

theorem BrRow.below {w w' : World} {a : Option Addr} {n c : Nat} {fa : Option Addr} {fn fc : Nat} {ra : Option Addr} {rn rc : Nat} {oa : Option Addr} {on oc : Nat} {b : BR} (h : BrRow w a n c fa fn fc ra rn rc oa on oc b) (hb : Below w.heap.size w w') : BrRow w' a n c fa fn fc ra rn rc oa on oc b :=
 ⟨h.ports.below hb, h.f.below hb, h.v.below hb⟩

structure BV where
 a : Option Addr
 n : Nat
 c : Nat
 fa : Option Addr
 fn : Nat
 fc : Nat
 ra : Option Addr
 rn : Nat
 rc : Nat
 oa : Option Addr
 on : Nat
 oc : Nat
 B : BR

def BV.Reads (w : World) (x : BV) : Prop := BrRow w x.a x.n x.c x.fa x.fn x.fc x.ra x.rn x.rc x.oa x.on x.oc x.B

def brF : Flat BV where
 k := 11
 cs := fun x => [.int .i64 x.B.id, .string x.B.name, .slice x.a x.n x.c, .slice x.fa x.fn x.fc, .slice x.ra x.rn x.rc, .slice x.oa x.on x.oc, .int .i64 x.B.ticks, .int .i64 x.B.parse, .int .i64 x.B.word, .int .i64 x.B.drops, .int .i64 x.B.vers]
 len := fun _ => rfl
 pos := by decide
 one := fun _ v hv => by
  simp only [List.mem_cons, List.not_mem_nil, or_false] at hv
  rcases hv with rfl | rfl | rfl | rfl | rfl | rfl | rfl | rfl | rfl | rfl | rfl <;> rfl

theorem br_at {w : World} {ao : Option Addr} {len cap : Nat} {l : List BV} (h : GRow brF w ao len cap l) (i : Nat) (hi : i < len) : ∃ (x : BV) (b off : Nat), l[i]? = some x ∧ ao = some ⟨b, off, none⟩ ∧ w.cell? ⟨b, off + i * 11, none⟩ = some (.int .i64 x.B.id) ∧ w.cell? ⟨b, off + i * 11 + 1, none⟩ = some (.string x.B.name) ∧ w.cell? ⟨b, off + i * 11 + 2, none⟩ = some (.slice x.a x.n x.c) ∧ w.cell? ⟨b, off + i * 11 + 3, none⟩ = some (.slice x.fa x.fn x.fc) ∧ w.cell? ⟨b, off + i * 11 + 4, none⟩ = some (.slice x.ra x.rn x.rc) ∧ w.cell? ⟨b, off + i * 11 + 5, none⟩ = some (.slice x.oa x.on x.oc) ∧ w.cell? ⟨b, off + i * 11 + 6, none⟩ = some (.int .i64 x.B.ticks) ∧ w.cell? ⟨b, off + i * 11 + 7, none⟩ = some (.int .i64 x.B.parse) ∧ w.cell? ⟨b, off + i * 11 + 8, none⟩ = some (.int .i64 x.B.word) ∧ w.cell? ⟨b, off + i * 11 + 9, none⟩ = some (.int .i64 x.B.drops) ∧ w.cell? ⟨b, off + i * 11 + 10, none⟩ = some (.int .i64 x.B.vers) := by
 obtain ⟨x, b, off, hx, ha, hc⟩ := h.at i hi
 exact ⟨x, b, off, hx, ha, hc 0 _ rfl, hc 1 _ rfl, hc 2 _ rfl, hc 3 _ rfl, hc 4 _ rfl, hc 5 _ rfl, hc 6 _ rfl, hc 7 _ rfl, hc 8 _ rfl, hc 9 _ rfl, hc 10 _ rfl⟩

theorem brInfo : (Try.prog.info? 62).map (fun i => (i.zero, i.size, i.bytes)) = some (some (.agg #[.int .i64 0, .string ⟨#[]⟩, .slice none 0 0, .slice none 0 0, .slice none 0 0, .slice none 0 0, .int .i64 0, .int .i64 0, .int .i64 0, .int .i64 0, .int .i64 0]), brF.k, 160) := by kernel_rfl

theorem BV.Reads.below {w w' : World} {x : BV} (h : x.Reads w) (hb : Below w.heap.size w w') : x.Reads w' := BrRow.below h hb

structure LK where
 a : Int
 p : Int
 b : Int
 q : Int
 deriving DecidableEq

structure SY where
 l : Int
 back : Bool
 v : VD

def linkF : Flat LK where
 k := 4
 cs := fun x => [.int .i64 x.a, .int .i64 x.p, .int .i64 x.b, .int .i64 x.q]
 len := fun _ => rfl
 pos := by decide
 one := fun _ v hv => by
  simp only [List.mem_cons, List.not_mem_nil, or_false] at hv
  rcases hv with rfl | rfl | rfl | rfl <;> rfl

def sayF : Flat SY where
 k := 7
 cs := fun x => [.int .i64 x.l, .bool x.back, .int .i64 x.v.r, .int .i64 x.v.c, .int .i64 x.v.h, .int .i64 x.v.b, .int .i64 x.v.p]
 len := fun _ => rfl
 pos := by decide
 one := fun _ v hv => by
  simp only [List.mem_cons, List.not_mem_nil, or_false] at hv
  rcases hv with rfl | rfl | rfl | rfl | rfl | rfl | rfl <;> rfl

theorem link_at {w : World} {ao : Option Addr} {len cap : Nat} {l : List LK} (h : GRow linkF w ao len cap l) (i : Nat) (hi : i < len) : ∃ (x : LK) (b off : Nat), l[i]? = some x ∧ ao = some ⟨b, off, none⟩ ∧ w.cell? ⟨b, off + i * 4, none⟩ = some (.int .i64 x.a) ∧ w.cell? ⟨b, off + i * 4 + 1, none⟩ = some (.int .i64 x.p) ∧ w.cell? ⟨b, off + i * 4 + 2, none⟩ = some (.int .i64 x.b) ∧ w.cell? ⟨b, off + i * 4 + 3, none⟩ = some (.int .i64 x.q) := by
 obtain ⟨x, b, off, hx, ha, hc⟩ := h.at i hi
 exact ⟨x, b, off, hx, ha, hc 0 _ rfl, hc 1 _ rfl, hc 2 _ rfl, hc 3 _ rfl⟩

theorem say_at {w : World} {ao : Option Addr} {len cap : Nat} {l : List SY} (h : GRow sayF w ao len cap l) (i : Nat) (hi : i < len) : ∃ (x : SY) (b off : Nat), l[i]? = some x ∧ ao = some ⟨b, off, none⟩ ∧ w.cell? ⟨b, off + i * 7, none⟩ = some (.int .i64 x.l) ∧ w.cell? ⟨b, off + i * 7 + 1, none⟩ = some (.bool x.back) ∧ w.cell? ⟨b, off + i * 7 + 2, none⟩ = some (.int .i64 x.v.r) ∧ w.cell? ⟨b, off + i * 7 + 3, none⟩ = some (.int .i64 x.v.c) ∧ w.cell? ⟨b, off + i * 7 + 4, none⟩ = some (.int .i64 x.v.h) ∧ w.cell? ⟨b, off + i * 7 + 5, none⟩ = some (.int .i64 x.v.b) ∧ w.cell? ⟨b, off + i * 7 + 6, none⟩ = some (.int .i64 x.v.p) := by
 obtain ⟨x, b, off, hx, ha, hc⟩ := h.at i hi
 exact ⟨x, b, off, hx, ha, hc 0 _ rfl, hc 1 _ rfl, hc 2 _ rfl, hc 3 _ rfl, hc 4 _ rfl, hc 5 _ rfl, hc 6 _ rfl⟩

structure NV where
 ba : Option Addr
 bn : Nat
 bc : Nat
 bs : List BV
 la : Option Addr
 ln : Nat
 lc : Nat
 ls : List LK
 sa : Option Addr
 sn : Nat
 sc : Nat
 ss : List SY

structure NetRow (w : World) (N : NV) : Prop where
 b : GRow brF w N.ba N.bn N.bc N.bs
 item : ∀ x ∈ N.bs, x.Reads w
 l : GRow linkF w N.la N.ln N.lc N.ls
 s : GRow sayF w N.sa N.sn N.sc N.ss

theorem NetRow.below {w w' : World} {N : NV} (h : NetRow w N) (hb : Below w.heap.size w w') : NetRow w' N :=
 ⟨h.b.below hb, fun x hx => (h.item x hx).below hb, h.l.below hb, h.s.below hb⟩

def NV.brs (N : NV) : List BR := N.bs.map BV.B

end Go.Proofs.Ytnichegfadgpdaa
