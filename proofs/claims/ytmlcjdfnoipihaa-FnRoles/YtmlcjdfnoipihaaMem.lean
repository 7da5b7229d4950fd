/-
  Worlds: what stays while blocks are made and elder ones are written; the cells of a box.
-/
import Derived.Test.YtmlcjdfnoipihaaHelp
import Derived.Deep.RegionHeld
namespace Go.Proofs.Ytmlcjdfnoipihaa
open Go.RowKit

theorem below_one (w : World) (o : Obj) : Below w.heap.size w (w.alloc o) := (Below.refl _ _).alloc (Nat.le_refl _) o

theorem below_two (w : World) (o p : Obj) : Below w.heap.size w ((w.alloc o).alloc p) := (below_one w o).alloc (by simp) p

theorem below_three (w : World) (o p q : Obj) : Below w.heap.size w (((w.alloc o).alloc p).alloc q) := (below_two w o p).alloc (by simp; omega) q

theorem block_last (w : World) (o : Obj) : (w.alloc o).heap[w.heap.size]? = some o := by show (w.heap.push o)[w.heap.size]? = _; simp

theorem kept_one {w w1 : World} {o : Obj} (hb : Below (w.alloc o).heap.size (w.alloc o) w1) : w1.heap[w.heap.size]? = some o := by
  rw [hb.block _ (by simp)]; exact block_last w o

theorem kept_two {w w1 : World} {o p : Obj} (hb : Below ((w.alloc o).alloc p).heap.size ((w.alloc o).alloc p) w1) : w1.heap[w.heap.size]? = some o ∧ w1.heap[w.heap.size + 1]? = some p := by
  refine ⟨?_, ?_⟩
  · have := below_one (w.alloc o) p
    exact kept_one (w := w) (o := o) ((this.trans (hb.mono this.size)))
  · have := kept_one (w := w.alloc o) (o := p) hb; simpa using this

theorem kept_three {w w1 : World} {o p q : Obj} (hb : Below (((w.alloc o).alloc p).alloc q).heap.size (((w.alloc o).alloc p).alloc q) w1) : w1.heap[w.heap.size]? = some o ∧ w1.heap[w.heap.size + 1]? = some p ∧ w1.heap[w.heap.size + 1 + 1]? = some q := by
  have t := below_one ((w.alloc o).alloc p) q
  have u := kept_two (w := w) (o := o) (p := p) (t.trans (hb.mono t.size))
  refine ⟨u.1, u.2, ?_⟩
  have := kept_one (w := (w.alloc o).alloc p) (o := q) hb; simpa using this

theorem cells4 {w : World} {C : Nat} {t : TypeId} {c0 c1 c2 c3 : Value} (h : w.heap[C]? = some (.cells #[c0, c1, c2, c3] t)) :
    (w.cell? ⟨C, 0, none⟩ = some c0 ∧ w.cell? ⟨C, 1, none⟩ = some c1 ∧ w.cell? ⟨C, 2, none⟩ = some c2 ∧ w.cell? ⟨C, 3, none⟩ = some c3) ∧
    (w.frozen? ⟨C, 0, none⟩ = false ∧ w.frozen? ⟨C, 1, none⟩ = false ∧ w.frozen? ⟨C, 2, none⟩ = false ∧ w.frozen? ⟨C, 3, none⟩ = false) := by
  refine ⟨⟨?_, ?_, ?_, ?_⟩, ?_, ?_, ?_, ?_⟩ <;> simp [World.cell?, World.frozen?, h]

/-- What the call owns stays while an elder block is written. -/
theorem own_set {w : World} {base : Nat} {e : TypeId} {v : Value} {n : Nat} {xs : List Value} (h : w.ownsRow base e 1 v n xs) {g j : Nat} {u : Value} (hg : g < base) : (w.setCell ⟨g, j, none⟩ u).ownsRow base e 1 v n xs :=
  own_above h (grown_setCell (World.grownBy.refl _ _) j u) (by intro k hk; cases hk; exact hg)

theorem below_set {B : Nat} {a w : World} (h : Below B a w) {g : Nat} (hB : B ≤ g) (j : Nat) (u : Value) : Below B a (w.setCell ⟨g, j, none⟩ u) := h.setCell (p := ⟨g, j, none⟩) hB u

theorem grown_below {a b c : World} {row : Option Nat} (h : Below a.heap.size a b) (k : b.grownBy c row) : a.grownBy c row where
  os := k.os.trans h.os
  tape := k.tape.trans h.tape
  output := k.output.trans h.output
  size := Nat.le_trans h.size k.size
  block := fun j hj hne => (k.block j (Nat.lt_of_lt_of_le hj h.size) hne).trans (h.block j hj)

theorem undrew {B n : Nat} {w w' : World} (h : Below B (w.drewN n) w') : Below B w w' := ⟨h.os, h.tape, h.output, h.size, h.block⟩

theorem kept_block {w w' : World} {i : Nat} {o : Obj} (h : w.heap[i]? = some o) (hb : Below w.heap.size w w') : w'.heap[i]? = some o := by
  by_cases hlt : i < w.heap.size
  · rw [hb.block i hlt]; exact h
  · rw [Array.getElem?_eq_none (by omega)] at h; cases h

theorem cells5 {w : World} {C : Nat} {t : TypeId} {c0 c1 c2 c3 c4 : Value} (h : w.heap[C]? = some (.cells #[c0, c1, c2, c3, c4] t)) :
    (w.cell? ⟨C, 0, none⟩ = some c0 ∧ w.cell? ⟨C, 1, none⟩ = some c1 ∧ w.cell? ⟨C, 2, none⟩ = some c2 ∧ w.cell? ⟨C, 3, none⟩ = some c3 ∧ w.cell? ⟨C, 4, none⟩ = some c4) ∧
    (w.frozen? ⟨C, 0, none⟩ = false ∧ w.frozen? ⟨C, 1, none⟩ = false ∧ w.frozen? ⟨C, 2, none⟩ = false ∧ w.frozen? ⟨C, 3, none⟩ = false ∧ w.frozen? ⟨C, 4, none⟩ = false) := by
  refine ⟨⟨?_, ?_, ?_, ?_, ?_⟩, ?_, ?_, ?_, ?_, ?_⟩ <;> simp [World.cell?, World.frozen?, h]

theorem set_block5 {w : World} {b j : Nat} {cur : Array Value} {t : TypeId} (h : w.heap[b]? = some (.cells cur t)) (u : Value) : (w.setCell ⟨b, j, none⟩ u).heap[b]? = some (.cells (cur.setIfInBounds j u) t) := heap_setCell_same w b j cur t u h

theorem kept_set {w : World} {i b j : Nat} {o : Obj} {u : Value} (h : w.heap[i]? = some o) (hne : i ≠ b) : (w.setCell ⟨b, j, none⟩ u).heap[i]? = some o := by rw [Below.heap_setCell _ _ _ _ hne]; exact h

theorem cells2 {w : World} {C : Nat} {t : TypeId} {c0 c1 : Value} (h : w.heap[C]? = some (.cells #[c0, c1] t)) :
    (w.cell? ⟨C, 0, none⟩ = some c0 ∧ w.cell? ⟨C, 1, none⟩ = some c1) ∧ (w.frozen? ⟨C, 0, none⟩ = false ∧ w.frozen? ⟨C, 1, none⟩ = false) := by
  refine ⟨⟨?_, ?_⟩, ?_, ?_⟩ <;> simp [World.cell?, World.frozen?, h]

theorem set_block2 {w : World} {b : Nat} {c0 c1 : Value} {t : TypeId} (h : w.heap[b]? = some (.cells #[c0, c1] t)) (u : Value) : (w.setCell ⟨b, 1, none⟩ u).heap[b]? = some (.cells #[c0, u] t) := by
  have := heap_setCell_same w b 1 #[c0, c1] t u h
  simpa using this

theorem below_grown_in {w w' : World} {rb : Nat} (hg : w.grownBy w' (some rb)) {B : Nat} (h1 : B ≤ rb) (h2 : B ≤ w.heap.size) : Below B w w' := (Below.refl B w).grown hg h2 (by intro k hk; cases hk; exact h1)

theorem grownTr {a b c : World} {row : Option Nat} (h : a.grownBy b row) (k : b.grownBy c row) : a.grownBy c row :=
  ⟨k.os.trans h.os, k.tape.trans h.tape, k.output.trans h.output, Nat.le_trans h.size k.size, fun i hi hn => (k.block i (Nat.lt_of_lt_of_le hi h.size) hn).trans (h.block i hi hn)⟩

theorem grownOf {a b : World} {row : Option Nat} (h : Below a.heap.size a b) : a.grownBy b row := ⟨h.os, h.tape, h.output, h.size, fun k hk _ => h.block k hk⟩

theorem grown_set {w : World} {rb : Nat} (j : Nat) (u : Value) : w.grownBy (w.setCell ⟨rb, j, none⟩ u) (some rb) := grown_setCell (World.grownBy.refl _ _) j u

theorem cells3 {w : World} {C : Nat} {t : TypeId} {c0 c1 c2 : Value} (h : w.heap[C]? = some (.cells #[c0, c1, c2] t)) :
    (w.cell? ⟨C, 0, none⟩ = some c0 ∧ w.cell? ⟨C, 1, none⟩ = some c1 ∧ w.cell? ⟨C, 2, none⟩ = some c2) ∧ (w.frozen? ⟨C, 0, none⟩ = false ∧ w.frozen? ⟨C, 1, none⟩ = false ∧ w.frozen? ⟨C, 2, none⟩ = false) := by
  refine ⟨⟨?_, ?_, ?_⟩, ?_, ?_, ?_⟩ <;> simp [World.cell?, World.frozen?, h]

theorem set_block3a {w : World} {b : Nat} {c0 c1 c2 : Value} {t : TypeId} (h : w.heap[b]? = some (.cells #[c0, c1, c2] t)) (u : Value) : (w.setCell ⟨b, 1, none⟩ u).heap[b]? = some (.cells #[c0, u, c2] t) := by
  have := heap_setCell_same w b 1 #[c0, c1, c2] t u h
  simpa using this

theorem set_block3b {w : World} {b : Nat} {c0 c1 c2 : Value} {t : TypeId} (h : w.heap[b]? = some (.cells #[c0, c1, c2] t)) (u : Value) : (w.setCell ⟨b, 2, none⟩ u).heap[b]? = some (.cells #[c0, c1, u] t) := by
  have := heap_setCell_same w b 2 #[c0, c1, c2] t u h
  simpa using this

theorem empty_row' (w : World) (b : Nat) : Row w (some ⟨b, 0, none⟩) 0 0 [] := ⟨rfl, Nat.le_refl _, Nat.zero_le _, (by intro h; cases h), (fun x hx => by cases hx), .inl rfl⟩

theorem kept_drew {w w1 : World} {i : Nat} {o : Obj} {B : Nat} (h : w.heap[i]? = some o) (hb : Below B w.drew w1) (hB : w.heap.size ≤ B := by simp) : w1.heap[i]? = some o := by
  have hi := (Array.getElem?_eq_some_iff.1 h).1
  rw [hb.block i (by omega)]; exact h

theorem kept_grown {w w' : World} {row : Option Nat} {i : Nat} {o : Obj} (h : w.heap[i]? = some o) (hg : w.grownBy w' row) (hne : ∀ k, row = some k → k ≠ i) : w'.heap[i]? = some o := by
  by_cases hlt : i < w.heap.size
  · rw [hg.block i hlt (fun e => hne i e.symm rfl)]; exact h
  · rw [Array.getElem?_eq_none (by omega)] at h; cases h

theorem below_set4 {B : Nat} {a w : World} (h : Below B a w) {g : Nat} (hB : B ≤ g) (c0 c1 c2 c3 : Value) : Below B a ((((w.setCell ⟨g, 0, none⟩ c0).setCell ⟨g, 1, none⟩ c1).setCell ⟨g, 2, none⟩ c2).setCell ⟨g, 3, none⟩ c3) :=
  below_set (below_set (below_set (below_set h hB 0 c0) hB 1 c1) hB 2 c2) hB 3 c3

theorem own_set4 {w : World} {base : Nat} {e : TypeId} {v : Value} {n : Nat} {xs : List Value} (h : w.ownsRow base e 1 v n xs) {g : Nat} (hg : g < base) (c0 c1 c2 c3 : Value) : ((((w.setCell ⟨g, 0, none⟩ c0).setCell ⟨g, 1, none⟩ c1).setCell ⟨g, 2, none⟩ c2).setCell ⟨g, 3, none⟩ c3).ownsRow base e 1 v n xs :=
  own_set (own_set (own_set (own_set h hg) hg) hg) hg

theorem below_set5 {B : Nat} {a w : World} (h : Below B a w) {g : Nat} (hB : B ≤ g) (c0 c1 c2 c3 c4 : Value) : Below B a (((((w.setCell ⟨g, 0, none⟩ c0).setCell ⟨g, 1, none⟩ c1).setCell ⟨g, 2, none⟩ c2).setCell ⟨g, 3, none⟩ c3).setCell ⟨g, 4, none⟩ c4) :=
  below_set (below_set (below_set (below_set (below_set h hB 0 c0) hB 1 c1) hB 2 c2) hB 3 c3) hB 4 c4

theorem Row.set {w : World} {b off len cap : Nat} {zs : List Int} (h : Row w (some ⟨b, off, none⟩) len cap zs) {P : Nat} (hP : ¬ b = P) (j : Nat) (u : Value) : Row (w.setCell ⟨P, j, none⟩ u) (some ⟨b, off, none⟩) len cap zs where
  size := h.size
  le := h.le
  top := h.top
  nil := h.nil
  byte := h.byte
  cell := by
    rcases h.cell with h0 | ⟨b', off', e, hc⟩
    · exact .inl h0
    · cases e
      refine .inr ⟨b, off, rfl, fun i hi => ?_⟩
      rw [World.cell?_setCell_far w ⟨P, j, none⟩ ⟨b, off + i, none⟩ u (fun e => hP e.symm)]
      exact hc i hi

theorem gr_trans {w W W' : World} (a : Below w.heap.size w W) (b : Below W.heap.size W W') : Below w.heap.size w W' := a.trans (b.mono a.size)

theorem gr_alloc {w W : World} (a : Below w.heap.size w W) (o : Obj) : Below w.heap.size w (W.alloc o) := gr_trans a (below_one W o)

theorem gr_drew {w W : World} (a : Below w.heap.size w W) : Below w.heap.size w W.drew := a.drew

theorem gr_drewN {w W : World} (a : Below w.heap.size w W) (n : Nat) : Below w.heap.size w (W.drewN n) := below_drewN a n

theorem belowGr {a b c : World} {rb : Nat} (h : Below a.heap.size a b) (hg : b.grownBy c (some rb)) (hr : a.heap.size ≤ rb) : Below a.heap.size a c := h.grown hg h.size (by intro k hk; cases hk; exact hr)

end Go.Proofs.Ytmlcjdfnoipihaa
