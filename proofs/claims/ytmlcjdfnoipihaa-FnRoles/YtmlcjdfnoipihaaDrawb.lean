/-
  What is drawn of a cursor: bytes, bodies, numbers, places; each by what may come.
-/
import Derived.Test.YtmlcjdfnoipihaaDraw
import Derived.Test.YtmlcjdfnoipihaaNum
namespace Go.Proofs.Ytmlcjdfnoipihaa
open Go.RowKit

theorem Cur.belowAt {w w' : World} {C B : Nat} {a0 : Option Addr} {l0 c0 : Nat} {z0 : List Int} (h : Cur w C a0 l0 c0 z0) (hb : Below B w w') (hC : C < B) : Cur w' C a0 l0 c0 z0 where
  row := fun w2 h2 => h.row w2 ((hb.mono (Nat.le_of_lt hC)).trans h2)
  small := h.small
  here := by
    obtain ⟨i, x, h1, h2, e⟩ := h.here
    exact ⟨i, x, h1, h2, by rw [hb.block C hC]; exact e⟩

theorem Went.madeAt {a b c : World} {C B : Nat} {a0 : Option Addr} {l0 c0 : Nat} {z0 : List Int} (h : Went a b C a0 l0 c0 z0) (k : Below B b c) (hC : C < B) (hB : a.heap.size ≤ B) : Went a c C a0 l0 c0 z0 where
  cur := h.cur.belowAt k hC
  grown := ⟨k.os.trans h.grown.os, k.tape.trans h.grown.tape, k.output.trans h.grown.output, Nat.le_trans h.grown.size k.size, fun j hj hne => (k.block j (by omega)).trans (h.grown.block j hj hne)⟩

theorem Went.own {a b : World} {C : Nat} {a0 : Option Addr} {l0 c0 : Nat} {z0 : List Int} (h : Went a b C a0 l0 c0 z0) {base : Nat} {v : Value} {n : Nat} {xs : List Value} (ho : a.ownsRow base 5 1 v n xs) (hC : C < base) : b.ownsRow base 5 1 v n xs :=
  own_above ho h.grown (by intro k hk; cases hk; exact hC)

/-- One of a list that is laid ahead. -/
theorem pick_any (C : Nat) (a0 : Option Addr) (l0 c0 : Nat) (z0 : List Int) (xs : List Int) (B n : Nat) (w : World) (hc : Cur w C a0 l0 c0 z0) (hB : B = w.heap.size) (hxs : xs.length = n) (hn0 : 0 < n) (hn : n ≤ 1000) :
    Calls Try.prog 41 #[.pointer (some ⟨C, 0, none⟩), .slice (some ⟨B, 0, none⟩) n n] (w.alloc (.cells (xs.map (Value.int .i64)).toArray 3)) fun e w' => ∃ x : Int, x ∈ xs ∧ e = .returned (.int .i64 x) ∧ Went w w' C a0 l0 c0 z0 := by
  subst hB hxs
  have hb : Below w.heap.size w (w.alloc (.cells (xs.map (Value.int .i64)).toArray 3)) := (Below.refl _ _).alloc (Nat.le_refl _) _
  refine (int_any C a0 l0 c0 z0 w.heap.size xs.length xs _ (hc.below hb) hc.lt (fun j hj => ints_lit w xs j hj) rfl hn0 hn).mono ?_
  rintro e w' ⟨x, hx, rfl, went⟩
  exact ⟨x, hx, rfl, (Went.start hc hb).trans went⟩

theorem byte_zeros (n : Nat) : Byt (List.replicate n 0) := by
  intro z hz
  have := List.eq_of_mem_replicate hz
  omega

end Go.Proofs.Ytmlcjdfnoipihaa
