/-
  Packed: NetHelp NetOwn NetOwnA ToNetO NetMark.
-/
import Derived.Test.YtnichegfadgpdaaPUKW
import Derived.Test.YtnichegfadgpdaaPUBrHelp
import Derived.Test.YtnichegfadgpdaaPUK01
import Derived.Test.YtnichegfadgpdaaPUK02
import Derived.Test.YtnichegfadgpdaaPUK03
namespace Go.Proofs.Ytnichegfadgpdaa
open Go.RowKit

theorem bridge_later {w w' : World} {b off n cap : Nat} {l : List BV} (h : GRow brF w (some ⟨b, off, none⟩) n cap l) (hb : Below w.heap.size w w') {i : Nat} {x : BV} (hx : l[i]? = some x) :
  w'.cell? ⟨b, off + i * 11, none⟩ = some (.int .i64 x.B.id) ∧ w'.cell? ⟨b, off + i * 11 + 1, none⟩ = some (.string x.B.name) ∧ w'.cell? ⟨b, off + i * 11 + 2, none⟩ = some (.slice x.a x.n x.c) ∧ w'.cell? ⟨b, off + i * 11 + 3, none⟩ = some (.slice x.fa x.fn x.fc) ∧ w'.cell? ⟨b, off + i * 11 + 4, none⟩ = some (.slice x.ra x.rn x.rc) ∧ w'.cell? ⟨b, off + i * 11 + 5, none⟩ = some (.slice x.oa x.on x.oc) ∧ w'.cell? ⟨b, off + i * 11 + 6, none⟩ = some (.int .i64 x.B.ticks) ∧ w'.cell? ⟨b, off + i * 11 + 7, none⟩ = some (.int .i64 x.B.parse) ∧ w'.cell? ⟨b, off + i * 11 + 8, none⟩ = some (.int .i64 x.B.word) ∧ w'.cell? ⟨b, off + i * 11 + 9, none⟩ = some (.int .i64 x.B.drops) ∧ w'.cell? ⟨b, off + i * 11 + 10, none⟩ = some (.int .i64 x.B.vers) := by
 have hi : i < n := by
  have := (List.getElem?_eq_some_iff.1 hx).1
  have := h.size
  omega
 obtain ⟨y, b', off', hy, e, c⟩ := br_at (h.below hb) i hi
 cases e
 rw [hx] at hy
 cases hy
 exact c

theorem bridge_put {w : World} {base g n cap : Nat} {pre post : List BV} {x y : BV} (h : w.ownsRow base 62 11 (.slice (some ⟨g, 0, none⟩) n cap) n (brF.all (pre ++ x :: post))) :
  (((((((((((w.setCell ⟨g, pre.length * 11, none⟩ (.int .i64 y.B.id)).setCell ⟨g, pre.length * 11 + 1, none⟩ (.string y.B.name)).setCell ⟨g, pre.length * 11 + 2, none⟩ (.slice y.a y.n y.c)).setCell ⟨g, pre.length * 11 + 3, none⟩ (.slice y.fa y.fn y.fc)).setCell ⟨g, pre.length * 11 + 4, none⟩ (.slice y.ra y.rn y.rc)).setCell ⟨g, pre.length * 11 + 5, none⟩ (.slice y.oa y.on y.oc)).setCell ⟨g, pre.length * 11 + 6, none⟩ (.int .i64 y.B.ticks)).setCell ⟨g, pre.length * 11 + 7, none⟩ (.int .i64 y.B.parse)).setCell ⟨g, pre.length * 11 + 8, none⟩ (.int .i64 y.B.word)).setCell ⟨g, pre.length * 11 + 9, none⟩ (.int .i64 y.B.drops)).setCell ⟨g, pre.length * 11 + 10, none⟩ (.int .i64 y.B.vers)).ownsRow base 62 11 (.slice (some ⟨g, 0, none⟩) n cap) n (brF.all (pre ++ y :: post)) := by
 have R0 := flat_stored (F := brF) (x' := ⟨x.a, x.n, x.c, x.fa, x.fn, x.fc, x.ra, x.rn, x.rc, x.oa, x.on, x.oc, ⟨y.B.id, x.B.name, x.B.ports, x.B.f, x.B.v, x.B.ticks, x.B.parse, x.B.word, x.B.drops, x.B.vers⟩⟩) h 0 (.int .i64 y.B.id) (by decide) rfl
 have R1 := flat_stored (F := brF) (x' := ⟨x.a, x.n, x.c, x.fa, x.fn, x.fc, x.ra, x.rn, x.rc, x.oa, x.on, x.oc, ⟨y.B.id, y.B.name, x.B.ports, x.B.f, x.B.v, x.B.ticks, x.B.parse, x.B.word, x.B.drops, x.B.vers⟩⟩) R0 1 (.string y.B.name) (by decide) rfl
 have R2 := flat_stored (F := brF) (x' := ⟨y.a, y.n, y.c, x.fa, x.fn, x.fc, x.ra, x.rn, x.rc, x.oa, x.on, x.oc, ⟨y.B.id, y.B.name, y.B.ports, x.B.f, x.B.v, x.B.ticks, x.B.parse, x.B.word, x.B.drops, x.B.vers⟩⟩) R1 2 (.slice y.a y.n y.c) (by decide) rfl
 have R3 := flat_stored (F := brF) (x' := ⟨y.a, y.n, y.c, y.fa, y.fn, y.fc, x.ra, x.rn, x.rc, x.oa, x.on, x.oc, ⟨y.B.id, y.B.name, y.B.ports, y.B.f, x.B.v, x.B.ticks, x.B.parse, x.B.word, x.B.drops, x.B.vers⟩⟩) R2 3 (.slice y.fa y.fn y.fc) (by decide) rfl
 have R4 := flat_stored (F := brF) (x' := ⟨y.a, y.n, y.c, y.fa, y.fn, y.fc, y.ra, y.rn, y.rc, x.oa, x.on, x.oc, ⟨y.B.id, y.B.name, y.B.ports, y.B.f, y.B.v, x.B.ticks, x.B.parse, x.B.word, x.B.drops, x.B.vers⟩⟩) R3 4 (.slice y.ra y.rn y.rc) (by decide) rfl
 have R5 := flat_stored (F := brF) (x' := ⟨y.a, y.n, y.c, y.fa, y.fn, y.fc, y.ra, y.rn, y.rc, y.oa, y.on, y.oc, ⟨y.B.id, y.B.name, y.B.ports, y.B.f, y.B.v, x.B.ticks, x.B.parse, x.B.word, x.B.drops, x.B.vers⟩⟩) R4 5 (.slice y.oa y.on y.oc) (by decide) rfl
 have R6 := flat_stored (F := brF) (x' := ⟨y.a, y.n, y.c, y.fa, y.fn, y.fc, y.ra, y.rn, y.rc, y.oa, y.on, y.oc, ⟨y.B.id, y.B.name, y.B.ports, y.B.f, y.B.v, y.B.ticks, x.B.parse, x.B.word, x.B.drops, x.B.vers⟩⟩) R5 6 (.int .i64 y.B.ticks) (by decide) rfl
 have R7 := flat_stored (F := brF) (x' := ⟨y.a, y.n, y.c, y.fa, y.fn, y.fc, y.ra, y.rn, y.rc, y.oa, y.on, y.oc, ⟨y.B.id, y.B.name, y.B.ports, y.B.f, y.B.v, y.B.ticks, y.B.parse, x.B.word, x.B.drops, x.B.vers⟩⟩) R6 7 (.int .i64 y.B.parse) (by decide) rfl
 have R8 := flat_stored (F := brF) (x' := ⟨y.a, y.n, y.c, y.fa, y.fn, y.fc, y.ra, y.rn, y.rc, y.oa, y.on, y.oc, ⟨y.B.id, y.B.name, y.B.ports, y.B.f, y.B.v, y.B.ticks, y.B.parse, y.B.word, x.B.drops, x.B.vers⟩⟩) R7 8 (.int .i64 y.B.word) (by decide) rfl
 have R9 := flat_stored (F := brF) (x' := ⟨y.a, y.n, y.c, y.fa, y.fn, y.fc, y.ra, y.rn, y.rc, y.oa, y.on, y.oc, ⟨y.B.id, y.B.name, y.B.ports, y.B.f, y.B.v, y.B.ticks, y.B.parse, y.B.word, y.B.drops, x.B.vers⟩⟩) R8 9 (.int .i64 y.B.drops) (by decide) rfl
 exact flat_stored (F := brF) (x' := y) R9 10 (.int .i64 y.B.vers) (by decide) rfl

theorem bridge_puts {w : World} {g j : Nat} {y : BV} : w.grownBy (((((((((((w.setCell ⟨g, j, none⟩ (.int .i64 y.B.id)).setCell ⟨g, j + 1, none⟩ (.string y.B.name)).setCell ⟨g, j + 2, none⟩ (.slice y.a y.n y.c)).setCell ⟨g, j + 3, none⟩ (.slice y.fa y.fn y.fc)).setCell ⟨g, j + 4, none⟩ (.slice y.ra y.rn y.rc)).setCell ⟨g, j + 5, none⟩ (.slice y.oa y.on y.oc)).setCell ⟨g, j + 6, none⟩ (.int .i64 y.B.ticks)).setCell ⟨g, j + 7, none⟩ (.int .i64 y.B.parse)).setCell ⟨g, j + 8, none⟩ (.int .i64 y.B.word)).setCell ⟨g, j + 9, none⟩ (.int .i64 y.B.drops)).setCell ⟨g, j + 10, none⟩ (.int .i64 y.B.vers)) (some g) :=
 grownTr (grownTr (grownTr (grownTr (grownTr (grownTr (grownTr (grownTr (grownTr (grownTr (grown_set _ _) (grown_set _ _)) (grown_set _ _)) (grown_set _ _)) (grown_set _ _)) (grown_set _ _)) (grown_set _ _)) (grown_set _ _)) (grown_set _ _)) (grown_set _ _)) (grown_set _ _)

theorem bridge_cells {w : World} {base g n cap : Nat} {T : TypeId} {l : List BV} (h : w.ownsRow base T 11 (.slice (some ⟨g, 0, none⟩) n cap) n (brF.all l)) {i : Nat} {x : BV} (hx : l[i]? = some x) :
  (w.cell? ⟨g, i * 11, none⟩ = some (.int .i64 x.B.id) ∧ w.cell? ⟨g, i * 11 + 1, none⟩ = some (.string x.B.name) ∧ w.cell? ⟨g, i * 11 + 2, none⟩ = some (.slice x.a x.n x.c) ∧ w.cell? ⟨g, i * 11 + 3, none⟩ = some (.slice x.fa x.fn x.fc) ∧ w.cell? ⟨g, i * 11 + 4, none⟩ = some (.slice x.ra x.rn x.rc) ∧ w.cell? ⟨g, i * 11 + 5, none⟩ = some (.slice x.oa x.on x.oc) ∧ w.cell? ⟨g, i * 11 + 6, none⟩ = some (.int .i64 x.B.ticks) ∧ w.cell? ⟨g, i * 11 + 7, none⟩ = some (.int .i64 x.B.parse) ∧ w.cell? ⟨g, i * 11 + 8, none⟩ = some (.int .i64 x.B.word) ∧ w.cell? ⟨g, i * 11 + 9, none⟩ = some (.int .i64 x.B.drops) ∧ w.cell? ⟨g, i * 11 + 10, none⟩ = some (.int .i64 x.B.vers)) ∧
  (w.frozen? ⟨g, i * 11, none⟩ = false ∧ w.frozen? ⟨g, i * 11 + 1, none⟩ = false ∧ w.frozen? ⟨g, i * 11 + 2, none⟩ = false ∧ w.frozen? ⟨g, i * 11 + 3, none⟩ = false ∧ w.frozen? ⟨g, i * 11 + 4, none⟩ = false ∧ w.frozen? ⟨g, i * 11 + 5, none⟩ = false ∧ w.frozen? ⟨g, i * 11 + 6, none⟩ = false ∧ w.frozen? ⟨g, i * 11 + 7, none⟩ = false ∧ w.frozen? ⟨g, i * 11 + 8, none⟩ = false ∧ w.frozen? ⟨g, i * 11 + 9, none⟩ = false ∧ w.frozen? ⟨g, i * 11 + 10, none⟩ = false) := by
 have c0 := flat_cells (F := brF) h hx (j := 0) (v := .int .i64 x.B.id) rfl
 have c1 := flat_cells (F := brF) h hx (j := 1) (v := .string x.B.name) rfl
 have c2 := flat_cells (F := brF) h hx (j := 2) (v := .slice x.a x.n x.c) rfl
 have c3 := flat_cells (F := brF) h hx (j := 3) (v := .slice x.fa x.fn x.fc) rfl
 have c4 := flat_cells (F := brF) h hx (j := 4) (v := .slice x.ra x.rn x.rc) rfl
 have c5 := flat_cells (F := brF) h hx (j := 5) (v := .slice x.oa x.on x.oc) rfl
 have c6 := flat_cells (F := brF) h hx (j := 6) (v := .int .i64 x.B.ticks) rfl
 have c7 := flat_cells (F := brF) h hx (j := 7) (v := .int .i64 x.B.parse) rfl
 have c8 := flat_cells (F := brF) h hx (j := 8) (v := .int .i64 x.B.word) rfl
 have c9 := flat_cells (F := brF) h hx (j := 9) (v := .int .i64 x.B.drops) rfl
 have c10 := flat_cells (F := brF) h hx (j := 10) (v := .int .i64 x.B.vers) rfl
 exact ⟨⟨c0.1, c1.1, c2.1, c3.1, c4.1, c5.1, c6.1, c7.1, c8.1, c9.1, c10.1⟩, c0.2, c1.2, c2.2, c3.2, c4.2, c5.2, c6.2, c7.2, c8.2, c9.2, c10.2⟩

abbrev BV.Own (w : World) (base : Nat) (x : BV) : Prop := BrOwn w base x.a x.n x.c x.fa x.fn x.fc x.ra x.rn x.rc x.oa x.on x.oc x.B

theorem BV.Own.other {w w' : World} {base : Nat} {x : BV} (h : x.Own w base) {X : Nat} {cs : Array Value} {T : TypeId} (hX : w.heap[X]? = some (.cells cs T)) (h1 : (95 : Nat) ≠ T) (h2 : (128 : Nat) ≠ T) (h3 : (130 : Nat) ≠ T) (h4 : (3 : Nat) ≠ T) (hg : w.grownBy w' (some X)) : x.Own w' base :=
 ⟨gown_other h.ports hg (box_ne h.ports hX h1), gown_other h.f hg (box_ne h.f hX h2), ⟨gown_other h.v.rows hg (box_ne h.v.rows hX h3), gown_other h.v.own hg (box_ne h.v.own hX h4), h.v.i64⟩⟩

theorem own_block {w : World} {base g n cap k : Nat} {T : TypeId} {xs : List Value} (h : w.ownsRow base T k (.slice (some ⟨g, 0, none⟩) n cap) n xs) : ∃ cs, w.heap[g]? = some (.cells cs T) := by
 rcases h.2 with ⟨e, _⟩ | ⟨g', cap', cur, e, _, hh, _⟩
 ·cases e
 ·cases e
  exact ⟨_, hh⟩

def BV.Small (x : BV) : Prop := x.n ≤ 1048576 ∧ x.fn ≤ 1048576 ∧ x.rn ≤ 1048576 ∧ x.on ≤ 1048576

set_option maxRecDepth 100000 in
set_option maxHeartbeats 4000000 in
theorem eqBridges_same (ao : Option Addr) (n c : Nat) (ao' : Option Addr) (n' c' : Nat) (l l' : List BV) (w : World) (hl : GRow brF w ao n c l) (hl' : GRow brF w ao' n' c' l') (hr : ∀ x ∈ l, x.Reads w) (hr' : ∀ x ∈ l', x.Reads w) (he : l.map BV.B = l'.map BV.B) :
  Calls Try.prog 24 #[.slice ao n c, .slice ao' n' c'] w fun r w' => r = .returned (.bool true) ∧ Below w.heap.size w w' := by
 have hs := hl.size
 have hs' := hl'.size
 have htop := Nat.le_trans hl.le hl.top
 unfold maxLen at htop
 have hlen : l.length = l'.length := by have := congrArg List.length he; simpa using this
 have hnn : n' = n := by omega
 subst hnn
 go_enter Try.func24, Try.ntmps24
 go_wp2
 go_loopw [5] (fun i wr => ∃ k : Nat, k ≤ n' ∧ i = .int .i64 k ∧ Below w.heap.size w wr) (fun i _ => n' - (intOf i).toNat)
 case atStart => exact ⟨0, Nat.zero_le _, rfl, Below.refl _ _⟩
 case round =>
  obtain ⟨k, hk, rfl, hb⟩ := hrel
  by_cases hlt : k < n'
  ·obtain ⟨x, b, off, hx, rfl, -⟩ := br_at (hl.below hb) k hlt
   obtain ⟨y, b', off', hy, rfl, -⟩ := br_at (hl'.below hb) k hlt
   have hBB : x.B = y.B := by
    have h1 : (l.map BV.B)[k]? = some x.B := by rw [List.getElem?_map, hx]; rfl
    have h2 : (l'.map BV.B)[k]? = some y.B := by rw [List.getElem?_map, hy]; rfl
    rw [he, h2] at h1
    exact (Option.some.inj h1).symm
   have HS : Hid (∀ W, Below wr.heap.size wr W → (W.cell? ⟨b, off + k * 11, none⟩ = some (.int .i64 x.B.id) ∧ W.cell? ⟨b, off + k * 11 + 1, none⟩ = some (.string x.B.name) ∧ W.cell? ⟨b, off + k * 11 + 2, none⟩ = some (.slice x.a x.n x.c) ∧ W.cell? ⟨b, off + k * 11 + 3, none⟩ = some (.slice x.fa x.fn x.fc) ∧ W.cell? ⟨b, off + k * 11 + 4, none⟩ = some (.slice x.ra x.rn x.rc) ∧ W.cell? ⟨b, off + k * 11 + 5, none⟩ = some (.slice x.oa x.on x.oc) ∧ W.cell? ⟨b, off + k * 11 + 6, none⟩ = some (.int .i64 x.B.ticks) ∧ W.cell? ⟨b, off + k * 11 + 7, none⟩ = some (.int .i64 x.B.parse) ∧ W.cell? ⟨b, off + k * 11 + 8, none⟩ = some (.int .i64 x.B.word) ∧ W.cell? ⟨b, off + k * 11 + 9, none⟩ = some (.int .i64 x.B.drops) ∧ W.cell? ⟨b, off + k * 11 + 10, none⟩ = some (.int .i64 x.B.vers)) ∧ (W.cell? ⟨b', off' + k * 11, none⟩ = some (.int .i64 x.B.id) ∧ W.cell? ⟨b', off' + k * 11 + 1, none⟩ = some (.string x.B.name) ∧ W.cell? ⟨b', off' + k * 11 + 2, none⟩ = some (.slice y.a y.n y.c) ∧ W.cell? ⟨b', off' + k * 11 + 3, none⟩ = some (.slice y.fa y.fn y.fc) ∧ W.cell? ⟨b', off' + k * 11 + 4, none⟩ = some (.slice y.ra y.rn y.rc) ∧ W.cell? ⟨b', off' + k * 11 + 5, none⟩ = some (.slice y.oa y.on y.oc) ∧ W.cell? ⟨b', off' + k * 11 + 6, none⟩ = some (.int .i64 x.B.ticks) ∧ W.cell? ⟨b', off' + k * 11 + 7, none⟩ = some (.int .i64 x.B.parse) ∧ W.cell? ⟨b', off' + k * 11 + 8, none⟩ = some (.int .i64 x.B.word) ∧ W.cell? ⟨b', off' + k * 11 + 9, none⟩ = some (.int .i64 x.B.drops) ∧ W.cell? ⟨b', off' + k * 11 + 10, none⟩ = some (.int .i64 x.B.vers))) := hide (fun W h => ⟨bridge_later (hl.below hb) h hx, by have := bridge_later (hl'.below hb) h hy; rw [← hBB] at this; exact this⟩)
   have HX := hide (hr x (List.mem_of_getElem? hx))
   have HY : Hid (BrRow w y.a y.n y.c y.fa y.fn y.fc y.ra y.rn y.rc y.oa y.on y.oc x.B) := hide (by rw [hBB]; exact hr' y (List.mem_of_getElem? hy))
   have vv : Below wr.heap.size wr wr.drew := gr_drew (Below.refl _ _)
   have i1 : (0 : Int) ≤ (k : Int) := by omega
   have i2 : (k : Int) < (n' : Int) := by omega
   have HB := hide hb
   clear hb hx hy hBB he
   go_wp2_with fail
   refine wp_region_held_drew (S := (fun W => (W.cell? ⟨b, off + k * 11, none⟩ = some (.int .i64 x.B.id) ∧ W.cell? ⟨b, off + k * 11 + 1, none⟩ = some (.string x.B.name) ∧ W.cell? ⟨b, off + k * 11 + 2, none⟩ = some (.slice x.a x.n x.c) ∧ W.cell? ⟨b, off + k * 11 + 3, none⟩ = some (.slice x.fa x.fn x.fc) ∧ W.cell? ⟨b, off + k * 11 + 4, none⟩ = some (.slice x.ra x.rn x.rc) ∧ W.cell? ⟨b, off + k * 11 + 5, none⟩ = some (.slice x.oa x.on x.oc) ∧ W.cell? ⟨b, off + k * 11 + 6, none⟩ = some (.int .i64 x.B.ticks) ∧ W.cell? ⟨b, off + k * 11 + 7, none⟩ = some (.int .i64 x.B.parse) ∧ W.cell? ⟨b, off + k * 11 + 8, none⟩ = some (.int .i64 x.B.word) ∧ W.cell? ⟨b, off + k * 11 + 9, none⟩ = some (.int .i64 x.B.drops) ∧ W.cell? ⟨b, off + k * 11 + 10, none⟩ = some (.int .i64 x.B.vers)) ∧ (W.cell? ⟨b', off' + k * 11, none⟩ = some (.int .i64 x.B.id) ∧ W.cell? ⟨b', off' + k * 11 + 1, none⟩ = some (.string x.B.name) ∧ W.cell? ⟨b', off' + k * 11 + 2, none⟩ = some (.slice y.a y.n y.c) ∧ W.cell? ⟨b', off' + k * 11 + 3, none⟩ = some (.slice y.fa y.fn y.fc) ∧ W.cell? ⟨b', off' + k * 11 + 4, none⟩ = some (.slice y.ra y.rn y.rc) ∧ W.cell? ⟨b', off' + k * 11 + 5, none⟩ = some (.slice y.oa y.on y.oc) ∧ W.cell? ⟨b', off' + k * 11 + 6, none⟩ = some (.int .i64 x.B.ticks) ∧ W.cell? ⟨b', off' + k * 11 + 7, none⟩ = some (.int .i64 x.B.parse) ∧ W.cell? ⟨b', off' + k * 11 + 8, none⟩ = some (.int .i64 x.B.word) ∧ W.cell? ⟨b', off' + k * 11 + 9, none⟩ = some (.int .i64 x.B.drops) ∧ W.cell? ⟨b', off' + k * 11 + 10, none⟩ = some (.int .i64 x.B.vers)))) (by kernel_rfl) (HS.out _ vv) (fun hHeld => ?_)
   refine kK 0 ⟨some 17, .move (.tmp 0), 30, "exact.go:1100", #[], none⟩ ?_
   refine kK 1 ⟨some 18, .move (.tmp 5), 3, "exact.go:1100", #[], none⟩ ?_
   refine kK 2 ⟨some 19, .indexAddr 30 (.tmp 17) (.tmp 18), 0, "exact.go:1100", #[⟨0, .data⟩, ⟨1, .data⟩], none⟩ ?_
   refine kK 3 ⟨some 20, .load 62 (.tmp 19), 62, "exact.go:1100", #[⟨2, .data⟩], none⟩ ?_
   refine kK 4 ⟨some 21, .move (.tmp 1), 30, "exact.go:1100", #[], none⟩ ?_
   refine kK 5 ⟨some 22, .move (.tmp 5), 3, "exact.go:1100", #[], none⟩ ?_
   refine kK 6 ⟨some 23, .indexAddr 30 (.tmp 21) (.tmp 22), 0, "exact.go:1100", #[⟨4, .data⟩, ⟨5, .data⟩], none⟩ ?_
   refine kK 7 ⟨some 24, .load 62 (.tmp 23), 62, "exact.go:1100", #[⟨6, .data⟩], none⟩ ?_
   refine kR 8 ⟨some 25, .call ⟨.value (.func 42), #[.tmp 20, .tmp 24], #[62, 62]⟩, 4, "exact.go:1100", #[⟨3, .data⟩, ⟨7, .data⟩], none⟩ (fun K hK => ?_)
   go_simp
   refine (eqBridge_same x.a x.n x.c x.fa x.fn x.fc x.ra x.rn x.rc x.oa x.on x.oc y.a y.n y.c y.fa y.fn y.fc y.ra y.rn y.rc y.oa y.on y.oc x.B _ (HX.out.below (gr_trans HB.out vv)) (HY.out.below (gr_trans HB.out vv))).mono ?_
   rintro r wz ⟨rfl, hbz⟩
   have vv := gr_trans vv hbz
   go_wp2_with fail
   refine hK.out _ _ (HS.out _ vv) (fun hHeld => ?_)
   clear hK K
   try simp only [Act.put, lA, lB, lC]
   refine kK 9 ⟨some 26, .unOp .not 4 (.tmp 25), 4, "exact.go:1100", #[⟨8, .data⟩], none⟩ ?_
   refine wpAnyH_done (by kernel_rfl) ?_ _
   have b1 := gr_trans HB.out vv
   clear HS hHeld vv
   go_wp2
   go_roundw
   case rel => exact ⟨k + 1, by omega, by go_num, b1⟩
   case measure => simp [intOf]; omega
  ·have hk' : k = n' := by omega
   subst hk'
   go_wp2
   go_ret
   exact ⟨rfl, hb⟩

def sizeBs (l : List BV) : Int := (l.map fun x => sizeB x.B).sum
def sizeN (N : NV) : Int := (N.bn : Int) + sizeBs N.bs + N.ln + N.sn

theorem sizeB_pos (B : BR) : 0 ≤ sizeB B := by unfold sizeB; omega
theorem sizeBs_app (l l' : List BV) : sizeBs (l ++ l') = sizeBs l + sizeBs l' := by unfold sizeBs; rw [List.map_append, List.sum_append]
theorem sizeBs_pos (l : List BV) : 0 ≤ sizeBs l := by
 induction l with
 | nil => simp [sizeBs]
 | cons x l ih => have := sizeB_pos x.B; unfold sizeBs at ih ⊢; rw [List.map_cons, List.sum_cons]; omega
theorem sizeBs_one {l : List BV} {k : Nat} {x : BV} (h : l[k]? = some x) : sizeBs (l.take (k + 1)) = sizeBs (l.take k) + sizeB x.B ∧ sizeBs (l.take (k + 1)) ≤ sizeBs l := by
 have e : l.take (k + 1) = l.take k ++ [x] := by rw [List.take_add_one, h]; rfl
 have h1 : sizeBs (l.take (k + 1)) = sizeBs (l.take k) + sizeB x.B := by rw [e, sizeBs_app]; simp [sizeBs]
 refine ⟨h1, ?_⟩
 have h2 := sizeBs_app (l.take (k + 1)) (l.drop (k + 1))
 rw [List.take_append_drop] at h2
 have := sizeBs_pos (l.drop (k + 1))
 omega
theorem sizeBs_mem {l : List BV} {x : BV} (h : x ∈ l) : sizeB x.B ≤ sizeBs l := by
 obtain ⟨k, hk⟩ := List.getElem?_of_mem h
 have h1 := sizeBs_one hk
 have := sizeBs_pos (l.take k)
 omega

set_option maxRecDepth 100000 in
set_option maxHeartbeats 4000000 in
theorem szBridges_any (ao : Option Addr) (n c : Nat) (l : List BV) (L : Int) (w : World) (hl : GRow brF w ao n c l) (hr : ∀ x ∈ l, x.Reads w) (hR : ∀ x ∈ l, x.B.Rng) (h0 : 0 ≤ L) (h1 : L ≤ 1048576) :
  Calls Try.prog 16 #[.slice ao n c, .int .i64 L] w fun r w' => r = .returned (.int .i64 (if (n : Int) + sizeBs l ≤ L then L - ((n : Int) + sizeBs l) else -1)) ∧ Below w.heap.size w w' := by
 have htop := Nat.le_trans hl.le hl.top
 unfold maxLen at htop
 have hsl := hl.size
 have hp := sizeBs_pos l
 generalize hG : (if (n : Int) + sizeBs l ≤ L then L - ((n : Int) + sizeBs l) else -1) = G
 have HG0 := hide hG
 clear hG
 by_cases hn : ¬ (n : Int) ≤ L
 ·have hlt : L - (n : Int) < 0 := by omega
  have HG : Hid (G = -1) := hide (by rw [← HG0.out]; exact if_neg (by omega))
  go_enter Try.func16, Try.ntmps16
  go_wp2
  go_ret
  exact ⟨by rw [HG.out]; rfl, Below.refl _ _⟩
 have hge : ¬ (L - (n : Int) < 0) := by omega
 go_enter Try.func16, Try.ntmps16
 go_wp2
 go_loopw [1, 5] (fun m i wr => ∃ k : Nat, k ≤ n ∧ i = .int .i64 k ∧ m = .int .i64 (L - (n : Int) - sizeBs (l.take k)) ∧ 0 ≤ L - (n : Int) - sizeBs (l.take k) ∧ Below w.heap.size w wr) (fun _ i _ => n - (intOf i).toNat)
 case atStart => exact ⟨0, Nat.zero_le _, rfl, by simp [sizeBs], by simp [sizeBs]; omega, Below.refl _ _⟩
 case round =>
  obtain ⟨k, hk, rfl, rfl, hge', hb⟩ := hrel
  by_cases hlt : k < n
  ·obtain ⟨x, b, off, hx, rfl, ca0, ca1, ca2, ca3, ca4, ca5, ca6, ca7, ca8, ca9, ca10⟩ := br_at (hl.below hb) k hlt
   have hmem := List.mem_of_getElem? hx
   obtain ⟨e1, e2⟩ := sizeBs_one hx
   have hp1 := sizeBs_pos (l.take k)
   have HX := hide hx
   have HB := hide hb
   have HE := hide e1
   have hrx := (hr x hmem).below hb
   clear hx hb
   generalize hM : L - (n : Int) - sizeBs (l.take k) = M at *
   have m1 : M ≤ 1048576 := by omega
   go_wp2_with fail
   refine (szBridge_from M hge' m1 x.a x.n x.c x.fa x.fn x.fc x.ra x.rn x.rc x.oa x.on x.oc x.B _ hrx (hR x hmem).name).mono ?_
   rintro e w2 ⟨rfl, hb2⟩
   have hb3 := gr_trans HB.out hb2
   by_cases hle : sizeB x.B ≤ M
   ·rw [if_pos hle]
    have j1 : ¬ (M - sizeB x.B < 0) := by omega
    have HB3 := hide hb3
    have HM : Hid (L - (n : Int) - sizeBs (l.take (k + 1)) = M - sizeB x.B) := hide (by omega)
    clear hb3 hb2 ca0 ca1 ca2 ca3 ca4 ca5 ca6 ca7 ca8 ca9 ca10
    generalize hS : sizeB x.B = S at *
    go_wp2
    go_roundw
    case rel => exact ⟨k + 1, by omega, by go_num, by rw [HM.out], by rw [HM.out]; omega, HB3.out⟩
    case measure => simp [intOf]; omega
   ·rw [if_neg hle]
    have HG : Hid (G = -1) := hide (by rw [← HG0.out]; exact if_neg (by omega))
    have HB3 := hide hb3
    clear hb3 hb2 ca0 ca1 ca2 ca3 ca4 ca5 ca6 ca7 ca8 ca9 ca10
    go_wp2
    go_ret
    exact ⟨by rw [HG.out]; rfl, HB3.out⟩
  ·have hkn : k = n := by omega
   subst hkn
   rw [List.take_of_length_le (by omega)] at hge' ⊢
   have HG : Hid (G = L - (k : Int) - sizeBs l) := hide (by rw [← HG0.out, if_pos (by omega)]; omega)
   go_wp2
   go_ret
   exact ⟨by rw [HG.out]; rfl, hb⟩

theorem cells3n {w : World} {g : Nat} {T : TypeId} {c0 c1 c2 : Value} (h : w.heap[g]? = some (.cells #[c0, c1, c2] T)) : w.cell? ⟨g, 0, none⟩ = some c0 ∧ w.cell? ⟨g, 1, none⟩ = some c1 ∧ w.cell? ⟨g, 2, none⟩ = some c2 := by
 simp [World.cell?, h]

set_option maxRecDepth 100000 in
set_option maxHeartbeats 4000000 in
theorem szNet_any (N : NV) (L : Int) (w : World) (h : NetRow w N) (hR : N.Rng) (h0 : 0 ≤ L) (h1 : L ≤ 1048576) :
  Calls Try.prog 5 #[.agg #[.slice N.ba N.bn N.bc, .slice N.la N.ln N.lc, .slice N.sa N.sn N.sc], .int .i64 L] w fun r w' => r = .returned (.int .i64 (if sizeN N ≤ L then L - sizeN N else -1)) ∧ Below w.heap.size w w' := by
 have n1 := Nat.le_trans h.b.le h.b.top
 have n2 := Nat.le_trans h.l.le h.l.top
 have n3 := Nat.le_trans h.s.le h.s.top
 have hp := sizeBs_pos N.bs
 generalize hG : (if sizeN N ≤ L then L - sizeN N else -1) = G
 have HG0 := hide hG
 clear hG
 generalize hw1 : w.alloc (Obj.cells #[.slice N.ba N.bn N.bc, .slice N.la N.ln N.lc, .slice N.sa N.sn N.sc] 26) = w1
 have b01 : Below w.heap.size w w1 := by rw [← hw1]; exact below_one _ _
 have k1 : w1.heap[w.heap.size]? = some (.cells #[.slice N.ba N.bn N.bc, .slice N.la N.ln N.lc, .slice N.sa N.sn N.sc] 26) := by rw [← hw1]; exact block_last _ _
 obtain ⟨x0, x1, x2⟩ := cells3n k1
 go_enter Try.func5, Try.ntmps5
 go_wp2_with fail
 refine (szBridges_any N.ba N.bn N.bc N.bs L _ (h.b.below b01) (fun x hx => (h.item x hx).below b01) hR.b h0 h1).mono ?_
 rintro e w2 ⟨rfl, hb2⟩
 have b02 := gr_trans b01 hb2
 have k2 := kept_block k1 hb2
 clear x0 x1 x2 hb2
 obtain ⟨x0, x1, x2⟩ := cells3n k2
 by_cases q1 : (N.bn : Int) + sizeBs N.bs ≤ L
 ·rw [if_pos q1]
  have j1 : ¬ (L - ((N.bn : Int) + sizeBs N.bs) < 0) := by omega
  go_wp2_with fail
  refine (szLinks_any N.la N.ln N.lc (L - ((N.bn : Int) + sizeBs N.bs)) _ n2 (by omega) (by omega)).mono ?_
  rintro e w3 ⟨rfl, rfl⟩
  by_cases q2 : (N.ln : Int) ≤ L - ((N.bn : Int) + sizeBs N.bs)
  ·rw [if_pos q2]
   have j2 : ¬ (L - ((N.bn : Int) + sizeBs N.bs) - (N.ln : Int) < 0) := by omega
   go_wp2_with fail
   refine (szSays_any N.sa N.sn N.sc (L - ((N.bn : Int) + sizeBs N.bs) - (N.ln : Int)) _ n3 (by omega) (by omega)).mono ?_
   rintro e w4 ⟨rfl, rfl⟩
   by_cases q3 : (N.sn : Int) ≤ L - ((N.bn : Int) + sizeBs N.bs) - (N.ln : Int)
   ·rw [if_pos q3]
    have j3 : ¬ (L - ((N.bn : Int) + sizeBs N.bs) - (N.ln : Int) - (N.sn : Int) < 0) := by omega
    have HG : Hid (G = L - ((N.bn : Int) + sizeBs N.bs) - (N.ln : Int) - (N.sn : Int)) := hide (by rw [← HG0.out]; unfold sizeN; rw [if_pos (by omega)]; omega)
    go_wp2
    go_ret
    exact ⟨by rw [HG.out]; rfl, b02⟩
   ·rw [if_neg q3]
    have HG : Hid (G = -1) := hide (by rw [← HG0.out]; unfold sizeN; rw [if_neg (by omega)])
    go_wp2
    go_ret
    exact ⟨by rw [HG.out]; rfl, b02⟩
  ·rw [if_neg q2]
   have HG : Hid (G = -1) := hide (by rw [← HG0.out]; unfold sizeN; rw [if_neg (by omega)])
   go_wp2
   go_ret
   exact ⟨by rw [HG.out]; rfl, b02⟩
 ·rw [if_neg q1]
  have HG : Hid (G = -1) := hide (by rw [← HG0.out]; unfold sizeN; rw [if_neg (by omega)])
  go_wp2
  go_ret
  exact ⟨by rw [HG.out]; rfl, b02⟩

theorem net_small {N : NV} {w : World} (h : NetRow w N) (hs : sizeN N ≤ 1048576) : N.bn ≤ 1048576 ∧ N.ln ≤ 1048576 ∧ N.sn ≤ 1048576 ∧ ∀ x ∈ N.bs, x.Small := by
 have hp := sizeBs_pos N.bs
 unfold sizeN at hs
 refine ⟨by omega, by omega, by omega, fun x hx => ?_⟩
 have h1 := sizeBs_mem hx
 have r := h.item x hx
 unfold sizeB at h1
 rw [r.ports.size, r.f.size, r.v.rows.size, r.v.own.size] at h1
 exact ⟨by omega, by omega, by omega, by omega⟩

structure NV.Same (N M : NV) : Prop where
 b : N.bs.map BV.B = M.bs.map BV.B
 l : N.ls = M.ls
 s : N.ss = M.ss

set_option maxRecDepth 100000 in
set_option maxHeartbeats 4000000 in
theorem eqNet_same (N M : NV) (w : World) (h : NetRow w N) (h2 : NetRow w M) (he : N.Same M) :
  Calls Try.prog 10 #[.agg #[.slice N.ba N.bn N.bc, .slice N.la N.ln N.lc, .slice N.sa N.sn N.sc], .agg #[.slice M.ba M.bn M.bc, .slice M.la M.ln M.lc, .slice M.sa M.sn M.sc]] w fun r w' => r = .returned (.bool true) ∧ Below w.heap.size w w' := by
 generalize hw1 : w.alloc (Obj.cells #[.slice N.ba N.bn N.bc, .slice N.la N.ln N.lc, .slice N.sa N.sn N.sc] 34) = w1
 generalize hw2 : w1.alloc (Obj.cells #[.slice M.ba M.bn M.bc, .slice M.la M.ln M.lc, .slice M.sa M.sn M.sc] 34) = w2
 have b01 : Below w.heap.size w w1 := by rw [← hw1]; exact below_one _ _
 have b12 : Below w1.heap.size w1 w2 := by rw [← hw2]; exact below_one _ _
 have kNe : w2.heap[w.heap.size]? = some (.cells #[.slice N.ba N.bn N.bc, .slice N.la N.ln N.lc, .slice N.sa N.sn N.sc] 34) := kept_block (by rw [← hw1]; exact block_last _ _) b12
 have kM : w2.heap[w1.heap.size]? = some (.cells #[.slice M.ba M.bn M.bc, .slice M.la M.ln M.lc, .slice M.sa M.sn M.sc] 34) := by rw [← hw2]; exact block_last _ _
 have b02 := gr_trans b01 b12
 obtain ⟨x0, x1, x2⟩ := cells3n kNe
 obtain ⟨y0, y1, y2⟩ := cells3n kM
 go_enter Try.func10, Try.ntmps10
 go_wp2_with fail
 refine (eqBridges_same N.ba N.bn N.bc M.ba M.bn M.bc N.bs M.bs _ (h.b.below b02) (h2.b.below b02) (fun x hx => (h.item x hx).below b02) (fun x hx => (h2.item x hx).below b02) he.b).mono ?_
 rintro e w3 ⟨rfl, hb3⟩
 have kNe := kept_block kNe hb3
 have kM := kept_block kM hb3
 have b03 := gr_trans b02 hb3
 clear x0 x1 x2 y0 y1 y2 hb3
 obtain ⟨x0, x1, x2⟩ := cells3n kNe
 obtain ⟨y0, y1, y2⟩ := cells3n kM
 go_wp2_with fail
 refine (eqLinks_same N.la N.ln N.lc M.la M.ln M.lc N.ls _ (h.l.below b03) (by rw [he.l]; exact h2.l.below b03)).mono ?_
 rintro e w4 ⟨rfl, hb4⟩
 have kNe := kept_block kNe hb4
 have kM := kept_block kM hb4
 have b04 := gr_trans b03 hb4
 clear x0 x1 x2 y0 y1 y2 hb4
 obtain ⟨x0, x1, x2⟩ := cells3n kNe
 obtain ⟨y0, y1, y2⟩ := cells3n kM
 go_wp2_with fail
 refine (eqSays_same N.sa N.sn N.sc M.sa M.sn M.sc N.ss _ (h.s.below b04) (by rw [he.s]; exact h2.s.below b04)).mono ?_
 rintro e w5 ⟨rfl, hb5⟩
 have HB := hide (gr_trans b04 hb5)
 clear x0 x1 x2 y0 y1 y2 hb5
 go_wp2
 go_ret
 exact ⟨rfl, HB.out⟩

def BV.blks (x : BV) : List Nat := blkL x.a ++ (blkL x.fa ++ (blkL x.ra ++ blkL x.oa))

theorem mem_blks {x : BV} {b : Nat} : b ∈ x.blks ↔ b ∈ blkL x.a ∨ b ∈ blkL x.fa ∨ b ∈ blkL x.ra ∨ b ∈ blkL x.oa := by
 unfold BV.blks; simp [List.mem_append]

theorem BV.Own.blk {w : World} {base : Nat} {x : BV} (h : x.Own w base) : ∀ b ∈ x.blks, base ≤ b ∧ b < w.heap.size := by
 intro b hb
 rcases mem_blks.1 hb with hb | hb | hb | hb
 ·exact h.ports.lt b (mem_blkL.2 hb)
 ·exact h.f.lt b (mem_blkL.2 hb)
 ·exact h.v.rows.lt b (mem_blkL.2 hb)
 ·exact h.v.own.lt b (mem_blkL.2 hb)

theorem BV.Own.only {bs : List Nat} {w w' : World} {base : Nat} {x : BV} (h : x.Own w base) (ho : Only bs w w') (hn : ∀ b ∈ x.blks, b ∉ bs) : x.Own w' base :=
 ⟨ho.own h.ports (fun k hk => hn k (mem_blks.2 (.inl (mem_blkL.1 hk)))), ho.own h.f (fun k hk => hn k (mem_blks.2 (.inr (.inl (mem_blkL.1 hk))))),
  ⟨ho.own h.v.rows (fun k hk => hn k (mem_blks.2 (.inr (.inr (.inl (mem_blkL.1 hk)))))), ho.own h.v.own (fun k hk => hn k (mem_blks.2 (.inr (.inr (.inr (mem_blkL.1 hk)))))), h.v.i64⟩⟩

theorem blkL_nodup (a : Option Addr) : (blkL a).Nodup := by cases a <;> simp [blkL]

theorem BV.Own.nd {w : World} {base : Nat} {x : BV} (h : x.Own w base) : x.blks.Nodup := by
 unfold BV.blks
 have d : ∀ {e e' : TypeId} {s s' n n' m m' c c' : Nat} {a a' : Option Addr} {xs xs' : List Value}, w.ownsRow base e s (.slice a n c) m xs → w.ownsRow base e' s' (.slice a' n' c') m' xs' → e ≠ e' → ∀ b ∈ blkL a, b ∉ blkL a' := fun h h' hne b hb hc => apart_type h h' hne (mem_blkL.2 hb) (mem_blkL.2 hc)
 have h12 := d h.ports h.f (by decide)
 have h13 := d h.ports h.v.rows (by decide)
 have h14 := d h.ports h.v.own (by decide)
 have h23 := d h.f h.v.rows (by decide)
 have h24 := d h.f h.v.own (by decide)
 have h34 := d h.v.rows h.v.own (by decide)
 refine List.nodup_append.2 ⟨blkL_nodup _, List.nodup_append.2 ⟨blkL_nodup _, List.nodup_append.2 ⟨blkL_nodup _, blkL_nodup _, ?_⟩, ?_⟩, ?_⟩
 ·intro a ha b hb e; subst e; exact h34 a ha hb
 ·intro a ha b hb e; subst e
  rcases List.mem_append.1 hb with hb | hb
  ·exact h23 a ha hb
  ·exact h24 a ha hb
 ·intro a ha b hb e; subst e
  rcases List.mem_append.1 hb with hb | hb
  ·exact h12 a ha hb
  ·rcases List.mem_append.1 hb with hb | hb
   ·exact h13 a ha hb
   ·exact h14 a ha hb

structure BOs (w : World) (base : Nat) (ao : Option Addr) (n cap : Nat) (l : List BV) : Prop where
 row : w.ownsRow base 62 11 (.slice ao n cap) n (brF.all l)
 item : ∀ x ∈ l, x.Own w base
 apart : (l.flatMap BV.blks).Nodup

def allB (ao : Option Addr) (l : List BV) : List Nat := blkL ao ++ l.flatMap BV.blks

theorem BOs.grow {w : World} {base : Nat} {ao : Option Addr} {n cap : Nat} {l : List BV} (h : BOs w base ao n cap l) : GRow brF w ao n cap l := grow_own (F := brF) h.row
theorem BOs.below {w w' : World} {base : Nat} {ao : Option Addr} {n cap : Nat} {l : List BV} (h : BOs w base ao n cap l) (hb : Below w.heap.size w w') : BOs w' base ao n cap l :=
 ⟨own5_below h.row hb, fun x hx => (h.item x hx).below hb, h.apart⟩
theorem BOs.lt {w : World} {base base' : Nat} {ao : Option Addr} {n cap : Nat} {l : List BV} (h : BOs w base ao n cap l) (hb : base' ≤ base) : BOs w base' ao n cap l :=
 ⟨own5_lt h.row hb, fun x hx => (h.item x hx).lt hb, h.apart⟩
theorem BOs.only {bs : List Nat} {w w' : World} {base : Nat} {ao : Option Addr} {n cap : Nat} {l : List BV} (h : BOs w base ao n cap l) (ho : Only bs w w') (hn : ∀ b ∈ allB ao l, b ∉ bs) : BOs w' base ao n cap l :=
 ⟨ho.own h.row (fun k hk => hn k (List.mem_append_left _ (mem_blkL.1 hk))), fun x hx => (h.item x hx).only ho (fun b hb => hn b (List.mem_append_right _ (List.mem_flatMap.2 ⟨x, hx, hb⟩))), h.apart⟩
theorem BOs.blk {w : World} {base : Nat} {ao : Option Addr} {n cap : Nat} {l : List BV} (h : BOs w base ao n cap l) : ∀ b ∈ allB ao l, base ≤ b ∧ b < w.heap.size := by
 intro b hb
 rcases List.mem_append.1 hb with hb | hb
 ·exact h.row.lt b (mem_blkL.2 hb)
 ·obtain ⟨x, hx, hb⟩ := List.mem_flatMap.1 hb
  exact (h.item x hx).blk b hb

theorem BV.Own.row_apart {w : World} {base base' : Nat} {ao : Option Addr} {n cap : Nat} {xs : List Value} (hr : w.ownsRow base' 62 11 (.slice ao n cap) n xs) {x : BV} (h : x.Own w base) : ∀ b ∈ x.blks, b ∉ blkL ao := by
 intro b hb hc
 rcases mem_blks.1 hb with hb | hb | hb | hb
 ·exact apart_type h.ports hr (by decide) (mem_blkL.2 hb) (mem_blkL.2 hc)
 ·exact apart_type h.f hr (by decide) (mem_blkL.2 hb) (mem_blkL.2 hc)
 ·exact apart_type h.v.rows hr (by decide) (mem_blkL.2 hb) (mem_blkL.2 hc)
 ·exact apart_type h.v.own hr (by decide) (mem_blkL.2 hb) (mem_blkL.2 hc)

theorem bapart_mid {pre post : List BV} {x : BV} (h : ((pre ++ x :: post).flatMap BV.blks).Nodup) : ∀ y, y ∈ pre ∨ y ∈ post → ∀ b ∈ y.blks, b ∉ x.blks := by
 rw [List.flatMap_append, List.flatMap_cons] at h
 obtain ⟨h1, h2, h3⟩ := List.nodup_append.1 h
 obtain ⟨h4, h5, h6⟩ := List.nodup_append.1 h2
 intro y hy b hb hx
 rcases hy with hy | hy
 ·exact h3 b (List.mem_flatMap.2 ⟨y, hy, hb⟩) b (List.mem_append_left _ hx) rfl
 ·exact h6 b hx b (List.mem_flatMap.2 ⟨y, hy, hb⟩) rfl

theorem mem_mid {pre post : List BV} {x y : BV} (h : y ∈ pre ∨ y ∈ post) : y ∈ pre ++ x :: post := by
 rcases h with h | h
 ·exact List.mem_append_left _ h
 ·exact List.mem_append_right _ (List.mem_cons_of_mem _ h)

theorem BOs.turn {bs : List Nat} {w w' : World} {base : Nat} {ao : Option Addr} {n cap : Nat} {pre post : List BV} {x x' : BV} (h : BOs w base ao n cap (pre ++ x :: post)) (hb : ∀ y, y ∈ pre ∨ y ∈ post → ∀ b ∈ y.blks, b ∉ x'.blks) (ho : Only bs w w') (hs : ∀ b ∈ bs, b ∈ x.blks ∨ b ∈ blkL ao)
  (hr : w'.ownsRow base 62 11 (.slice ao n cap) n (brF.all (pre ++ x' :: post))) (hx : x'.Own w' base) : BOs w' base ao n cap (pre ++ x' :: post) where
 row := hr
 item := by
  intro y hy
  have hm := bapart_mid h.apart
  have keep : (y ∈ pre ∨ y ∈ post) → y.Own w' base := fun hy => (h.item y (mem_mid hy)).only ho (fun b hb hbs => by
   rcases hs b hbs with h1 | h1
   ·exact hm y hy b hb h1
   ·exact BV.Own.row_apart h.row (h.item y (mem_mid hy)) b hb h1)
  rcases List.mem_append.1 hy with hy | hy
  ·exact keep (.inl hy)
  ·rcases List.mem_cons.1 hy with rfl | hy
   ·exact hx
   ·exact keep (.inr hy)
 apart := by
  have ha := h.apart
  rw [List.flatMap_append, List.flatMap_cons] at ha ⊢
  obtain ⟨h1, h2, h3⟩ := List.nodup_append.1 ha
  obtain ⟨-, h5, -⟩ := List.nodup_append.1 h2
  refine List.nodup_append.2 ⟨h1, List.nodup_append.2 ⟨hx.nd, h5, ?_⟩, ?_⟩
  ·intro a ha b hb' e
   subst e
   obtain ⟨z, hz, hb'⟩ := List.mem_flatMap.1 hb'
   exact hb z (.inr hz) a hb' ha
  ·intro a ha b hb' e
   subst e
   rcases List.mem_append.1 hb' with hb' | hb'
   ·obtain ⟨z, hz, ha⟩ := List.mem_flatMap.1 ha
    exact hb z (.inl hz) a ha hb'
   ·exact h3 a ha a (List.mem_append_right _ hb') rfl

theorem BOs.put {w w1 w' : World} {base g n cap : Nat} {pre post : List BV} {x y : BV} (h : BOs w base (some ⟨g, 0, none⟩) n cap (pre ++ x :: post)) (hb : Below w.heap.size w w1) (hy : y.Own w1 w.heap.size) (hbs : base ≤ w.heap.size) (hg : w1.grownBy w' (some g))
  (hr : w'.ownsRow base 62 11 (.slice (some ⟨g, 0, none⟩) n cap) n (brF.all (pre ++ y :: post))) : BOs w' base (some ⟨g, 0, none⟩) n cap (pre ++ y :: post) := by
 have O : Only [g] w1 w' := by have := Only.of_grown (ao := some ⟨g, 0, none⟩) (n := n) (c := cap) hg; simpa [blkL] using this
 have hgl : g < w.heap.size := (h.row.lt g rfl).2
 refine (h.below hb).turn (bs := [g]) ?_ O (fun b hb' => .inr (by simpa [blkL] using hb')) hr ((hy.only O (fun b hb' hc => by have := (hy.blk b hb').1; simp at hc; omega)).lt hbs)
 intro z hz b hb1 hb2
 have h1 := ((h.item z (mem_mid hz)).blk b hb1).2
 have h2 := (hy.blk b hb2).1
 omega

theorem BOs.push {w w1 w' : World} {base : Nat} {ao ao' : Option Addr} {n cap cap' : Nat} {l : List BV} {y : BV} (h : BOs w base ao n cap l) (hb : Below w.heap.size w w1) (hy : y.Own w1 w.heap.size) (hbs : base ≤ w.heap.size) (hg : w1.grownBy w' (Value.slice ao n cap).ownBlock)
  (hr : w'.ownsRow base 62 11 (.slice ao' (n + 1) cap') (n + 1) (brF.all (l ++ [y]))) : BOs w' base ao' (n + 1) cap' (l ++ [y]) := by
 have O := Only.of_grown hg
 have hk := h.below hb
 have hlt := h.row.lt
 refine ⟨hr, ?_, ?_⟩
 ·intro z hz
  rcases List.mem_append.1 hz with hz | hz
  ·exact (hk.item z hz).only O (BV.Own.row_apart hk.row (hk.item z hz))
  ·rw [List.mem_singleton.1 hz]
   exact (hy.only O (fun b hb' hc => by have h1 := (hy.blk b hb').1; have h2 := (hlt b (mem_blkL.2 hc)).2; omega)).lt hbs
 ·rw [List.flatMap_append]
  refine List.nodup_append.2 ⟨h.apart, by simpa using hy.nd, ?_⟩
  intro a ha b hb' e
  subst e
  obtain ⟨z, hz, ha⟩ := List.mem_flatMap.1 ha
  have h1 := ((h.item z hz).blk a ha).2
  have h2 := (hy.blk a (by simpa using hb')).1
  omega

structure NetOwn (w : World) (base : Nat) (M : NV) : Prop where
 b : BOs w base M.ba M.bn M.bc M.bs
 l : w.ownsRow base 75 4 (.slice M.la M.ln M.lc) M.ln (linkF.all M.ls)
 s : M.sa = none ∧ M.sn = 0 ∧ M.sc = 0 ∧ M.ss = []

theorem NetOwn.row {w : World} {base : Nat} {M : NV} (h : NetOwn w base M) : NetRow w M :=
 ⟨h.b.grow, fun x hx => (h.b.item x hx).row, grow_own (F := linkF) h.l, by rw [h.s.1, h.s.2.1, h.s.2.2.1, h.s.2.2.2]; exact grow_nil _ _⟩
theorem NetOwn.below {w w' : World} {base : Nat} {M : NV} (h : NetOwn w base M) (hb : Below w.heap.size w w') : NetOwn w' base M := ⟨h.b.below hb, gown_below h.l hb, h.s⟩
theorem NetOwn.lt {w : World} {base base' : Nat} {M : NV} (h : NetOwn w base M) (hb : base' ≤ base) : NetOwn w base' M := ⟨h.b.lt hb, gown_lt h.l hb, h.s⟩
theorem NetOwn.apart {w w' : World} {base : Nat} {M : NV} (h : NetOwn w base M) {g : Nat} (hg : w.grownBy w' (some g)) (hlt : g < base) : NetOwn w' base M := by
 have O : Only [g] w w' := ⟨hg.os, hg.tape, hg.output, hg.size, fun k hk hn => hg.block k hk (by intro e; cases e; exact hn (by simp))⟩
 exact ⟨h.b.only O (fun b hb hc => by have := (h.b.blk b hb).1; simp at hc; omega), O.own h.l (fun k hk hc => by have := (h.l.lt k hk).1; simp at hc; omega), h.s⟩

structure NOwn (w : World) (base : Nat) (M : NV) : Prop where
 b : BOs w base M.ba M.bn M.bc M.bs
 l : w.ownsRow base 75 4 (.slice M.la M.ln M.lc) M.ln (linkF.all M.ls)
 s : w.ownsRow base 83 7 (.slice M.sa M.sn M.sc) M.sn (sayF.all M.ss)

theorem NetOwn.all {w : World} {base : Nat} {M : NV} (h : NetOwn w base M) : NOwn w base M :=
 ⟨h.b, h.l, by rw [h.s.1, h.s.2.1, h.s.2.2.1, h.s.2.2.2]; exact World.ownsRow_nil _ _ _ _⟩
theorem NOwn.row {w : World} {base : Nat} {M : NV} (h : NOwn w base M) : NetRow w M :=
 ⟨h.b.grow, fun x hx => (h.b.item x hx).row, grow_own (F := linkF) h.l, grow_own (F := sayF) h.s⟩
theorem NOwn.below {w w' : World} {base : Nat} {M : NV} (h : NOwn w base M) (hb : Below w.heap.size w w') : NOwn w' base M := ⟨h.b.below hb, gown_below h.l hb, gown_below h.s hb⟩
theorem NOwn.lt {w : World} {base base' : Nat} {M : NV} (h : NOwn w base M) (hb : base' ≤ base) : NOwn w base' M := ⟨h.b.lt hb, gown_lt h.l hb, gown_lt h.s hb⟩

def HalfO (w wr : World) (l : List BV) (n k : Nat) : Prop :=
 ∃ ys : List BV, ys.length = k ∧ ys.map BV.B = (l.take k).map BV.B ∧ wr.ownsRow w.heap.size 62 11 (.slice (some ⟨w.heap.size, 0, none⟩) n n) n (brF.all (ys ++ List.replicate (n - k) BV.zero)) ∧ (∀ y ∈ ys, y.Own wr w.heap.size) ∧ (ys.flatMap BV.blks).Nodup

set_option maxRecDepth 100000 in
set_option maxHeartbeats 4000000 in
theorem toBridges_own (ao : Option Addr) (n c : Nat) (l : List BV) (w : World) (hl : GRow brF w ao n c l) (hr : ∀ x ∈ l, x.Reads w) (hs : n ≤ 1048576) (hm : ∀ x ∈ l, x.Small) :
  Calls Try.prog 20 #[.slice ao n c] w fun r w' => ∃ ao' cap ys, r = .returned (.slice ao' n cap) ∧ ys.map BV.B = l.map BV.B ∧ BOs w' w.heap.size ao' n cap ys ∧ Below w.heap.size w w' := by
 obtain ⟨i0, hi, hz0, hz1, hz2⟩ := finfo_parts brInfo
 have s1 := hl.size
 go_enter Try.func20, Try.ntmps20
 go_wp2_with (at_make; refine wpList_make_full _ rfl _ _ 30 rfl w.heap.size 62 i0 (.agg #[.int .i64 0, .string ⟨#[]⟩, .slice none 0 0, .slice none 0 0, .slice none 0 0, .slice none 0 0, .int .i64 0, .int .i64 0, .int .i64 0, .int .i64 0, .int .i64 0]) 11 Try.underlying30 hi hz0 hz1 .i64 .i64 _ _ n rfl rfl rfl rfl ?c1 ?c2 ?c3 ?_)
 case c1 => rw [hz2]; omega
 case c2 => unfold maxLen; omega
 case c3 => exact Nat.le_refl _
 intro w1 hown hgrow
 have hb1 : Below w.heap.size w w1 := (Below.refl _ _).grown hgrow (Nat.le_refl _) (by intro k hk; cases hk)
 have hown1 : HalfO w w1 l n 0 := by
  refine ⟨[], rfl, rfl, ?_, (by intro y hy; cases hy), List.nodup_nil⟩
  rw [List.nil_append, Nat.sub_zero, ← flat_made]; exact hown
 clear hown hgrow hi hz0 hz1 hz2
 go_wp2
 go_loopw [4] (fun i wr => ∃ k : Nat, k ≤ n ∧ i = .int .i64 k ∧ HalfO w wr l n k ∧ Below w.heap.size w wr) (fun i _ => n - (intOf i).toNat)
 case atStart => exact ⟨0, Nat.zero_le _, rfl, hown1, hb1⟩
 case round =>
  obtain ⟨k, hk, rfl, hh, hb⟩ := hrel
  clear hown1 hb1
  by_cases hlt : k < n
  ·obtain ⟨x, b, off, hx, rfl, ca0, ca1, ca2, ca3, ca4, ca5, ca6, ca7, ca8, ca9, ca10⟩ := br_at (hl.below hb) k hlt
   obtain ⟨ys, rfl, hyd, hyo, hyi, hap⟩ := hh
   have HAP := hide hap
   clear hap
   have hrep : List.replicate (n - ys.length) BV.zero = BV.zero :: List.replicate (n - (ys.length + 1)) BV.zero := by rw [← List.replicate_succ]; congr 1; omega
   rw [hrep] at hyo
   have hmem := List.mem_of_getElem? hx
   obtain ⟨m1, m2, m3, m4⟩ := hm x hmem
   have hrx := (hr x hmem).below hb
   have HX := hide hx
   have HB := hide hb
   have HYD := hide hyd
   have HYO := hide hyo
   have HYI := hide hyi
   clear hx hb hyd hyo hyi hrep
   go_wp2_with fail
   refine (toBridge_made x.a x.n x.c x.fa x.fn x.fc x.ra x.rn x.rc x.oa x.on x.oc x.B _ hrx m1 m2 m3 m4).mono ?_
   rintro e w2 ⟨a2, c2, fa2, fc2, ra2, rc2, oa2, oc2, rfl, ow2, hb2⟩
   generalize hy : (⟨a2, x.n, c2, fa2, x.fn, fc2, ra2, x.rn, rc2, oa2, x.on, oc2, x.B⟩ : BV) = y
   have ho2 := gown_below HYO.out hb2
   have hz : (ys ++ BV.zero :: List.replicate (n - (ys.length + 1)) BV.zero)[ys.length]? = some BV.zero := by simp
   obtain ⟨⟨t0, t1, t2, t3, t4, t5, t6, t7, t8, t9, t10⟩, f0, f1, f2, f3, f4, f5, f6, f7, f8, f9, f10⟩ := bridge_cells ho2 hz
   have hyb : y.B = x.B := by rw [← hy]
   have yo : y.Own w2 wr.heap.size := by rw [← hy]; exact ow2
   have hnd : ((ys ++ [y]).flatMap BV.blks).Nodup := by
    rw [List.flatMap_append, List.nodup_append]
    refine ⟨HAP.out, by simpa using yo.nd, ?_⟩
    intro b hb c hc e
    subst e
    obtain ⟨z, hz, hbz⟩ := List.mem_flatMap.1 hb
    have h1 := ((HYI.out z hz).blk b hbz).2
    have h2 := (yo.blk b (by simpa using hc)).1
    omega
   have HND := hide hnd
   clear hnd yo
   have o3 := bridge_put (y := y) ho2
   have g3 := bridge_puts (w := w2) (g := w.heap.size) (j := ys.length * 11) (y := y)
   obtain ⟨cs, hblk⟩ := own_block ho2
   have ow' : y.Own w2 w.heap.size := by rw [← hy]; exact ow2.lt HB.out.size
   have hb3 := gr_trans HB.out hb2
   have i3 : ∀ W, w2.grownBy W (some w.heap.size) → ∀ z ∈ ys ++ [y], z.Own W w.heap.size := by
    intro W hgW z hz
    refine BV.Own.other (T := 62) ?_ hblk (by decide) (by decide) (by decide) (by decide) hgW
    rcases List.mem_append.1 hz with hz | hz
    ·exact (HYI.out z hz).below hb2
    ·rw [List.mem_singleton.1 hz]; exact ow'
   have i3 := i3 _ g3
   have hb4 := hb3.grown g3 hb3.size (by intro j e; cases e; exact Nat.le_refl _)
   rw [← hy] at o3 i3 hb4 HND
   have HI := hide i3
   have HO3 := hide o3
   have HB3 := hide hb4
   clear ho2 hb2 hb3 hb4 o3 hz g3 hblk ow2 ow' i3 hy ca0 ca1 ca2 ca3 ca4 ca5 ca6 ca7 ca8 ca9 ca10 HYO HYI HB
   go_wp2
   go_roundw
   case rel =>
    refine ⟨ys.length + 1, by omega, by go_num, ⟨ys ++ [⟨a2, x.n, c2, fa2, x.fn, fc2, ra2, x.rn, rc2, oa2, x.on, oc2, x.B⟩], by simp, ?_, by rw [List.append_assoc]; exact HO3.out, HI.out, HND.out⟩, HB3.out⟩
    rw [List.map_append, HYD.out, List.take_add_one, HX.out]
    simp
   case measure => simp [intOf]; omega
  ·have hkn : k = n := by omega
   subst hkn
   obtain ⟨ys, hyl, hyd, hyo, hyi, hap⟩ := hh
   rw [List.take_of_length_le (by omega)] at hyd
   rw [Nat.sub_self, List.replicate_zero, List.append_nil] at hyo
   have HYD := hide hyd
   have HO := hide hyo
   have HI := hide hyi
   have HB := hide hb
   have HAP := hide hap
   clear hyd hyo hyi hb hap
   go_wp2
   go_ret
   exact ⟨_, _, ys, rfl, HYD.out, ⟨HO.out, HI.out, HAP.out⟩, HB.out⟩

set_option maxRecDepth 100000 in
set_option maxHeartbeats 4000000 in
theorem toNet_own (N : NV) (w : World) (h : NetRow w N) (hs : sizeN N ≤ 1048576) :
  Calls Try.prog 7 #[.agg #[.slice N.ba N.bn N.bc, .slice N.la N.ln N.lc, .slice N.sa N.sn N.sc]] w fun r w' => ∃ M : NV, r = .returned (.agg #[.slice M.ba M.bn M.bc, .slice M.la M.ln M.lc, .slice M.sa M.sn M.sc]) ∧ NOwn w' w.heap.size M ∧ M.Same N ∧ sizeN M = sizeN N ∧ Below w.heap.size w w' := by
 obtain ⟨z1, z2, z3, z4⟩ := net_small h hs
 go_enter Try.func7, Try.ntmps7
 go_wp2_with fail
 refine (toBridges_own N.ba N.bn N.bc N.bs _ (h.b.below (below_three _ _ _ _)) (fun x hx => (h.item x hx).below (below_three _ _ _ _)) z1 z4).mono ?_
 rintro e w1 ⟨ba, bc, bs, rfl, hB, OB, hb⟩
 have oB := OB.row
 have iB := OB.item
 have HAP := hide OB.apart
 clear OB
 obtain ⟨k0, k1, k2⟩ := kept_three hb
 have b1 : Below w.heap.size w w1 := gr_trans (below_three w _ _ _) hb
 obtain ⟨x0, x1, x2⟩ := cells3n k0
 obtain ⟨y0, y1, y2⟩ := cells3n k2
 have f0 := frozen8 k2 0
 have b2 := below_set b1 (g := w.heap.size + 1 + 1) (by omega) 0 (.slice ba N.bn bc)
 have n1 := hb.size
 simp at n1
 have oB2 := gown_apart (gown_lt oB (base' := w.heap.size + 3) (by simp)) (grown_set (rb := w.heap.size + 1 + 1) 0 (.slice ba N.bn bc)) (by intro b e; cases e; omega)
 have iB2 : ∀ y ∈ bs, y.Own _ (w.heap.size + 3) := fun y hy => ((iB y hy).lt (base' := w.heap.size + 3) (by simp)).apart (grown_set (rb := w.heap.size + 1 + 1) 0 (.slice ba N.bn bc)) (by intro b e; cases e; omega)
 have k0' := kept_set (b := w.heap.size + 1 + 1) (j := 0) (u := .slice ba N.bn bc) k0 (by omega)
 have k1' := kept_set (b := w.heap.size + 1 + 1) (j := 0) (u := .slice ba N.bn bc) k1 (by omega)
 have k2' := set_block5 (j := 0) k2 (.slice ba N.bn bc)
 clear oB iB hb k0 k1 k2
 generalize hwA : w1.setCell ⟨w.heap.size + 1 + 1, 0, none⟩ (.slice ba N.bn bc) = wA at b2 oB2 iB2 k0' k1' k2'
 clear x0 x1 x2
 obtain ⟨x0, x1, x2⟩ := cells3n k0'
 go_wp2_with fail
 refine (toLinks_made N.la N.ln N.lc N.ls _ (h.l.below b2) z2).mono ?_
 rintro e w3 ⟨la, lc, rfl, oL, hb3⟩
 have k0 := kept_block k0' hb3
 have k1 := kept_block k1' hb3
 have k2 : w3.heap[w.heap.size + 1 + 1]? = some (.cells #[.slice ba N.bn bc, .slice none 0 0, .slice none 0 0] 34) := kept_block k2' hb3
 have b3 := gr_trans b2 hb3
 have n3 := b2.size
 have n3' : w.heap.size + 3 ≤ wA.heap.size := by rw [← hwA]; simpa using n1
 have n3'' := Nat.le_trans n3' hb3.size
 have oB3 := gown_below oB2 hb3
 have iB3 : ∀ y ∈ bs, y.Own _ (w.heap.size + 3) := fun y hy => (iB2 y hy).below hb3
 have oL3 := gown_lt oL n3'
 clear hb3 k0' k1' k2' oB2 iB2 oL x0 x1 x2 y0 y1 y2 f0 hwA
 obtain ⟨y0, y1, y2⟩ := cells3n k2
 have f1 := frozen8 k2 1
 have b4 := below_set b3 (g := w.heap.size + 1 + 1) (by omega) 1 (.slice la N.ln lc)
 have oB4 := gown_apart oB3 (grown_set (rb := w.heap.size + 1 + 1) 1 (.slice la N.ln lc)) (by intro b e; cases e; omega)
 have oL4 := gown_apart oL3 (grown_set (rb := w.heap.size + 1 + 1) 1 (.slice la N.ln lc)) (by intro b e; cases e; omega)
 have iB4 : ∀ y ∈ bs, y.Own _ (w.heap.size + 3) := fun y hy => (iB3 y hy).apart (grown_set (rb := w.heap.size + 1 + 1) 1 (.slice la N.ln lc)) (by intro b e; cases e; omega)
 have k0' := kept_set (b := w.heap.size + 1 + 1) (j := 1) (u := .slice la N.ln lc) k0 (by omega)
 have k1' := kept_set (b := w.heap.size + 1 + 1) (j := 1) (u := .slice la N.ln lc) k1 (by omega)
 have k2' := set_block5 (j := 1) k2 (.slice la N.ln lc)
 have n4 : w.heap.size + 3 ≤ (w3.setCell ⟨w.heap.size + 1 + 1, 1, none⟩ (.slice la N.ln lc)).heap.size := by simpa using n3''
 clear oB3 iB3 oL3 k0 k1 k2
 generalize hwB : w3.setCell ⟨w.heap.size + 1 + 1, 1, none⟩ (.slice la N.ln lc) = wB at b4 oB4 oL4 iB4 k0' k1' k2' n4
 obtain ⟨x0, x1, x2⟩ := cells3n k0'
 go_wp2_with fail
 refine (toSays_made N.sa N.sn N.sc N.ss _ (h.s.below b4) z3).mono ?_
 rintro e w5 ⟨sa, sc, rfl, oS, hb5⟩
 have k1 := kept_block k1' hb5
 have k2 : w5.heap[w.heap.size + 1 + 1]? = some (.cells #[.slice ba N.bn bc, .slice la N.ln lc, .slice none 0 0] 34) := kept_block k2' hb5
 have b5 := gr_trans b4 hb5
 have oB5 := gown_below oB4 hb5
 have oL5 := gown_below oL4 hb5
 have oS5 := gown_lt oS n4
 have iB5 : ∀ y ∈ bs, y.Own _ (w.heap.size + 3) := fun y hy => (iB4 y hy).below hb5
 clear hb5 k0' k1' k2' oB4 oL4 iB4 oS x0 x1 x2 y0 y1 y2 f1 hwB
 obtain ⟨y0, y1, y2⟩ := cells3n k2
 obtain ⟨u0, u1, u2⟩ := cells3n k1
 have f2 := frozen8 k2 2
 have g0 := frozen8 k1 0
 have g1 := frozen8 k1 1
 have g2 := frozen8 k1 2
 have ne1 : ¬ w.heap.size + 1 = w.heap.size + 1 + 1 := by omega
 have ne2 : ¬ w.heap.size + 1 + 1 = w.heap.size + 1 := by omega
 have hst : ∀ W, w5.grownBy W (some (w.heap.size + 1 + 1)) → ∀ W', W.grownBy W' (some (w.heap.size + 1)) → NOwn W' w.heap.size ⟨ba, N.bn, bc, bs, la, N.ln, lc, N.ls, sa, N.sn, sc, N.ss⟩ := by
  intro W hg W' hg'
  have l1 : ∀ b, some (w.heap.size + 1 + 1) = some b → b < w.heap.size + 3 := by intro b e; cases e; omega
  have l2 : ∀ b, some (w.heap.size + 1) = some b → b < w.heap.size + 3 := by intro b e; cases e; omega
  exact NOwn.lt (base := w.heap.size + 3) ⟨⟨gown_apart (gown_apart oB5 hg l1) hg' l2, fun y hy => ((iB5 y hy).apart hg l1).apart hg' l2, HAP.out⟩, gown_apart (gown_apart oL5 hg l1) hg' l2, gown_apart (gown_apart oS5 hg l1) hg' l2⟩ (by omega)
 have HN := hide (hst _ (grown_set (rb := w.heap.size + 1 + 1) 2 (.slice sa N.sn sc)) _ (grownTr (grownTr (grown_set (rb := w.heap.size + 1) 0 (.slice ba N.bn bc)) (grown_set (rb := w.heap.size + 1) 1 (.slice la N.ln lc))) (grown_set (rb := w.heap.size + 1) 2 (.slice sa N.sn sc))))
 have HB := hide (below_set (below_set (below_set (below_set b5 (g := w.heap.size + 1 + 1) (by omega) 2 (.slice sa N.sn sc)) (g := w.heap.size + 1) (by omega) 0 (.slice ba N.bn bc)) (g := w.heap.size + 1) (by omega) 1 (.slice la N.ln lc)) (g := w.heap.size + 1) (by omega) 2 (.slice sa N.sn sc))
 have HBB := hide hB
 clear hst k1 k2 oB5 oL5 oS5 iB5 b5 b4 b3 b2 b1 hB n1 n3 n3' n3'' n4
 go_wp2
 refine bodyPost_ret (v := .agg #[.slice ba N.bn bc, .slice la N.ln lc, .slice sa N.sn sc]) (by simp [results, Try.results7, go_sem, *]) rfl ⟨⟨ba, N.bn, bc, bs, la, N.ln, lc, N.ls, sa, N.sn, sc, N.ss⟩, rfl, HN.out, ⟨HBB.out, rfl, rfl⟩, ?_, HB.out⟩
 have e := HBB.out
 unfold sizeN sizeBs
 have : (bs.map fun x => sizeB x.B) = (N.bs.map fun x => sizeB x.B) := by
  have := congrArg (List.map sizeB) e
  rw [List.map_map, List.map_map] at this
  exact this
 simp only [this]

def endW (K : Int) (x : BV) : Int := K + 1 + 1 + 8 * x.n + 5 * x.fn + 3 * x.rn + x.on
def markV (K : Int) (x : BV) : BV := { x with B := ⟨K, mtx (K + 1), markPs (K + 1 + 1) x.n, markEs (K + 1 + 1 + 8 * x.n) x.fn, ⟨markRs (K + 1 + 1 + 8 * x.n + 5 * x.fn) x.rn, marksI (K + 1 + 1 + 8 * x.n + 5 * x.fn + 3 * x.rn) x.on⟩, endW K x, endW K x + 1, endW K x + 1 + 1, endW K x + 1 + 1 + 1, endW K x + 1 + 1 + 1 + 1⟩ }
def endV (K : Int) (x : BV) : Int := endW K x + 1 + 1 + 1 + 1 + 1
def markVs : Int → List BV → List BV
 | _, [] => []
 | k, x :: r => markV k x :: markVs (endV k x) r
def endVs : Int → List BV → Int
 | k, [] => k
 | k, x :: r => endVs (endV k x) r

theorem markVs_snoc (a : List BV) (x : BV) : ∀ k, markVs k (a ++ [x]) = markVs k a ++ [markV (endVs k a) x] := by
 induction a with
 | nil => intro k; rfl
 | cons y r ih => intro k; simp only [List.cons_append, markVs, endVs, ih]
theorem endVs_snoc (a : List BV) (x : BV) : ∀ k, endVs k (a ++ [x]) = endV (endVs k a) x := by
 induction a with
 | nil => intro k; rfl
 | cons y r ih => intro k; simp only [List.cons_append, endVs, ih]
theorem markVs_length (a : List BV) : ∀ k, (markVs k a).length = a.length := by
 induction a with
 | nil => intro k; rfl
 | cons y r ih => intro k; simp only [markVs, List.length_cons, ih]
theorem markVs_blks (a : List BV) : ∀ k, (markVs k a).flatMap BV.blks = a.flatMap BV.blks := by
 induction a with
 | nil => intro k; rfl
 | cons y r ih => intro k; simp only [markVs, List.flatMap_cons, ih]; rfl

theorem BOs.cell {w : World} {base g n cap jj a : Nat} {u : Value} {pre post : List BV} {x x' : BV} (h : BOs w base (some ⟨g, 0, none⟩) n cap (pre ++ x :: post)) (hjj : jj < 11) (ha : a = pre.length * 11 + jj) (hc : (brF.cs x).set jj u = brF.cs x') (hb : x'.blks = x.blks) (hx : x.Own w base → x'.Own w base) : BOs (w.setCell ⟨g, a, none⟩ u) base (some ⟨g, 0, none⟩) n cap (pre ++ x' :: post) := by
 subst ha
 have hm : x ∈ pre ++ x :: post := by simp
 have O := Only.set w g (pre.length * 11 + jj) u
 refine h.turn (bs := [g]) (x' := x') (by rw [hb]; exact bapart_mid h.apart) O (fun b hb => .inr (by simpa [blkL] using hb)) (flat_stored (F := brF) h.row jj u hjj hc) ?_
 exact (hx (h.item x hm)).only O (fun b hb' hb2 => BV.Own.row_apart h.row (h.item x hm) b (hb ▸ hb') (by simpa [blkL] using hb2))

theorem BOs.inner {bs : List Nat} {w w' : World} {base : Nat} {ao : Option Addr} {n cap : Nat} {pre post : List BV} {x x' : BV} (h : BOs w base ao n cap (pre ++ x :: post)) (ho : Only bs w w') (hs : ∀ b ∈ bs, b ∈ x.blks) (hcs : brF.cs x' = brF.cs x) (hb : x'.blks = x.blks) (hx : x'.Own w' base) : BOs w' base ao n cap (pre ++ x' :: post) := by
 have hm : x ∈ pre ++ x :: post := by simp
 refine h.turn (x' := x') (by rw [hb]; exact bapart_mid h.apart) ho (fun b hb => .inl (hs b hb)) ?_ hx
 have e : brF.all (pre ++ x' :: post) = brF.all (pre ++ x :: post) := by rw [brF.all_append, brF.all_append, brF.all_cons, brF.all_cons, hcs]
 rw [e]
 exact ho.own h.row (fun k hk hk' => BV.Own.row_apart h.row (h.item x hm) k (hs k hk') (mem_blkL.1 hk))

theorem BOs.mid {w : World} {base : Nat} {ao : Option Addr} {n cap : Nat} {pre post : List BV} {x : BV} (h : BOs w base ao n cap (pre ++ x :: post)) : x.Own w base := h.item x (by simp)

theorem only_in {bs cs : List Nat} {a b c : World} (h : Only cs a b) (k : Only bs b c) (hs : ∀ x ∈ bs, x ∈ cs) : Only cs a c := h.trans (k.wider hs)

end Go.Proofs.Ytnichegfadgpdaa
