/-
  Packed: NetHelp JoinS.
-/
import Derived.Test.YtgmkhoakindpkaaPJKW
import Derived.Test.YtgmkhoakindpkaaPJBrHelp
import Derived.Test.YtgmkhoakindpkaaPJK01
import Derived.Test.YtgmkhoakindpkaaPJK02
import Derived.Test.YtgmkhoakindpkaaPJK03
import Derived.Test.YtgmkhoakindpkaaPJK07
import Derived.Test.YtgmkhoakindpkaaPJK09
import Derived.Deep.RegionHeld3
import Derived.Deep.CutRange
namespace Go.Proofs.Ytgmkhoakindpkaa
open Go.RowKit

theorem bridge_later {w w' : World} {b off n cap : Nat} {l : List BV} (h : GRow brF w (some ⟨b, off, none⟩) n cap l) (hb : Below w.heap.size w w') {i : Nat} {x : BV} (hx : l[i]? = some x) :
  w'.cell? ⟨b, off + i * 11, none⟩ = some (.int .i64 x.B.id) ∧ w'.cell? ⟨b, off + i * 11 + 1, none⟩ = some (.string x.B.name) ∧ w'.cell? ⟨b, off + i * 11 + 2, none⟩ = some (.slice x.a x.n x.c) ∧ w'.cell? ⟨b, off + i * 11 + 3, none⟩ = some (.slice x.fa x.fn x.fc) ∧ w'.cell? ⟨b, off + i * 11 + 4, none⟩ = some (.slice x.ra x.rn x.rc) ∧ w'.cell? ⟨b, off + i * 11 + 5, none⟩ = some (.slice x.oa x.on x.oc) ∧ w'.cell? ⟨b, off + i * 11 + 6, none⟩ = some (.int .i64 x.B.ticks) ∧ w'.cell? ⟨b, off + i * 11 + 7, none⟩ = some (.int .i64 x.B.parse) ∧ w'.cell? ⟨b, off + i * 11 + 8, none⟩ = some (.int .i64 x.B.word) ∧ w'.cell? ⟨b, off + i * 11 + 9, none⟩ = some (.int .i64 x.B.drops) ∧ w'.cell? ⟨b, off + i * 11 + 10, none⟩ = some (.int .i64 x.B.vers) := by
 have hi : i < n := by
  have := (List.getElem?_eq_some_iff.1 hx).1
  have := h.size
  omega
 obtain ⟨y, b', off', hy, e, c⟩ := br_at (h.below hb) i hi
 cases e
 rw [hx] at hy
 cases hy
 exact c

theorem bridge_put {w : World} {base g n cap : Nat} {pre post : List BV} {x y : BV} (h : w.ownsRow base 98 11 (.slice (some ⟨g, 0, none⟩) n cap) n (brF.all (pre ++ x :: post))) :
  (((((((((((w.setCell ⟨g, pre.length * 11, none⟩ (.int .i64 y.B.id)).setCell ⟨g, pre.length * 11 + 1, none⟩ (.string y.B.name)).setCell ⟨g, pre.length * 11 + 2, none⟩ (.slice y.a y.n y.c)).setCell ⟨g, pre.length * 11 + 3, none⟩ (.slice y.fa y.fn y.fc)).setCell ⟨g, pre.length * 11 + 4, none⟩ (.slice y.ra y.rn y.rc)).setCell ⟨g, pre.length * 11 + 5, none⟩ (.slice y.oa y.on y.oc)).setCell ⟨g, pre.length * 11 + 6, none⟩ (.int .i64 y.B.ticks)).setCell ⟨g, pre.length * 11 + 7, none⟩ (.int .i64 y.B.parse)).setCell ⟨g, pre.length * 11 + 8, none⟩ (.int .i64 y.B.word)).setCell ⟨g, pre.length * 11 + 9, none⟩ (.int .i64 y.B.drops)).setCell ⟨g, pre.length * 11 + 10, none⟩ (.int .i64 y.B.vers)).ownsRow base 98 11 (.slice (some ⟨g, 0, none⟩) n cap) n (brF.all (pre ++ y :: post)) := by
 have R0 := flat_stored (F := brF) (x' := ⟨x.a, x.n, x.c, x.fa, x.fn, x.fc, x.ra, x.rn, x.rc, x.oa, x.on, x.oc, ⟨y.B.id, x.B.name, x.B.ports, x.B.f, x.B.v, x.B.ticks, x.B.parse, x.B.word, x.B.drops, x.B.vers⟩⟩) h 0 (.int .i64 y.B.id) (by decide) rfl
 have R1 := flat_stored (F := brF) (x' := ⟨x.a, x.n, x.c, x.fa, x.fn, x.fc, x.ra, x.rn, x.rc, x.oa, x.on, x.oc, ⟨y.B.id, y.B.name, x.B.ports, x.B.f, x.B.v, x.B.ticks, x.B.parse, x.B.word, x.B.drops, x.B.vers⟩⟩) R0 1 (.string y.B.name) (by decide) rfl
 have R2 := flat_stored (F := brF) (x' := ⟨y.a, y.n, y.c, x.fa, x.fn, x.fc, x.ra, x.rn, x.rc, x.oa, x.on, x.oc, ⟨y.B.id, y.B.name, y.B.ports, x.B.f, x.B.v, x.B.ticks, x.B.parse, x.B.word, x.B.drops, x.B.vers⟩⟩) R1 2 (.slice y.a y.n y.c) (by decide) rfl
 have R3 := flat_stored (F := brF) (x' := ⟨y.a, y.n, y.c, y.fa, y.fn, y.fc, x.ra, x.rn, x.rc, x.oa, x.on, x.oc, ⟨y.B.id, y.B.name, y.B.ports, y.B.f, x.B.v, x.B.ticks, x.B.parse, x.B.word, x.B.drops, x.B.vers⟩⟩) R2 3 (.slice y.fa y.fn y.fc) (by decide) rfl
 have R4 := flat_stored (F := brF) (x' := ⟨y.a, y.n, y.c, y.fa, y.fn, y.fc, y.ra, y.rn, y.rc, x.oa, x.on, x.oc, ⟨y.B.id, y.B.name, y.B.ports, y.B.f, y.B.v, x.B.ticks, x.B.parse, x.B.word, x.B.drops, x.B.vers⟩⟩) R3 4 (.slice y.ra y.rn y.rc) (by decide) rfl
 have R5 := flat_stored (F := brF) (x' := ⟨y.a, y.n, y.c, y.fa, y.fn, y.fc, y.ra, y.rn, y.rc, y.oa, y.on, y.oc, ⟨y.B.id, y.B.name, y.B.ports, y.B.f, y.B.v, x.B.ticks, x.B.parse, x.B.word, x.B.drops, x.B.vers⟩⟩) R4 5 (.slice y.oa y.on y.oc) (by decide) rfl
 have R6 := flat_stored (F := brF) (x' := ⟨y.a, y.n, y.c, y.fa, y.fn, y.fc, y.ra, y.rn, y.rc, y.oa, y.on, y.oc, ⟨y.B.id, y.B.name, y.B.ports, y.B.f, y.B.v, y.B.ticks, x.B.parse, x.B.word, x.B.drops, x.B.vers⟩⟩) R5 6 (.int .i64 y.B.ticks) (by decide) rfl
 have R7 := flat_stored (F := brF) (x' := ⟨y.a, y.n, y.c, y.fa, y.fn, y.fc, y.ra, y.rn, y.rc, y.oa, y.on, y.oc, ⟨y.B.id, y.B.name, y.B.ports, y.B.f, y.B.v, y.B.ticks, y.B.parse, x.B.word, x.B.drops, x.B.vers⟩⟩) R6 7 (.int .i64 y.B.parse) (by decide) rfl
 have R8 := flat_stored (F := brF) (x' := ⟨y.a, y.n, y.c, y.fa, y.fn, y.fc, y.ra, y.rn, y.rc, y.oa, y.on, y.oc, ⟨y.B.id, y.B.name, y.B.ports, y.B.f, y.B.v, y.B.ticks, y.B.parse, y.B.word, x.B.drops, x.B.vers⟩⟩) R7 8 (.int .i64 y.B.word) (by decide) rfl
 have R9 := flat_stored (F := brF) (x' := ⟨y.a, y.n, y.c, y.fa, y.fn, y.fc, y.ra, y.rn, y.rc, y.oa, y.on, y.oc, ⟨y.B.id, y.B.name, y.B.ports, y.B.f, y.B.v, y.B.ticks, y.B.parse, y.B.word, y.B.drops, x.B.vers⟩⟩) R8 9 (.int .i64 y.B.drops) (by decide) rfl
 exact flat_stored (F := brF) (x' := y) R9 10 (.int .i64 y.B.vers) (by decide) rfl

theorem bridge_puts {w : World} {g j : Nat} {y : BV} : w.grownBy (((((((((((w.setCell ⟨g, j, none⟩ (.int .i64 y.B.id)).setCell ⟨g, j + 1, none⟩ (.string y.B.name)).setCell ⟨g, j + 2, none⟩ (.slice y.a y.n y.c)).setCell ⟨g, j + 3, none⟩ (.slice y.fa y.fn y.fc)).setCell ⟨g, j + 4, none⟩ (.slice y.ra y.rn y.rc)).setCell ⟨g, j + 5, none⟩ (.slice y.oa y.on y.oc)).setCell ⟨g, j + 6, none⟩ (.int .i64 y.B.ticks)).setCell ⟨g, j + 7, none⟩ (.int .i64 y.B.parse)).setCell ⟨g, j + 8, none⟩ (.int .i64 y.B.word)).setCell ⟨g, j + 9, none⟩ (.int .i64 y.B.drops)).setCell ⟨g, j + 10, none⟩ (.int .i64 y.B.vers)) (some g) :=
 grownTr (grownTr (grownTr (grownTr (grownTr (grownTr (grownTr (grownTr (grownTr (grownTr (grown_set _ _) (grown_set _ _)) (grown_set _ _)) (grown_set _ _)) (grown_set _ _)) (grown_set _ _)) (grown_set _ _)) (grown_set _ _)) (grown_set _ _)) (grown_set _ _)) (grown_set _ _)

theorem bridge_cells {w : World} {base g n cap : Nat} {T : TypeId} {l : List BV} (h : w.ownsRow base T 11 (.slice (some ⟨g, 0, none⟩) n cap) n (brF.all l)) {i : Nat} {x : BV} (hx : l[i]? = some x) :
  (w.cell? ⟨g, i * 11, none⟩ = some (.int .i64 x.B.id) ∧ w.cell? ⟨g, i * 11 + 1, none⟩ = some (.string x.B.name) ∧ w.cell? ⟨g, i * 11 + 2, none⟩ = some (.slice x.a x.n x.c) ∧ w.cell? ⟨g, i * 11 + 3, none⟩ = some (.slice x.fa x.fn x.fc) ∧ w.cell? ⟨g, i * 11 + 4, none⟩ = some (.slice x.ra x.rn x.rc) ∧ w.cell? ⟨g, i * 11 + 5, none⟩ = some (.slice x.oa x.on x.oc) ∧ w.cell? ⟨g, i * 11 + 6, none⟩ = some (.int .i64 x.B.ticks) ∧ w.cell? ⟨g, i * 11 + 7, none⟩ = some (.int .i64 x.B.parse) ∧ w.cell? ⟨g, i * 11 + 8, none⟩ = some (.int .i64 x.B.word) ∧ w.cell? ⟨g, i * 11 + 9, none⟩ = some (.int .i64 x.B.drops) ∧ w.cell? ⟨g, i * 11 + 10, none⟩ = some (.int .i64 x.B.vers)) ∧
  (w.frozen? ⟨g, i * 11, none⟩ = false ∧ w.frozen? ⟨g, i * 11 + 1, none⟩ = false ∧ w.frozen? ⟨g, i * 11 + 2, none⟩ = false ∧ w.frozen? ⟨g, i * 11 + 3, none⟩ = false ∧ w.frozen? ⟨g, i * 11 + 4, none⟩ = false ∧ w.frozen? ⟨g, i * 11 + 5, none⟩ = false ∧ w.frozen? ⟨g, i * 11 + 6, none⟩ = false ∧ w.frozen? ⟨g, i * 11 + 7, none⟩ = false ∧ w.frozen? ⟨g, i * 11 + 8, none⟩ = false ∧ w.frozen? ⟨g, i * 11 + 9, none⟩ = false ∧ w.frozen? ⟨g, i * 11 + 10, none⟩ = false) := by
 have c0 := flat_cells (F := brF) h hx (j := 0) (v := .int .i64 x.B.id) rfl
 have c1 := flat_cells (F := brF) h hx (j := 1) (v := .string x.B.name) rfl
 have c2 := flat_cells (F := brF) h hx (j := 2) (v := .slice x.a x.n x.c) rfl
 have c3 := flat_cells (F := brF) h hx (j := 3) (v := .slice x.fa x.fn x.fc) rfl
 have c4 := flat_cells (F := brF) h hx (j := 4) (v := .slice x.ra x.rn x.rc) rfl
 have c5 := flat_cells (F := brF) h hx (j := 5) (v := .slice x.oa x.on x.oc) rfl
 have c6 := flat_cells (F := brF) h hx (j := 6) (v := .int .i64 x.B.ticks) rfl
 have c7 := flat_cells (F := brF) h hx (j := 7) (v := .int .i64 x.B.parse) rfl
 have c8 := flat_cells (F := brF) h hx (j := 8) (v := .int .i64 x.B.word) rfl
 have c9 := flat_cells (F := brF) h hx (j := 9) (v := .int .i64 x.B.drops) rfl
 have c10 := flat_cells (F := brF) h hx (j := 10) (v := .int .i64 x.B.vers) rfl
 exact ⟨⟨c0.1, c1.1, c2.1, c3.1, c4.1, c5.1, c6.1, c7.1, c8.1, c9.1, c10.1⟩, c0.2, c1.2, c2.2, c3.2, c4.2, c5.2, c6.2, c7.2, c8.2, c9.2, c10.2⟩

abbrev BV.Own (w : World) (base : Nat) (x : BV) : Prop := BrOwn w base x.a x.n x.c x.fa x.fn x.fc x.ra x.rn x.rc x.oa x.on x.oc x.B

theorem BV.Own.other {w w' : World} {base : Nat} {x : BV} (h : x.Own w base) {X : Nat} {cs : Array Value} {T : TypeId} (hX : w.heap[X]? = some (.cells cs T)) (h1 : (91 : Nat) ≠ T) (h2 : (147 : Nat) ≠ T) (h3 : (149 : Nat) ≠ T) (h4 : (3 : Nat) ≠ T) (hg : w.grownBy w' (some X)) : x.Own w' base :=
 ⟨gown_other h.ports hg (box_ne h.ports hX h1), gown_other h.f hg (box_ne h.f hX h2), ⟨gown_other h.v.rows hg (box_ne h.v.rows hX h3), gown_other h.v.own hg (box_ne h.v.own hX h4), h.v.i64⟩⟩

theorem own_block {w : World} {base g n cap k : Nat} {T : TypeId} {xs : List Value} (h : w.ownsRow base T k (.slice (some ⟨g, 0, none⟩) n cap) n xs) : ∃ cs, w.heap[g]? = some (.cells cs T) := by
 rcases h.2 with ⟨e, _⟩ | ⟨g', cap', cur, e, _, hh, _⟩
 ·cases e
 ·cases e
  exact ⟨_, hh⟩

def BV.Small (x : BV) : Prop := x.n ≤ 1048576 ∧ x.fn ≤ 1048576 ∧ x.rn ≤ 1048576 ∧ x.on ≤ 1048576

set_option maxRecDepth 100000 in
set_option maxHeartbeats 4000000 in
theorem eqBridges_same (ao : Option Addr) (n c : Nat) (ao' : Option Addr) (n' c' : Nat) (l l' : List BV) (w : World) (hl : GRow brF w ao n c l) (hl' : GRow brF w ao' n' c' l') (hr : ∀ x ∈ l, x.Reads w) (hr' : ∀ x ∈ l', x.Reads w) (he : l.map BV.B = l'.map BV.B) :
  Calls Try.prog 30 #[.slice ao n c, .slice ao' n' c'] w fun r w' => r = .returned (.bool true) ∧ Below w.heap.size w w' := by
 have hs := hl.size
 have hs' := hl'.size
 have htop := Nat.le_trans hl.le hl.top
 unfold maxLen at htop
 have hlen : l.length = l'.length := by have := congrArg List.length he; simpa using this
 have hnn : n' = n := by omega
 subst hnn
 go_enter Try.func30, Try.ntmps30
 go_wp2
 go_loopw [5] (fun i wr => ∃ k : Nat, k ≤ n' ∧ i = .int .i64 k ∧ Below w.heap.size w wr) (fun i _ => n' - (intOf i).toNat)
 case atStart => exact ⟨0, Nat.zero_le _, rfl, Below.refl _ _⟩
 case round =>
  obtain ⟨k, hk, rfl, hb⟩ := hrel
  by_cases hlt : k < n'
  ·obtain ⟨x, b, off, hx, rfl, -⟩ := br_at (hl.below hb) k hlt
   obtain ⟨y, b', off', hy, rfl, -⟩ := br_at (hl'.below hb) k hlt
   have hBB : x.B = y.B := by
    have h1 : (l.map BV.B)[k]? = some x.B := by rw [List.getElem?_map, hx]; rfl
    have h2 : (l'.map BV.B)[k]? = some y.B := by rw [List.getElem?_map, hy]; rfl
    rw [he, h2] at h1
    exact (Option.some.inj h1).symm
   have HS : Hid (∀ W, Below wr.heap.size wr W → (W.cell? ⟨b, off + k * 11, none⟩ = some (.int .i64 x.B.id) ∧ W.cell? ⟨b, off + k * 11 + 1, none⟩ = some (.string x.B.name) ∧ W.cell? ⟨b, off + k * 11 + 2, none⟩ = some (.slice x.a x.n x.c) ∧ W.cell? ⟨b, off + k * 11 + 3, none⟩ = some (.slice x.fa x.fn x.fc) ∧ W.cell? ⟨b, off + k * 11 + 4, none⟩ = some (.slice x.ra x.rn x.rc) ∧ W.cell? ⟨b, off + k * 11 + 5, none⟩ = some (.slice x.oa x.on x.oc) ∧ W.cell? ⟨b, off + k * 11 + 6, none⟩ = some (.int .i64 x.B.ticks) ∧ W.cell? ⟨b, off + k * 11 + 7, none⟩ = some (.int .i64 x.B.parse) ∧ W.cell? ⟨b, off + k * 11 + 8, none⟩ = some (.int .i64 x.B.word) ∧ W.cell? ⟨b, off + k * 11 + 9, none⟩ = some (.int .i64 x.B.drops) ∧ W.cell? ⟨b, off + k * 11 + 10, none⟩ = some (.int .i64 x.B.vers)) ∧ (W.cell? ⟨b', off' + k * 11, none⟩ = some (.int .i64 x.B.id) ∧ W.cell? ⟨b', off' + k * 11 + 1, none⟩ = some (.string x.B.name) ∧ W.cell? ⟨b', off' + k * 11 + 2, none⟩ = some (.slice y.a y.n y.c) ∧ W.cell? ⟨b', off' + k * 11 + 3, none⟩ = some (.slice y.fa y.fn y.fc) ∧ W.cell? ⟨b', off' + k * 11 + 4, none⟩ = some (.slice y.ra y.rn y.rc) ∧ W.cell? ⟨b', off' + k * 11 + 5, none⟩ = some (.slice y.oa y.on y.oc) ∧ W.cell? ⟨b', off' + k * 11 + 6, none⟩ = some (.int .i64 x.B.ticks) ∧ W.cell? ⟨b', off' + k * 11 + 7, none⟩ = some (.int .i64 x.B.parse) ∧ W.cell? ⟨b', off' + k * 11 + 8, none⟩ = some (.int .i64 x.B.word) ∧ W.cell? ⟨b', off' + k * 11 + 9, none⟩ = some (.int .i64 x.B.drops) ∧ W.cell? ⟨b', off' + k * 11 + 10, none⟩ = some (.int .i64 x.B.vers))) := hide (fun W h => ⟨bridge_later (hl.below hb) h hx, by have := bridge_later (hl'.below hb) h hy; rw [← hBB] at this; exact this⟩)
   have HX := hide (hr x (List.mem_of_getElem? hx))
   have HY : Hid (BrRow w y.a y.n y.c y.fa y.fn y.fc y.ra y.rn y.rc y.oa y.on y.oc x.B) := hide (by rw [hBB]; exact hr' y (List.mem_of_getElem? hy))
   have vv : Below wr.heap.size wr wr.drew := gr_drew (Below.refl _ _)
   have i1 : (0 : Int) ≤ (k : Int) := by omega
   have i2 : (k : Int) < (n' : Int) := by omega
   have HB := hide hb
   clear hb hx hy hBB he
   go_wp2_with fail
   refine wp_region_held_drew (S := (fun W => (W.cell? ⟨b, off + k * 11, none⟩ = some (.int .i64 x.B.id) ∧ W.cell? ⟨b, off + k * 11 + 1, none⟩ = some (.string x.B.name) ∧ W.cell? ⟨b, off + k * 11 + 2, none⟩ = some (.slice x.a x.n x.c) ∧ W.cell? ⟨b, off + k * 11 + 3, none⟩ = some (.slice x.fa x.fn x.fc) ∧ W.cell? ⟨b, off + k * 11 + 4, none⟩ = some (.slice x.ra x.rn x.rc) ∧ W.cell? ⟨b, off + k * 11 + 5, none⟩ = some (.slice x.oa x.on x.oc) ∧ W.cell? ⟨b, off + k * 11 + 6, none⟩ = some (.int .i64 x.B.ticks) ∧ W.cell? ⟨b, off + k * 11 + 7, none⟩ = some (.int .i64 x.B.parse) ∧ W.cell? ⟨b, off + k * 11 + 8, none⟩ = some (.int .i64 x.B.word) ∧ W.cell? ⟨b, off + k * 11 + 9, none⟩ = some (.int .i64 x.B.drops) ∧ W.cell? ⟨b, off + k * 11 + 10, none⟩ = some (.int .i64 x.B.vers)) ∧ (W.cell? ⟨b', off' + k * 11, none⟩ = some (.int .i64 x.B.id) ∧ W.cell? ⟨b', off' + k * 11 + 1, none⟩ = some (.string x.B.name) ∧ W.cell? ⟨b', off' + k * 11 + 2, none⟩ = some (.slice y.a y.n y.c) ∧ W.cell? ⟨b', off' + k * 11 + 3, none⟩ = some (.slice y.fa y.fn y.fc) ∧ W.cell? ⟨b', off' + k * 11 + 4, none⟩ = some (.slice y.ra y.rn y.rc) ∧ W.cell? ⟨b', off' + k * 11 + 5, none⟩ = some (.slice y.oa y.on y.oc) ∧ W.cell? ⟨b', off' + k * 11 + 6, none⟩ = some (.int .i64 x.B.ticks) ∧ W.cell? ⟨b', off' + k * 11 + 7, none⟩ = some (.int .i64 x.B.parse) ∧ W.cell? ⟨b', off' + k * 11 + 8, none⟩ = some (.int .i64 x.B.word) ∧ W.cell? ⟨b', off' + k * 11 + 9, none⟩ = some (.int .i64 x.B.drops) ∧ W.cell? ⟨b', off' + k * 11 + 10, none⟩ = some (.int .i64 x.B.vers)))) (by kernel_rfl) (HS.out _ vv) (fun hHeld => ?_)
   refine kK 0 ⟨some 17, .move (.tmp 0), 29, "exact.go:1100", #[], none⟩ ?_
   refine kK 1 ⟨some 18, .move (.tmp 5), 3, "exact.go:1100", #[], none⟩ ?_
   refine kK 2 ⟨some 19, .indexAddr 29 (.tmp 17) (.tmp 18), 0, "exact.go:1100", #[⟨0, .data⟩, ⟨1, .data⟩], none⟩ ?_
   refine kK 3 ⟨some 20, .load 98 (.tmp 19), 98, "exact.go:1100", #[⟨2, .data⟩], none⟩ ?_
   refine kK 4 ⟨some 21, .move (.tmp 1), 29, "exact.go:1100", #[], none⟩ ?_
   refine kK 5 ⟨some 22, .move (.tmp 5), 3, "exact.go:1100", #[], none⟩ ?_
   refine kK 6 ⟨some 23, .indexAddr 29 (.tmp 21) (.tmp 22), 0, "exact.go:1100", #[⟨4, .data⟩, ⟨5, .data⟩], none⟩ ?_
   refine kK 7 ⟨some 24, .load 98 (.tmp 23), 98, "exact.go:1100", #[⟨6, .data⟩], none⟩ ?_
   refine kR 8 ⟨some 25, .call ⟨.value (.func 57), #[.tmp 20, .tmp 24], #[98, 98]⟩, 4, "exact.go:1100", #[⟨3, .data⟩, ⟨7, .data⟩], none⟩ (fun K hK => ?_)
   go_simp
   refine (eqBridge_same x.a x.n x.c x.fa x.fn x.fc x.ra x.rn x.rc x.oa x.on x.oc y.a y.n y.c y.fa y.fn y.fc y.ra y.rn y.rc y.oa y.on y.oc x.B _ (HX.out.below (gr_trans HB.out vv)) (HY.out.below (gr_trans HB.out vv))).mono ?_
   rintro r wz ⟨rfl, hbz⟩
   have vv := gr_trans vv hbz
   go_wp2_with fail
   refine hK.out _ _ (HS.out _ vv) (fun hHeld => ?_)
   clear hK K
   try simp only [Act.put, lA, lB, lC]
   refine kK 9 ⟨some 26, .unOp .not 4 (.tmp 25), 4, "exact.go:1100", #[⟨8, .data⟩], none⟩ ?_
   refine wpAnyH_done (by kernel_rfl) ?_ _
   have b1 := gr_trans HB.out vv
   clear HS hHeld vv
   go_wp2
   go_roundw
   case rel => exact ⟨k + 1, by omega, by go_num, b1⟩
   case measure => simp [intOf]; omega
  ·have hk' : k = n' := by omega
   subst hk'
   go_wp2
   go_ret
   exact ⟨rfl, hb⟩

def sizeBs (l : List BV) : Int := (l.map fun x => sizeB x.B).sum
def sizeN (N : NV) : Int := (N.bn : Int) + sizeBs N.bs + N.ln + N.sn

theorem sizeB_pos (B : BR) : 0 ≤ sizeB B := by unfold sizeB; omega
theorem sizeBs_app (l l' : List BV) : sizeBs (l ++ l') = sizeBs l + sizeBs l' := by unfold sizeBs; rw [List.map_append, List.sum_append]
theorem sizeBs_pos (l : List BV) : 0 ≤ sizeBs l := by
 induction l with
 | nil => simp [sizeBs]
 | cons x l ih => have := sizeB_pos x.B; unfold sizeBs at ih ⊢; rw [List.map_cons, List.sum_cons]; omega
theorem sizeBs_one {l : List BV} {k : Nat} {x : BV} (h : l[k]? = some x) : sizeBs (l.take (k + 1)) = sizeBs (l.take k) + sizeB x.B ∧ sizeBs (l.take (k + 1)) ≤ sizeBs l := by
 have e : l.take (k + 1) = l.take k ++ [x] := by rw [List.take_add_one, h]; rfl
 have h1 : sizeBs (l.take (k + 1)) = sizeBs (l.take k) + sizeB x.B := by rw [e, sizeBs_app]; simp [sizeBs]
 refine ⟨h1, ?_⟩
 have h2 := sizeBs_app (l.take (k + 1)) (l.drop (k + 1))
 rw [List.take_append_drop] at h2
 have := sizeBs_pos (l.drop (k + 1))
 omega
theorem sizeBs_mem {l : List BV} {x : BV} (h : x ∈ l) : sizeB x.B ≤ sizeBs l := by
 obtain ⟨k, hk⟩ := List.getElem?_of_mem h
 have h1 := sizeBs_one hk
 have := sizeBs_pos (l.take k)
 omega

set_option maxRecDepth 100000 in
set_option maxHeartbeats 4000000 in
theorem szBridges_any (ao : Option Addr) (n c : Nat) (l : List BV) (L : Int) (w : World) (hl : GRow brF w ao n c l) (hr : ∀ x ∈ l, x.Reads w) (hR : ∀ x ∈ l, x.B.Rng) (h0 : 0 ≤ L) (h1 : L ≤ 1048576) :
  Calls Try.prog 20 #[.slice ao n c, .int .i64 L] w fun r w' => r = .returned (.int .i64 (if (n : Int) + sizeBs l ≤ L then L - ((n : Int) + sizeBs l) else -1)) ∧ Below w.heap.size w w' := by
 have htop := Nat.le_trans hl.le hl.top
 unfold maxLen at htop
 have hsl := hl.size
 have hp := sizeBs_pos l
 generalize hG : (if (n : Int) + sizeBs l ≤ L then L - ((n : Int) + sizeBs l) else -1) = G
 have HG0 := hide hG
 clear hG
 by_cases hn : ¬ (n : Int) ≤ L
 ·have hlt : L - (n : Int) < 0 := by omega
  have HG : Hid (G = -1) := hide (by rw [← HG0.out]; exact if_neg (by omega))
  go_enter Try.func20, Try.ntmps20
  go_wp2
  go_ret
  exact ⟨by rw [HG.out]; rfl, Below.refl _ _⟩
 have hge : ¬ (L - (n : Int) < 0) := by omega
 go_enter Try.func20, Try.ntmps20
 go_wp2
 go_loopw [1, 5] (fun m i wr => ∃ k : Nat, k ≤ n ∧ i = .int .i64 k ∧ m = .int .i64 (L - (n : Int) - sizeBs (l.take k)) ∧ 0 ≤ L - (n : Int) - sizeBs (l.take k) ∧ Below w.heap.size w wr) (fun _ i _ => n - (intOf i).toNat)
 case atStart => exact ⟨0, Nat.zero_le _, rfl, by simp [sizeBs], by simp [sizeBs]; omega, Below.refl _ _⟩
 case round =>
  obtain ⟨k, hk, rfl, rfl, hge', hb⟩ := hrel
  by_cases hlt : k < n
  ·obtain ⟨x, b, off, hx, rfl, ca0, ca1, ca2, ca3, ca4, ca5, ca6, ca7, ca8, ca9, ca10⟩ := br_at (hl.below hb) k hlt
   have hmem := List.mem_of_getElem? hx
   obtain ⟨e1, e2⟩ := sizeBs_one hx
   have hp1 := sizeBs_pos (l.take k)
   have HX := hide hx
   have HB := hide hb
   have HE := hide e1
   have hrx := (hr x hmem).below hb
   clear hx hb
   generalize hM : L - (n : Int) - sizeBs (l.take k) = M at *
   have m1 : M ≤ 1048576 := by omega
   go_wp2_with fail
   refine (szBridge_from M hge' m1 x.a x.n x.c x.fa x.fn x.fc x.ra x.rn x.rc x.oa x.on x.oc x.B _ hrx (hR x hmem).name).mono ?_
   rintro e w2 ⟨rfl, hb2⟩
   have hb3 := gr_trans HB.out hb2
   by_cases hle : sizeB x.B ≤ M
   ·rw [if_pos hle]
    have j1 : ¬ (M - sizeB x.B < 0) := by omega
    have HB3 := hide hb3
    have HM : Hid (L - (n : Int) - sizeBs (l.take (k + 1)) = M - sizeB x.B) := hide (by omega)
    clear hb3 hb2 ca0 ca1 ca2 ca3 ca4 ca5 ca6 ca7 ca8 ca9 ca10
    generalize hS : sizeB x.B = S at *
    go_wp2
    go_roundw
    case rel => exact ⟨k + 1, by omega, by go_num, by rw [HM.out], by rw [HM.out]; omega, HB3.out⟩
    case measure => simp [intOf]; omega
   ·rw [if_neg hle]
    have HG : Hid (G = -1) := hide (by rw [← HG0.out]; exact if_neg (by omega))
    have HB3 := hide hb3
    clear hb3 hb2 ca0 ca1 ca2 ca3 ca4 ca5 ca6 ca7 ca8 ca9 ca10
    go_wp2
    go_ret
    exact ⟨by rw [HG.out]; rfl, HB3.out⟩
  ·have hkn : k = n := by omega
   subst hkn
   rw [List.take_of_length_le (by omega)] at hge' ⊢
   have HG : Hid (G = L - (k : Int) - sizeBs l) := hide (by rw [← HG0.out, if_pos (by omega)]; omega)
   go_wp2
   go_ret
   exact ⟨by rw [HG.out]; rfl, hb⟩

theorem cells3n {w : World} {g : Nat} {T : TypeId} {c0 c1 c2 : Value} (h : w.heap[g]? = some (.cells #[c0, c1, c2] T)) : w.cell? ⟨g, 0, none⟩ = some c0 ∧ w.cell? ⟨g, 1, none⟩ = some c1 ∧ w.cell? ⟨g, 2, none⟩ = some c2 := by
 simp [World.cell?, h]

set_option maxRecDepth 100000 in
set_option maxHeartbeats 4000000 in
theorem szNet_any (N : NV) (L : Int) (w : World) (h : NetRow w N) (hR : N.Rng) (h0 : 0 ≤ L) (h1 : L ≤ 1048576) :
  Calls Try.prog 6 #[.agg #[.slice N.ba N.bn N.bc, .slice N.la N.ln N.lc, .slice N.sa N.sn N.sc], .int .i64 L] w fun r w' => r = .returned (.int .i64 (if sizeN N ≤ L then L - sizeN N else -1)) ∧ Below w.heap.size w w' := by
 have n1 := Nat.le_trans h.b.le h.b.top
 have n2 := Nat.le_trans h.l.le h.l.top
 have n3 := Nat.le_trans h.s.le h.s.top
 have hp := sizeBs_pos N.bs
 generalize hG : (if sizeN N ≤ L then L - sizeN N else -1) = G
 have HG0 := hide hG
 clear hG
 generalize hw1 : w.alloc (Obj.cells #[.slice N.ba N.bn N.bc, .slice N.la N.ln N.lc, .slice N.sa N.sn N.sc] 26) = w1
 have b01 : Below w.heap.size w w1 := by rw [← hw1]; exact below_one _ _
 have k1 : w1.heap[w.heap.size]? = some (.cells #[.slice N.ba N.bn N.bc, .slice N.la N.ln N.lc, .slice N.sa N.sn N.sc] 26) := by rw [← hw1]; exact block_last _ _
 obtain ⟨x0, x1, x2⟩ := cells3n k1
 go_enter Try.func6, Try.ntmps6
 go_wp2_with fail
 refine (szBridges_any N.ba N.bn N.bc N.bs L _ (h.b.below b01) (fun x hx => (h.item x hx).below b01) hR.b h0 h1).mono ?_
 rintro e w2 ⟨rfl, hb2⟩
 have b02 := gr_trans b01 hb2
 have k2 := kept_block k1 hb2
 clear x0 x1 x2 hb2
 obtain ⟨x0, x1, x2⟩ := cells3n k2
 by_cases q1 : (N.bn : Int) + sizeBs N.bs ≤ L
 ·rw [if_pos q1]
  have j1 : ¬ (L - ((N.bn : Int) + sizeBs N.bs) < 0) := by omega
  go_wp2_with fail
  refine (szLinks_any N.la N.ln N.lc (L - ((N.bn : Int) + sizeBs N.bs)) _ n2 (by omega) (by omega)).mono ?_
  rintro e w3 ⟨rfl, rfl⟩
  by_cases q2 : (N.ln : Int) ≤ L - ((N.bn : Int) + sizeBs N.bs)
  ·rw [if_pos q2]
   have j2 : ¬ (L - ((N.bn : Int) + sizeBs N.bs) - (N.ln : Int) < 0) := by omega
   go_wp2_with fail
   refine (szSays_any N.sa N.sn N.sc (L - ((N.bn : Int) + sizeBs N.bs) - (N.ln : Int)) _ n3 (by omega) (by omega)).mono ?_
   rintro e w4 ⟨rfl, rfl⟩
   by_cases q3 : (N.sn : Int) ≤ L - ((N.bn : Int) + sizeBs N.bs) - (N.ln : Int)
   ·rw [if_pos q3]
    have j3 : ¬ (L - ((N.bn : Int) + sizeBs N.bs) - (N.ln : Int) - (N.sn : Int) < 0) := by omega
    have HG : Hid (G = L - ((N.bn : Int) + sizeBs N.bs) - (N.ln : Int) - (N.sn : Int)) := hide (by rw [← HG0.out]; unfold sizeN; rw [if_pos (by omega)]; omega)
    go_wp2
    go_ret
    exact ⟨by rw [HG.out]; rfl, b02⟩
   ·rw [if_neg q3]
    have HG : Hid (G = -1) := hide (by rw [← HG0.out]; unfold sizeN; rw [if_neg (by omega)])
    go_wp2
    go_ret
    exact ⟨by rw [HG.out]; rfl, b02⟩
  ·rw [if_neg q2]
   have HG : Hid (G = -1) := hide (by rw [← HG0.out]; unfold sizeN; rw [if_neg (by omega)])
   go_wp2
   go_ret
   exact ⟨by rw [HG.out]; rfl, b02⟩
 ·rw [if_neg q1]
  have HG : Hid (G = -1) := hide (by rw [← HG0.out]; unfold sizeN; rw [if_neg (by omega)])
  go_wp2
  go_ret
  exact ⟨by rw [HG.out]; rfl, b02⟩

theorem net_small {N : NV} {w : World} (h : NetRow w N) (hs : sizeN N ≤ 1048576) : N.bn ≤ 1048576 ∧ N.ln ≤ 1048576 ∧ N.sn ≤ 1048576 ∧ ∀ x ∈ N.bs, x.Small := by
 have hp := sizeBs_pos N.bs
 unfold sizeN at hs
 refine ⟨by omega, by omega, by omega, fun x hx => ?_⟩
 have h1 := sizeBs_mem hx
 have r := h.item x hx
 unfold sizeB at h1
 rw [r.ports.size, r.f.size, r.v.rows.size, r.v.own.size] at h1
 exact ⟨by omega, by omega, by omega, by omega⟩

structure NV.Same (N M : NV) : Prop where
 b : N.bs.map BV.B = M.bs.map BV.B
 l : N.ls = M.ls
 s : N.ss = M.ss

set_option maxRecDepth 100000 in
set_option maxHeartbeats 4000000 in
theorem eqNet_same (N M : NV) (w : World) (h : NetRow w N) (h2 : NetRow w M) (he : N.Same M) :
  Calls Try.prog 10 #[.agg #[.slice N.ba N.bn N.bc, .slice N.la N.ln N.lc, .slice N.sa N.sn N.sc], .agg #[.slice M.ba M.bn M.bc, .slice M.la M.ln M.lc, .slice M.sa M.sn M.sc]] w fun r w' => r = .returned (.bool true) ∧ Below w.heap.size w w' := by
 generalize hw1 : w.alloc (Obj.cells #[.slice N.ba N.bn N.bc, .slice N.la N.ln N.lc, .slice N.sa N.sn N.sc] 33) = w1
 generalize hw2 : w1.alloc (Obj.cells #[.slice M.ba M.bn M.bc, .slice M.la M.ln M.lc, .slice M.sa M.sn M.sc] 33) = w2
 have b01 : Below w.heap.size w w1 := by rw [← hw1]; exact below_one _ _
 have b12 : Below w1.heap.size w1 w2 := by rw [← hw2]; exact below_one _ _
 have kNe : w2.heap[w.heap.size]? = some (.cells #[.slice N.ba N.bn N.bc, .slice N.la N.ln N.lc, .slice N.sa N.sn N.sc] 33) := kept_block (by rw [← hw1]; exact block_last _ _) b12
 have kM : w2.heap[w1.heap.size]? = some (.cells #[.slice M.ba M.bn M.bc, .slice M.la M.ln M.lc, .slice M.sa M.sn M.sc] 33) := by rw [← hw2]; exact block_last _ _
 have b02 := gr_trans b01 b12
 obtain ⟨x0, x1, x2⟩ := cells3n kNe
 obtain ⟨y0, y1, y2⟩ := cells3n kM
 go_enter Try.func10, Try.ntmps10
 go_wp2_with fail
 refine (eqBridges_same N.ba N.bn N.bc M.ba M.bn M.bc N.bs M.bs _ (h.b.below b02) (h2.b.below b02) (fun x hx => (h.item x hx).below b02) (fun x hx => (h2.item x hx).below b02) he.b).mono ?_
 rintro e w3 ⟨rfl, hb3⟩
 have kNe := kept_block kNe hb3
 have kM := kept_block kM hb3
 have b03 := gr_trans b02 hb3
 clear x0 x1 x2 y0 y1 y2 hb3
 obtain ⟨x0, x1, x2⟩ := cells3n kNe
 obtain ⟨y0, y1, y2⟩ := cells3n kM
 go_wp2_with fail
 refine (eqLinks_same N.la N.ln N.lc M.la M.ln M.lc N.ls _ (h.l.below b03) (by rw [he.l]; exact h2.l.below b03)).mono ?_
 rintro e w4 ⟨rfl, hb4⟩
 have kNe := kept_block kNe hb4
 have kM := kept_block kM hb4
 have b04 := gr_trans b03 hb4
 clear x0 x1 x2 y0 y1 y2 hb4
 obtain ⟨x0, x1, x2⟩ := cells3n kNe
 obtain ⟨y0, y1, y2⟩ := cells3n kM
 go_wp2_with fail
 refine (eqSays_same N.sa N.sn N.sc M.sa M.sn M.sc N.ss _ (h.s.below b04) (by rw [he.s]; exact h2.s.below b04)).mono ?_
 rintro e w5 ⟨rfl, hb5⟩
 have HB := hide (gr_trans b04 hb5)
 clear x0 x1 x2 y0 y1 y2 hb5
 go_wp2
 go_ret
 exact ⟨rfl, HB.out⟩

theorem ints_at {w : World} {ao : Option Addr} {n c : Nat} {l : List Int} (h : GRow intF w ao n c l) (i : Nat) (hi : i < n) : ∃ (z : Int) (b off : Nat), l[i]? = some z ∧ ao = some ⟨b, off, none⟩ ∧ w.cell? ⟨b, off + i, none⟩ = some (.int .i64 z) := by
 obtain ⟨z, b, off, hz, ha, hc⟩ := h.at i hi
 exact ⟨z, b, off, hz, ha, by have := hc 0 _ rfl; simpa [intF] using this⟩

theorem has_no {l : List Int} {z : Int} (h : ∀ y ∈ l, ¬ y = z) : l.contains z = false := by
 rw [← Bool.not_eq_true, List.contains_iff_mem]
 exact fun hz => h z hz rfl

set_option maxRecDepth 100000 in
set_option maxHeartbeats 4000000 in
theorem specHas_any (a : Option Addr) (n c : Nat) (l : List Int) (z : Int) (w : World) (h : GRow intF w a n c l) :
  Calls Try.prog 41 #[.slice a n c, .int .i64 z] w fun e w' => e = .returned (.bool (l.contains z)) ∧ w' = w := by
 have hle := Nat.le_trans h.le h.top
 unfold maxLen at hle
 have HSZ := hide h.size
 generalize hR : l.contains z = R
 have HR := hide hR
 clear hR
 go_enter Try.func41, Try.ntmps41
 go_wp2_with fail
 go_loopw [5] (fun i wr => ∃ k : Nat, k ≤ n ∧ i = .int .i64 k ∧ (∀ y ∈ l.take k, ¬ y = z) ∧ wr = w) (fun i _ => n - (intOf i).toNat)
 case atStart => exact ⟨0, Nat.zero_le _, rfl, by intro y hy; simp at hy, rfl⟩
 case round =>
  obtain ⟨k, hk, rfl, hn, rfl⟩ := hrel
  by_cases hlt : k < n
  ·obtain ⟨y, b, off, hy, rfl, c0⟩ := ints_at h k hlt
   have i1 : (0 : Int) ≤ (k : Int) := by omega
   have i2 : (k : Int) < (n : Int) := by omega
   by_cases e : y = z
   ·have HG : Hid (R = true) := hide (by rw [← HR.out, List.contains_iff_mem, ← e]; exact List.mem_of_getElem? hy)
    have HN := hide hn
    clear hn hy
    go_wp2
    go_ret
    exact ⟨by rw [HG.out]; rfl, rfl⟩
   ·have HT : Hid (∀ x ∈ l.take (k + 1), ¬ x = z) := hide (by
     intro x hx
     rw [List.take_add_one, hy, List.mem_append] at hx
     rcases hx with hx | hx
     ·exact hn x hx
     ·simp at hx
      rw [hx]
      exact e)
    clear hn hy
    go_wp2
    go_roundw
    case rel => exact ⟨k + 1, by omega, by go_num, HT.out, by first | rfl | trivial⟩
    case measure => simp [intOf]; omega
  ·have hkn : k = n := by omega
   have HG : Hid (R = false) := hide (by rw [← HR.out]; exact has_no (fun y hy => hn y (by rw [List.take_of_length_le (by have := HSZ.out; omega)]; exact hy)))
   clear hn
   subst hkn
   go_wp2
   go_ret
   exact ⟨by rw [HG.out]; rfl, rfl⟩

theorem more_next {nb : Nat} {ls : List LK} {l o : List Int} {k : Nat} {z : Int} (h : l[k]? = some z) : moreTo nb ls l o (k + 1) = moreK nb ls (moreTo nb ls l o k) z := by
 rw [moreTo, h]
theorem moreK_none {nb ln : Nat} {ls : List LK} {o : List Int} {z : Int} (h : (decide (0 ≤ z) && decide (z ≤ (ln : Int) - 1)) = false) (hs : ls.length = ln) : moreK nb ls o z = o := by
 have e : linkAt ls z = none := by
  unfold linkAt
  split
  ·rw [List.getElem?_eq_none]
   simp at h
   omega
  ·rfl
 unfold moreK
 rw [e]
theorem moreK_some {nb : Nat} {ls : List LK} {o : List Int} {jz : Nat} {x : LK} (h : ls[jz]? = some x) : moreK nb ls o (jz : Int) = addTo nb x.b x.a (addTo nb x.a x.b o) := by
 have e : linkAt ls (jz : Int) = some x := by
  unfold linkAt
  rw [if_pos (by omega), Int.toNat_natCast, h]
 unfold moreK
 rw [e]
 rfl

theorem made_set4L {W : World} {X : Nat} {c0 c1 c2 c3 : Value} {T : TypeId} {K : World → Prop} (hk : W.heap[X]? = some (.cells #[c0, c1, c2, c3] T)) (v0 v1 v2 v3 : Value) (h : ∀ wq, wq.heap[X]? = some (.cells #[v0, v1, v2, v3] T) → W.grownBy wq (some X) → K wq) : K ((((W.setCell ⟨X, 0, none⟩ v0).setCell ⟨X, 1, none⟩ v1).setCell ⟨X, 2, none⟩ v2).setCell ⟨X, 3, none⟩ v3) := by
 refine h _ ?_ (grownTr (grownTr (grownTr (grown_set 0 _) (grown_set 1 _)) (grown_set 2 _)) (grown_set 3 _))
 have h0 := set_block5 (j := 0) hk v0
 have h1 := set_block5 (j := 1) h0 v1
 have h2 := set_block5 (j := 2) h1 v2
 have h3 := set_block5 (j := 3) h2 v3
 simpa using h3

set_option maxRecDepth 100000 in
set_option maxHeartbeats 16000000 in
theorem specMore_made (N : NV) (la : Option Addr) (ln lc : Nat) (l : List Int) (fa : Option Addr) (fn fc : Nat) (fr : List Int) (w : World) (h : NetRow w N) (hl : GRow intF w la ln lc l) (hf : GRow intF w fa fn fc fr) (hg : GoodL N.bn fr) (hbn : N.bn ≤ 1048576) :
  Calls Try.prog 40 #[.agg #[.slice N.ba N.bn N.bc, .slice N.la N.ln N.lc, .slice N.sa N.sn N.sc], .slice la ln lc, .slice fa fn fc] w fun e w' => ∃ ao cap, e = .returned (.slice ao (moreTo N.bn N.ls l fr ln).length cap) ∧ w'.ownsRow w.heap.size 3 1 (.slice ao (moreTo N.bn N.ls l fr ln).length cap) (moreTo N.bn N.ls l fr ln).length (intF.all (moreTo N.bn N.ls l fr ln)) ∧ Below w.heap.size w w' := by
 have hle := Nat.le_trans hl.le hl.top
 unfold maxLen at hle
 have HSF := hide hf.size
 have HLL : Hid (N.ln ≤ 9223372036854775807) := hide (by have := Nat.le_trans h.l.le h.l.top; unfold maxLen at this; omega)
 have HSL := hide h.l.size
 have HFL := hide hg.len
 have HBN := hide hbn
 generalize hw1 : w.alloc (Obj.cells #[.slice N.ba N.bn N.bc, .slice N.la N.ln N.lc, .slice N.sa N.sn N.sc] 33) = w1
 generalize hw2 : w1.alloc (Obj.cells #[] 3) = w2
 have b01 : Below w.heap.size w w1 := by rw [← hw1]; exact below_one _ _
 have b12 : Below w1.heap.size w1 w2 := by rw [← hw2]; exact below_one _ _
 have b02 := gr_trans b01 b12
 have HZ : Hid (w1.heap.size = w.heap.size + 1) := hide (by rw [← hw1]; simp)
 have k1 : w2.heap[w.heap.size]? = some (.cells #[.slice N.ba N.bn N.bc, .slice N.la N.ln N.lc, .slice N.sa N.sn N.sc] 33) := kept_block (by rw [← hw1]; exact block_last _ _) b12
 have k2 : w2.heap[w1.heap.size]? = some (.cells #[] 3) := by rw [← hw2]; exact block_last _ _
 have hI := flat_nil intF w w2 3 w1.heap.size k2 (by have := HZ.out; omega)
 have hf2 := hf.below b02
 go_enter Try.func40, Try.ntmps40
 go_wp2_with (at_builtin; refine wpList_append_flat (F := intF) _ rfl _ _ 37 3 rfl w.heap.size Try.underlying37 Try.infoI64 rfl (by decide) _ 0 [] rfl hI fa fn fc fr rfl hf2 (by have := HFL.out; have := HSF.out; omega) b02.size ?_)
 intro a3 c3 w3 how hr hgr hb3
 have b03 := b02.trans hb3
 have k1 := kept_grown k1 hgr (fun b e => box_ne hI k1 (by decide) b e)
 have how : w3.ownsRow w.heap.size 3 1 (.slice a3 fn c3) fn (intF.all fr) := how
 try rw [Nat.zero_add]
 clear hr hgr hb3 hI hf2 hw1 hw2 b01 b12 b02 k2
 go_wp2_with fail
 go_loopw [7, 8, 9] (fun p i u wr => ∃ (k : Nat) (ao : Option Addr) (cap : Nat), k ≤ ln ∧ i = .int .i64 k ∧ p = .slice ao (moreTo N.bn N.ls l fr k).length cap ∧ wr.ownsRow w.heap.size 3 1 (.slice ao (moreTo N.bn N.ls l fr k).length cap) (moreTo N.bn N.ls l fr k).length (intF.all (moreTo N.bn N.ls l fr k)) ∧ wr.heap[w.heap.size]? = some (.cells #[.slice N.ba N.bn N.bc, .slice N.la N.ln N.lc, .slice N.sa N.sn N.sc] 33) ∧ Below w.heap.size w wr) (fun _ i _ _ => ln - (intOf i).toNat)
 case atStart => exact ⟨0, a3, c3, Nat.zero_le _, rfl, by rw [show moreTo N.bn N.ls l fr 0 = fr from rfl, HSF.out], by rw [show moreTo N.bn N.ls l fr 0 = fr from rfl, HSF.out]; exact how, k1, b03⟩
 case round =>
  obtain ⟨k, ao, cap, hk, rfl, rfl, ow, kP, hb⟩ := hrel
  clear k1 b03 how
  have HGO : Hid (GoodL N.bn (moreTo N.bn N.ls l fr k)) := hide (moreTo_good hg k)
  by_cases hlt : k < ln
  ·obtain ⟨z, ib, io, hz, rfl, ci⟩ := ints_at (hl.below hb) k hlt
   have HZ2 := hide hz
   have i1 : (0 : Int) ≤ (k : Int) := by omega
   have i2 : (k : Int) < (ln : Int) := by omega
   clear hz
   generalize hO : moreTo N.bn N.ls l fr k = o at *
   have HO := hide hO
   clear hO
   obtain ⟨x0, x1, x2⟩ := cells3m kP
   have vv : Below wr.heap.size wr wr.drew := gr_drew (Below.refl _ _)
   have hwl : IntKind.i64.wrap ((N.ln : Int) - 1) = (N.ln : Int) - 1 := by have := HLL.out; rw [IntKind.wrap_i64]; omega
   clear x0 x1 x2
   go_wp2_with fail
   refine wp_region_held_drew (S := (fun W => (W.cell? ⟨w.heap.size, 0, none⟩ = some (.slice N.ba N.bn N.bc) ∧ W.cell? ⟨w.heap.size, 1, none⟩ = some (.slice N.la N.ln N.lc) ∧ W.cell? ⟨w.heap.size, 2, none⟩ = some (.slice N.sa N.sn N.sc)) ∧ W.cell? ⟨ib, io + k, none⟩ = some (.int .i64 z))) (by kernel_rfl) (⟨cells3m (kept_block kP vv), (vv.cell (block_lt ci)).trans ci⟩) (fun hHeld => ?_)
   refine kK 0 ⟨some 19, .move (.tmp 1), 37, "l15_agree.go:53", #[], none⟩ ?_
   refine kK 1 ⟨some 20, .move (.tmp 8), 3, "l15_agree.go:53", #[], none⟩ ?_
   refine kK 2 ⟨some 21, .indexAddr 37 (.tmp 19) (.tmp 20), 0, "l15_agree.go:53", #[⟨0, .data⟩, ⟨1, .data⟩], none⟩ ?_
   refine kK 3 ⟨some 22, .load 3 (.tmp 21), 3, "l15_agree.go:53", #[⟨2, .data⟩], none⟩ ?_
   refine kK 4 ⟨some 23, .fieldAddr 33 (.tmp 3) 1, 0, "l15_agree.go:53", #[], none⟩ ?_
   refine kK 5 ⟨some 24, .load 30 (.tmp 23), 30, "l15_agree.go:53", #[⟨4, .data⟩], none⟩ ?_
   refine kK 6 ⟨some 25, .call ⟨.builtin .len, #[.tmp 24], #[30]⟩, 3, "l15_agree.go:53", #[⟨5, .data⟩], none⟩ ?_
   refine kK 7 ⟨some 26, .binOp .sub 3 (.tmp 25) (.const (.int .i64 1)) 3, 3, "l15_agree.go:53", #[⟨6, .data⟩], none⟩ ?_
   refine kR 8 ⟨some 27, .call ⟨.value (.func 39), #[.tmp 22, .const (.int .i64 0), .tmp 26], #[3, 3, 3]⟩, 4, "l15_agree.go:53", #[⟨3, .data⟩, ⟨7, .data⟩], none⟩ (fun K hK => ?_)
   go_simp
   clear hHeld
   refine (within_any z 0 ((N.ln : Int) - 1) _).mono ?_
   rintro e wz ⟨rfl, ez⟩
   obtain rfl := ez.symm
   generalize hq : (decide (0 ≤ z) && decide (z ≤ (N.ln : Int) - 1)) = q
   have HQ := hide hq
   clear hq
   go_wp2_with fail
   refine hK.out _ _ (⟨cells3m (kept_block kP vv), (vv.cell (block_lt ci)).trans ci⟩) (fun hHeld => ?_)
   clear hK K
   try simp only [Act.put, lA, lB, lC]
   refine kK 9 ⟨some 28, .unOp .not 4 (.tmp 27), 4, "l15_agree.go:53", #[⟨8, .data⟩], none⟩ ?_
   refine wpAnyH_done (by kernel_rfl) ?_ _
   have hb := gr_trans hb vv
   have kP := kept_block kP vv
   have ow := gown_below ow vv
   have ci := (vv.cell (block_lt ci)).trans ci
   clear hHeld vv
   generalize hwd : wr.drew = wd at *
   cases q
   ·have HK1 : Hid (moreTo N.bn N.ls l fr (k + 1) = o) := hide (by rw [more_next HZ2.out, HO.out]; exact moreK_none HQ.out HSL.out)
    have HOW := hide ow
    have HP := hide kP
    have HB := hide hb
    clear ow kP hb ci
    go_wp2
    go_roundw
    case rel => exact ⟨k + 1, ao, cap, by omega, by go_num, by rw [HK1.out], by rw [HK1.out]; exact HOW.out, HP.out, HB.out⟩
    case measure => simp [intOf]; omega
   ·obtain ⟨jz, rfl⟩ : ∃ jz : Nat, z = (jz : Int) := ⟨z.toNat, by have := HQ.out; simp at this; omega⟩
    have hjz : jz < N.ln := by have := HQ.out; simp at this; omega
    obtain ⟨x, lb, lo, hx, hla, -⟩ := link_at (h.l.below hb) jz hjz
    have HKK : Hid (moreTo N.bn N.ls l fr (k + 1) = addTo N.bn x.b x.a (addTo N.bn x.a x.b o)) := hide (by rw [more_next HZ2.out, HO.out]; exact moreK_some hx)
    generalize hwz : wd.alloc (Obj.cells #[.int .i64 0, .int .i64 0, .int .i64 0, .int .i64 0] 57) = wz0
    have bz : Below wd.heap.size wd wz0 := by rw [← hwz]; exact below_one _ _
    have kZ : wz0.heap[wd.heap.size]? = some (.cells #[.int .i64 0, .int .i64 0, .int .i64 0, .int .i64 0] 57) := by rw [← hwz]; exact block_last _ _
    obtain ⟨x', lb', lo', hx', hla', a0, a1, a2, a3⟩ := link_at (h.l.below hb) jz hjz
    rw [hx] at hx'
    cases hx'
    rw [hla] at hla'
    cases hla'
    obtain ⟨x', lb', lo', hx', hla', a0', a1', a2', a3'⟩ := link_at (h.l.below (gr_trans hb bz)) jz hjz
    rw [hx] at hx'
    cases hx'
    rw [hla] at hla'
    cases hla'
    obtain ⟨y0, y1, y2⟩ := cells3m kP
    rw [hla] at y1
    obtain ⟨y0', y1', y2'⟩ := cells3m (kept_block kP bz)
    rw [hla] at y1'
    have ci' := (bz.cell (block_lt ci)).trans ci
    obtain ⟨t0, t1, t2, t3⟩ := cells4n kZ
    have f0 := frozen8 kZ 0
    have f1 := frozen8 kZ 1
    have f2 := frozen8 kZ 2
    have f3 := frozen8 kZ 3
    have i3 : (0 : Int) ≤ (jz : Int) := by omega
    have i4 : (jz : Int) < (N.ln : Int) := by omega
    have HRD : Hid (w.heap.size ≤ wd.heap.size) := hide hb.size
    have HRD2 : Hid (w.heap.size < wd.heap.size) := hide (Array.getElem?_eq_some_iff.1 kP).1
    clear hla hx
    go_upto_region 6 with fail
    go_region
    generalize hwl : (((wz0.setCell ⟨wd.heap.size, 0, none⟩ (.int .i64 x.a)).setCell ⟨wd.heap.size, 1, none⟩ (.int .i64 x.p)).setCell ⟨wd.heap.size, 2, none⟩ (.int .i64 x.b)).setCell ⟨wd.heap.size, 3, none⟩ (.int .i64 x.q) = wl0
    have kL : wl0.heap[wd.heap.size]? = some (.cells #[.int .i64 x.a, .int .i64 x.p, .int .i64 x.b, .int .i64 x.q] 57) := by rw [← hwl]; exact made_set4L (K := fun W => W.heap[wd.heap.size]? = some (.cells #[.int .i64 x.a, .int .i64 x.p, .int .i64 x.b, .int .i64 x.q] 57)) kZ _ _ _ _ (fun _ k _ => k)
    have gL : wz0.grownBy wl0 (some wd.heap.size) := by rw [← hwl]; exact made_set4L (K := fun W => wz0.grownBy W (some wd.heap.size)) kZ _ _ _ _ (fun _ _ k => k)
    clear hwl
    have hb := (gr_trans hb bz).grown gL (gr_trans hb bz).size (by intro u e; cases e; exact HRD.out)
    have kP := kept_grown (kept_block kP bz) gL (by intro u e; cases e; have := HRD2.out; omega)
    have ow := gown_other (gown_below ow bz) gL (fun b hbk e => by subst e; exact box_ne (gown_below ow bz) kZ (by decide) _ hbk rfl)
    clear gL
    generalize hwl : wl0.drew = wl
    have dl : Below wl0.heap.size wl0 wl := by rw [← hwl]; exact gr_drew (Below.refl _ _)
    have hb := gr_trans hb dl
    have kP := kept_block kP dl
    have kL := kept_block kL dl
    have ow := gown_below ow dl
    clear hwl dl a0 a1 a2 a3 a0' a1' a2' a3' y0 y1 y2 y0' y1' y2' ci ci' t0 t1 t2 t3 f0 f1 f2 f3 kZ bz hwz
    generalize hRl : wd.heap.size = Rl at *
    obtain ⟨x0, x1, x2⟩ := cells3m kP
    obtain ⟨l0, l1, l2, l3⟩ := cells4n kL
    generalize hCC : (o.contains x.a && (!(o.contains x.b) && inB N.bn x.b)) = CC
    have HCC := hide hCC
    clear hCC
    go_upto_region 7 with fail
    go_cut [56] from 37 to 55 (fun s wx => s = .bool CC ∧ wx = wl)
    case first =>
     go_wp2_with fail
     refine (specHas_any ao o.length cap o x.a _ (grow_own (F := intF) ow)).mono ?_
     rintro e wa ⟨rfl, ea⟩
     obtain rfl := ea.symm
     cases h1 : o.contains x.a
     ·have HE : Hid (CC = false) := hide (by rw [← HCC.out, h1]; rfl)
      clear h1
      go_wp2_with fail
      go_meet
      exact ⟨by rw [HE.out], rfl⟩
     ·go_wp2_with fail
      refine (specHas_any ao o.length cap o x.b _ (grow_own (F := intF) ow)).mono ?_
      rintro e wa ⟨rfl, ea⟩
      obtain rfl := ea.symm
      cases h2 : o.contains x.b
      ·go_wp2_with fail
       refine (within_any x.b 0 ((N.bn : Int) - 1) _).mono ?_
       rintro e wa ⟨rfl, ea⟩
       obtain rfl := ea.symm
       have HE : Hid (CC = (decide (0 ≤ x.b) && decide (x.b ≤ (N.bn : Int) - 1))) := hide (by rw [← HCC.out, h1, h2]; rfl)
       clear h1 h2
       go_wp2_with fail
       go_meet
       exact ⟨by rw [HE.out], rfl⟩
      ·have HE : Hid (CC = false) := hide (by rw [← HCC.out, h1, h2]; rfl)
       clear h1 h2
       go_wp2_with fail
       go_meet
       exact ⟨by rw [HE.out], rfl⟩
    case rest =>
     obtain ⟨rfl, ec⟩ := hcut
     obtain rfl := ec.symm
     cases CC
     ·have HA1 : Hid (addTo N.bn x.a x.b o = o) := hide (by unfold addTo; rw [HCC.out]; rfl)
      clear HCC
      generalize hCC : (o.contains x.b && (!(o.contains x.a) && inB N.bn x.a)) = CC
      have HCC := hide hCC
      clear hCC
      go_upto_region 9 with fail
      go_cut [81] from 62 to 80 (fun s wx => s = .bool CC ∧ wx = wl)
      case first =>
       go_wp2_with fail
       refine (specHas_any ao o.length cap o x.b _ (grow_own (F := intF) ow)).mono ?_
       rintro e wa ⟨rfl, ea⟩
       obtain rfl := ea.symm
       cases h1 : o.contains x.b
       ·have HE : Hid (CC = false) := hide (by rw [← HCC.out, h1]; rfl)
        clear h1
        go_wp2_with fail
        go_meet
        exact ⟨by rw [HE.out], rfl⟩
       ·go_wp2_with fail
        refine (specHas_any ao o.length cap o x.a _ (grow_own (F := intF) ow)).mono ?_
        rintro e wa ⟨rfl, ea⟩
        obtain rfl := ea.symm
        cases h2 : o.contains x.a
        ·go_wp2_with fail
         refine (within_any x.a 0 ((N.bn : Int) - 1) _).mono ?_
         rintro e wa ⟨rfl, ea⟩
         obtain rfl := ea.symm
         have HE : Hid (CC = (decide (0 ≤ x.a) && decide (x.a ≤ (N.bn : Int) - 1))) := hide (by rw [← HCC.out, h1, h2]; rfl)
         clear h1 h2
         go_wp2_with fail
         go_meet
         exact ⟨by rw [HE.out], rfl⟩
        ·have HE : Hid (CC = false) := hide (by rw [← HCC.out, h1, h2]; rfl)
         clear h1 h2
         go_wp2_with fail
         go_meet
         exact ⟨by rw [HE.out], rfl⟩
      case rest =>
       obtain ⟨rfl, ec⟩ := hcut
       obtain rfl := ec.symm
       cases CC
       ·have HK2 : Hid (moreTo N.bn N.ls l fr (k + 1) = o) := hide (by rw [HKK.out, HA1.out]; unfold addTo; rw [HCC.out]; rfl)
        have HOW := hide ow
        have HP := hide kP
        have HB := hide hb
        clear ow kP kL hb x0 x1 x2 l0 l1 l2 l3
        go_wp2
        go_roundw
        case rel => exact ⟨k + 1, ao, cap, by omega, by go_num, by rw [HK2.out], by rw [HK2.out]; exact HOW.out, HP.out, HB.out⟩
        case measure => simp [intOf]; omega
       ·have HK2 : Hid (moreTo N.bn N.ls l fr (k + 1) = o ++ [x.a]) := hide (by rw [HKK.out, HA1.out]; unfold addTo; rw [HCC.out]; rfl)
        have HL2 : Hid ((moreTo N.bn N.ls l fr (k + 1)).length = o.length + 1) := hide (by rw [HK2.out, List.length_append]; rfl)
        generalize hwb : wl.alloc (Obj.cells #[Value.int .i64 x.a] 3) = wb
        have brb : Below wl.heap.size wl wb := by rw [← hwb]; exact below_one _ _
        have kb : wb.heap[wl.heap.size]? = some (.cells #[.int .i64 x.a] 3) := by rw [← hwb]; exact block_last _ _
        have gone : GRow intF wb (some ⟨wl.heap.size, 0, none⟩) 1 1 [x.a] := grow_own (F := intF) (own_one intF (x := x.a) (base := 0) kb rfl (Nat.zero_le _))
        have hI2 := gown_below ow brb
        have HBA := hide (gr_trans hb brb)
        have KPA := hide (kept_block kP brb)
        have KLA := hide (kept_block kL brb)
        clear ow hb kP kL
        go_wp2_with (at_builtin; refine wpList_append_flat (F := intF) _ rfl _ _ 37 3 rfl w.heap.size Try.underlying37 Try.infoI64 rfl (by decide) _ o.length o rfl hI2 (some ⟨wl.heap.size, 0, none⟩) 1 1 [x.a] rfl gone (by have := HGO.out.len; have := HBN.out; omega) HBA.out.size ?_)
        intro a7 c7 w7 how hr hgr hb7
        have hb := HBA.out.trans hb7
        have kP := kept_grown KPA.out hgr (fun b e => box_ne hI2 KPA.out (by decide) b e)
        have kL := kept_grown KLA.out hgr (fun b e => box_ne hI2 KLA.out (by decide) b e)
        clear hr hgr hb7 hI2 gone kb hwb brb x0 x1 x2 l0 l1 l2 l3
        obtain ⟨x0, x1, x2⟩ := cells3m kP
        obtain ⟨l0, l1, l2, l3⟩ := cells4n kL
        have HOW := hide how
        have HP := hide kP
        have HB := hide hb
        clear how kP kL hb x0 x1 x2 l0 l1 l2 l3
        go_wp2
        go_roundw
        case rel => exact ⟨k + 1, a7, c7, by omega, by go_num, by rw [HL2.out], by rw [HL2.out, HK2.out]; exact HOW.out, HP.out, HB.out⟩
        case measure => simp [intOf]; omega
     ·have HA1 : Hid (addTo N.bn x.a x.b o = o ++ [x.b]) := hide (by unfold addTo; rw [HCC.out]; rfl)
      have HGO1 : Hid (GoodL N.bn (addTo N.bn x.a x.b o)) := hide (add_good HGO.out)
      clear HCC
      generalize hwb : wl.alloc (Obj.cells #[Value.int .i64 x.b] 3) = wb
      have brb : Below wl.heap.size wl wb := by rw [← hwb]; exact below_one _ _
      have kb : wb.heap[wl.heap.size]? = some (.cells #[.int .i64 x.b] 3) := by rw [← hwb]; exact block_last _ _
      have gone : GRow intF wb (some ⟨wl.heap.size, 0, none⟩) 1 1 [x.b] := grow_own (F := intF) (own_one intF (x := x.b) (base := 0) kb rfl (Nat.zero_le _))
      have hI2 := gown_below ow brb
      have HBA := hide (gr_trans hb brb)
      have KPA := hide (kept_block kP brb)
      have KLA := hide (kept_block kL brb)
      clear ow hb kP kL
      go_wp2_with (at_builtin; refine wpList_append_flat (F := intF) _ rfl _ _ 37 3 rfl w.heap.size Try.underlying37 Try.infoI64 rfl (by decide) _ o.length o rfl hI2 (some ⟨wl.heap.size, 0, none⟩) 1 1 [x.b] rfl gone (by have := HGO.out.len; have := HBN.out; omega) HBA.out.size ?_)
      intro a7 c7 w7 how hr hgr hb7
      have hb := HBA.out.trans hb7
      have kP := kept_grown KPA.out hgr (fun b e => box_ne hI2 KPA.out (by decide) b e)
      have kL := kept_grown KLA.out hgr (fun b e => box_ne hI2 KLA.out (by decide) b e)
      clear hr hgr hb7 hI2 gone kb hwb brb x0 x1 x2 l0 l1 l2 l3
      obtain ⟨x0, x1, x2⟩ := cells3m kP
      obtain ⟨l0, l1, l2, l3⟩ := cells4n kL
      have HL1 : Hid ((addTo N.bn x.a x.b o).length = o.length + 1) := hide (by rw [HA1.out, List.length_append]; rfl)
      rw [← HA1.out, ← HL1.out] at how
      rw [← HL1.out]
      have HGO := HGO1
      have ow := how
      clear how HGO1
      generalize hO1 : addTo N.bn x.a x.b o = o1 at *
      obtain ⟨ao, hao⟩ : ∃ u, u = a7 := ⟨_, rfl⟩
      subst hao
      obtain ⟨cap, hcap⟩ : ∃ u, u = c7 := ⟨_, rfl⟩
      subst hcap
      have HO1 := hide hO1
      clear hO1
      generalize hCC : (o1.contains x.b && (!(o1.contains x.a) && inB N.bn x.a)) = CC
      have HCC := hide hCC
      clear hCC
      go_upto_region 9 with fail
      go_cut [81] from 62 to 80 (fun s wx => s = .bool CC ∧ wx = w7)
      case first =>
       go_wp2_with fail
       refine (specHas_any ao o1.length cap o1 x.b _ (grow_own (F := intF) ow)).mono ?_
       rintro e wa ⟨rfl, ea⟩
       obtain rfl := ea.symm
       cases h1 : o1.contains x.b
       ·have HE : Hid (CC = false) := hide (by rw [← HCC.out, h1]; rfl)
        clear h1
        go_wp2_with fail
        go_meet
        exact ⟨by rw [HE.out], rfl⟩
       ·go_wp2_with fail
        refine (specHas_any ao o1.length cap o1 x.a _ (grow_own (F := intF) ow)).mono ?_
        rintro e wa ⟨rfl, ea⟩
        obtain rfl := ea.symm
        cases h2 : o1.contains x.a
        ·go_wp2_with fail
         refine (within_any x.a 0 ((N.bn : Int) - 1) _).mono ?_
         rintro e wa ⟨rfl, ea⟩
         obtain rfl := ea.symm
         have HE : Hid (CC = (decide (0 ≤ x.a) && decide (x.a ≤ (N.bn : Int) - 1))) := hide (by rw [← HCC.out, h1, h2]; rfl)
         clear h1 h2
         go_wp2_with fail
         go_meet
         exact ⟨by rw [HE.out], rfl⟩
        ·have HE : Hid (CC = false) := hide (by rw [← HCC.out, h1, h2]; rfl)
         clear h1 h2
         go_wp2_with fail
         go_meet
         exact ⟨by rw [HE.out], rfl⟩
      case rest =>
       obtain ⟨rfl, ec⟩ := hcut
       obtain rfl := ec.symm
       cases CC
       ·have HK2 : Hid (moreTo N.bn N.ls l fr (k + 1) = o1) := hide (by rw [HKK.out]; unfold addTo; rw [HCC.out]; rfl)
        have HOW := hide ow
        have HP := hide kP
        have HB := hide hb
        clear ow kP kL hb x0 x1 x2 l0 l1 l2 l3
        go_wp2
        go_roundw
        case rel => exact ⟨k + 1, ao, cap, by omega, by go_num, by rw [HK2.out], by rw [HK2.out]; exact HOW.out, HP.out, HB.out⟩
        case measure => simp [intOf]; omega
       ·have HK2 : Hid (moreTo N.bn N.ls l fr (k + 1) = o1 ++ [x.a]) := hide (by rw [HKK.out]; unfold addTo; rw [HCC.out]; rfl)
        have HL2 : Hid ((moreTo N.bn N.ls l fr (k + 1)).length = o1.length + 1) := hide (by rw [HK2.out, List.length_append]; rfl)
        generalize hwb : w7.alloc (Obj.cells #[Value.int .i64 x.a] 3) = wb
        have brb : Below w7.heap.size w7 wb := by rw [← hwb]; exact below_one _ _
        have kb : wb.heap[w7.heap.size]? = some (.cells #[.int .i64 x.a] 3) := by rw [← hwb]; exact block_last _ _
        have gone : GRow intF wb (some ⟨w7.heap.size, 0, none⟩) 1 1 [x.a] := grow_own (F := intF) (own_one intF (x := x.a) (base := 0) kb rfl (Nat.zero_le _))
        have hI2 := gown_below ow brb
        have HBA := hide (gr_trans hb brb)
        have KPA := hide (kept_block kP brb)
        have KLA := hide (kept_block kL brb)
        clear ow hb kP kL
        go_wp2_with (at_builtin; refine wpList_append_flat (F := intF) _ rfl _ _ 37 3 rfl w.heap.size Try.underlying37 Try.infoI64 rfl (by decide) _ o1.length o1 rfl hI2 (some ⟨w7.heap.size, 0, none⟩) 1 1 [x.a] rfl gone (by have := HGO.out.len; have := HBN.out; omega) HBA.out.size ?_)
        intro a7 c7 w7 how hr hgr hb7
        have hb := HBA.out.trans hb7
        have kP := kept_grown KPA.out hgr (fun b e => box_ne hI2 KPA.out (by decide) b e)
        have kL := kept_grown KLA.out hgr (fun b e => box_ne hI2 KLA.out (by decide) b e)
        clear hr hgr hb7 hI2 gone kb hwb brb x0 x1 x2 l0 l1 l2 l3
        obtain ⟨x0, x1, x2⟩ := cells3m kP
        obtain ⟨l0, l1, l2, l3⟩ := cells4n kL
        have HOW := hide how
        have HP := hide kP
        have HB := hide hb
        clear how kP kL hb x0 x1 x2 l0 l1 l2 l3
        go_wp2
        go_roundw
        case rel => exact ⟨k + 1, a7, c7, by omega, by go_num, by rw [HL2.out], by rw [HL2.out, HK2.out]; exact HOW.out, HP.out, HB.out⟩
        case measure => simp [intOf]; omega
  ·have hkn : k = ln := by omega
   subst hkn
   have HO := hide ow
   have HB := hide hb
   clear ow hb
   go_wp2
   go_ret
   exact ⟨ao, cap, rfl, HO.out, HB.out⟩

end Go.Proofs.Ytgmkhoakindpkaa
