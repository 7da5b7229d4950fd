/-
  Packed: PtHelp PtMark VrowHelp ImplIn OwnGen NetMarkL TextRow MarkText.
-/
import Derived.Test.YtnichegfadgpdaaPUKW
import Derived.Test.YtnichegfadgpdaaPUK01
import Derived.Test.YtnichegfadgpdaaPUK02
import Derived.Deep.RegionHeld3
import Derived.Laws.IdiomStrings
namespace Go.Proofs.Ytnichegfadgpdaa
open Go.RowKit

set_option maxRecDepth 100000 in
set_option maxHeartbeats 2000000 in
theorem toPt_made (x : PT) (w : World) :
  Calls Try.prog 76 #[.agg #[.bool x.up, .int .i64 x.k, .bool x.has, .int .i64 x.v.r, .int .i64 x.v.c, .int .i64 x.v.h, .int .i64 x.v.b, .int .i64 x.v.p]] w fun r w' => r = .returned (.agg #[.bool x.up, .int .i64 x.k, .bool x.has, .int .i64 x.v.r, .int .i64 x.v.c, .int .i64 x.v.h, .int .i64 x.v.b, .int .i64 x.v.p]) ∧ Below w.heap.size w w' := by
 go_enter Try.func76, Try.ntmps76
 go_wp2_with fail
 refine (toVec_made x.v.r x.v.c x.v.h x.v.b x.v.p _).mono ?_
 rintro e w2 ⟨rfl, hb2⟩
 obtain ⟨-, k1, k2⟩ := kept_three hb2
 have HB0 := hide (gr_trans (below_three w _ _ _) hb2)
 clear hb2
 obtain ⟨d0, d1, d2, d3, d4, d5, d6, d7⟩ := cells8 k2
 obtain ⟨e0, e1, e2, e3, e4, e5, e6, e7⟩ := cells8 k1
 have fr : ∀ j, w2.frozen? ⟨w.heap.size + 1 + 1, j, none⟩ = false := fun j => by simp [World.frozen?, k2]
 have gr : ∀ j, w2.frozen? ⟨w.heap.size + 1, j, none⟩ = false := fun j => by simp [World.frozen?, k1]
 have f3 := fr 3
 have f4 := fr 4
 have f5 := fr 5
 have f6 := fr 6
 have f7 := fr 7
 have g0 := gr 0
 have g1 := gr 1
 have g2 := gr 2
 have g3 := gr 3
 have g4 := gr 4
 have g5 := gr 5
 have g6 := gr 6
 have g7 := gr 7
 have ne1 : ¬ w.heap.size + 1 = w.heap.size + 1 + 1 := by omega
 have ne2 : ¬ w.heap.size + 1 + 1 = w.heap.size + 1 := by omega
 have HB := hide (below_set (below_set (below_set (below_set (below_set (below_set (below_set (below_set (below_set (below_set (below_set (below_set (below_set HB0.out (g := w.heap.size + 1 + 1) (by omega) 3 (.int .i64 x.v.r)) (g := w.heap.size + 1 + 1) (by omega) 4 (.int .i64 x.v.c)) (g := w.heap.size + 1 + 1) (by omega) 5 (.int .i64 x.v.h)) (g := w.heap.size + 1 + 1) (by omega) 6 (.int .i64 x.v.b)) (g := w.heap.size + 1 + 1) (by omega) 7 (.int .i64 x.v.p)) (g := w.heap.size + 1) (by omega) 0 (.bool x.up)) (g := w.heap.size + 1) (by omega) 1 (.int .i64 x.k)) (g := w.heap.size + 1) (by omega) 2 (.bool x.has)) (g := w.heap.size + 1) (by omega) 3 (.int .i64 x.v.r)) (g := w.heap.size + 1) (by omega) 4 (.int .i64 x.v.c)) (g := w.heap.size + 1) (by omega) 5 (.int .i64 x.v.h)) (g := w.heap.size + 1) (by omega) 6 (.int .i64 x.v.b)) (g := w.heap.size + 1) (by omega) 7 (.int .i64 x.v.p))
 clear fr gr k1 k2
 go_wp2
 exact bodyPost_ret (v := .agg #[.bool x.up, .int .i64 x.k, .bool x.has, .int .i64 x.v.r, .int .i64 x.v.c, .int .i64 x.v.h, .int .i64 x.v.b, .int .i64 x.v.p]) (by simp [results, Try.results76, go_sem, *]) rfl ⟨rfl, HB.out⟩

theorem ptInfoH : (Try.prog.info? 95).map (fun i => (i.zero, i.size, i.bytes)) = some (some (.agg #[.bool false, .int .i64 0, .bool false, .int .i64 0, .int .i64 0, .int .i64 0, .int .i64 0, .int .i64 0]), 8, 64) := by kernel_rfl

def PT.zero : PT := ⟨false, 0, false, ⟨0, 0, 0, 0, 0⟩⟩

theorem at8h {w w' : World} {b off n cap : Nat} {l : List PT} (h : GRow ptF w (some ⟨b, off, none⟩) n cap l) (hb : Below w.heap.size w w') {i : Nat} {x : PT} (hx : l[i]? = some x) :
  w'.cell? ⟨b, off + i * 8, none⟩ = some (.bool x.up) ∧ w'.cell? ⟨b, off + i * 8 + 1, none⟩ = some (.int .i64 x.k) ∧ w'.cell? ⟨b, off + i * 8 + 2, none⟩ = some (.bool x.has) ∧ w'.cell? ⟨b, off + i * 8 + 3, none⟩ = some (.int .i64 x.v.r) ∧ w'.cell? ⟨b, off + i * 8 + 4, none⟩ = some (.int .i64 x.v.c) ∧ w'.cell? ⟨b, off + i * 8 + 5, none⟩ = some (.int .i64 x.v.h) ∧ w'.cell? ⟨b, off + i * 8 + 6, none⟩ = some (.int .i64 x.v.b) ∧ w'.cell? ⟨b, off + i * 8 + 7, none⟩ = some (.int .i64 x.v.p) := by
 have hi : i < n := by
  have := (List.getElem?_eq_some_iff.1 hx).1
  have := h.size
  omega
 obtain ⟨y, b', off', hy, e, c⟩ := pt_at (h.below hb) i hi
 cases e
 rw [hx] at hy
 cases hy
 exact c

theorem pt_put {w : World} {base g n cap : Nat} {pre post : List PT} {x y : PT} (h : w.ownsRow base 95 8 (.slice (some ⟨g, 0, none⟩) n cap) n (ptF.all (pre ++ x :: post))) :
  ((((((((w.setCell ⟨g, pre.length * 8, none⟩ (.bool y.up)).setCell ⟨g, pre.length * 8 + 1, none⟩ (.int .i64 y.k)).setCell ⟨g, pre.length * 8 + 2, none⟩ (.bool y.has)).setCell ⟨g, pre.length * 8 + 3, none⟩ (.int .i64 y.v.r)).setCell ⟨g, pre.length * 8 + 4, none⟩ (.int .i64 y.v.c)).setCell ⟨g, pre.length * 8 + 5, none⟩ (.int .i64 y.v.h)).setCell ⟨g, pre.length * 8 + 6, none⟩ (.int .i64 y.v.b)).setCell ⟨g, pre.length * 8 + 7, none⟩ (.int .i64 y.v.p)).ownsRow base 95 8 (.slice (some ⟨g, 0, none⟩) n cap) n (ptF.all (pre ++ y :: post)) := by
 have R0 := flat_stored (F := ptF) (x' := ⟨y.up, x.k, x.has, ⟨x.v.r, x.v.c, x.v.h, x.v.b, x.v.p⟩⟩) h 0 (.bool y.up) (by decide) rfl
 have R1 := flat_stored (F := ptF) (x' := ⟨y.up, y.k, x.has, ⟨x.v.r, x.v.c, x.v.h, x.v.b, x.v.p⟩⟩) R0 1 (.int .i64 y.k) (by decide) rfl
 have R2 := flat_stored (F := ptF) (x' := ⟨y.up, y.k, y.has, ⟨x.v.r, x.v.c, x.v.h, x.v.b, x.v.p⟩⟩) R1 2 (.bool y.has) (by decide) rfl
 have R3 := flat_stored (F := ptF) (x' := ⟨y.up, y.k, y.has, ⟨y.v.r, x.v.c, x.v.h, x.v.b, x.v.p⟩⟩) R2 3 (.int .i64 y.v.r) (by decide) rfl
 have R4 := flat_stored (F := ptF) (x' := ⟨y.up, y.k, y.has, ⟨y.v.r, y.v.c, x.v.h, x.v.b, x.v.p⟩⟩) R3 4 (.int .i64 y.v.c) (by decide) rfl
 have R5 := flat_stored (F := ptF) (x' := ⟨y.up, y.k, y.has, ⟨y.v.r, y.v.c, y.v.h, x.v.b, x.v.p⟩⟩) R4 5 (.int .i64 y.v.h) (by decide) rfl
 have R6 := flat_stored (F := ptF) (x' := ⟨y.up, y.k, y.has, ⟨y.v.r, y.v.c, y.v.h, y.v.b, x.v.p⟩⟩) R5 6 (.int .i64 y.v.b) (by decide) rfl
 exact flat_stored (F := ptF) (x' := y) R6 7 (.int .i64 y.v.p) (by decide) rfl

theorem grown_set8 {w : World} {g : Nat} (j0 j1 j2 j3 j4 j5 j6 j7 : Nat) (u0 u1 u2 u3 u4 u5 u6 u7 : Value) : w.grownBy ((((((((w.setCell ⟨g, j0, none⟩ u0).setCell ⟨g, j1, none⟩ u1).setCell ⟨g, j2, none⟩ u2).setCell ⟨g, j3, none⟩ u3).setCell ⟨g, j4, none⟩ u4).setCell ⟨g, j5, none⟩ u5).setCell ⟨g, j6, none⟩ u6).setCell ⟨g, j7, none⟩ u7) (some g) :=
 grownTr (grownTr (grownTr (grownTr (grownTr (grownTr (grownTr (grown_set _ _) (grown_set _ _)) (grown_set _ _)) (grown_set _ _)) (grown_set _ _)) (grown_set _ _)) (grown_set _ _)) (grown_set _ _)

theorem pt_cells {w : World} {base g n cap : Nat} {T : TypeId} {l : List PT} (h : w.ownsRow base T 8 (.slice (some ⟨g, 0, none⟩) n cap) n (ptF.all l)) {i : Nat} {x : PT} (hx : l[i]? = some x) :
  (w.cell? ⟨g, i * 8, none⟩ = some (.bool x.up) ∧ w.cell? ⟨g, i * 8 + 1, none⟩ = some (.int .i64 x.k) ∧ w.cell? ⟨g, i * 8 + 2, none⟩ = some (.bool x.has) ∧ w.cell? ⟨g, i * 8 + 3, none⟩ = some (.int .i64 x.v.r) ∧ w.cell? ⟨g, i * 8 + 4, none⟩ = some (.int .i64 x.v.c) ∧ w.cell? ⟨g, i * 8 + 5, none⟩ = some (.int .i64 x.v.h) ∧ w.cell? ⟨g, i * 8 + 6, none⟩ = some (.int .i64 x.v.b) ∧ w.cell? ⟨g, i * 8 + 7, none⟩ = some (.int .i64 x.v.p)) ∧
  (w.frozen? ⟨g, i * 8, none⟩ = false ∧ w.frozen? ⟨g, i * 8 + 1, none⟩ = false ∧ w.frozen? ⟨g, i * 8 + 2, none⟩ = false ∧ w.frozen? ⟨g, i * 8 + 3, none⟩ = false ∧ w.frozen? ⟨g, i * 8 + 4, none⟩ = false ∧ w.frozen? ⟨g, i * 8 + 5, none⟩ = false ∧ w.frozen? ⟨g, i * 8 + 6, none⟩ = false ∧ w.frozen? ⟨g, i * 8 + 7, none⟩ = false) := by
 have c0 := flat_cells (F := ptF) h hx (j := 0) (v := .bool x.up) rfl
 have c1 := flat_cells (F := ptF) h hx (j := 1) (v := .int .i64 x.k) rfl
 have c2 := flat_cells (F := ptF) h hx (j := 2) (v := .bool x.has) rfl
 have c3 := flat_cells (F := ptF) h hx (j := 3) (v := .int .i64 x.v.r) rfl
 have c4 := flat_cells (F := ptF) h hx (j := 4) (v := .int .i64 x.v.c) rfl
 have c5 := flat_cells (F := ptF) h hx (j := 5) (v := .int .i64 x.v.h) rfl
 have c6 := flat_cells (F := ptF) h hx (j := 6) (v := .int .i64 x.v.b) rfl
 have c7 := flat_cells (F := ptF) h hx (j := 7) (v := .int .i64 x.v.p) rfl
 exact ⟨⟨c0.1, c1.1, c2.1, c3.1, c4.1, c5.1, c6.1, c7.1⟩, c0.2, c1.2, c2.2, c3.2, c4.2, c5.2, c6.2, c7.2⟩

set_option maxRecDepth 100000 in
set_option maxHeartbeats 4000000 in
theorem toPts_made (ao : Option Addr) (n c : Nat) (l : List PT) (w : World) (hl : GRow ptF w ao n c l) (hs : n ≤ 1048576) :
  Calls Try.prog 58 #[.slice ao n c] w fun r w' => ∃ ao' cap, r = .returned (.slice ao' n cap) ∧ w'.ownsRow w.heap.size 95 8 (.slice ao' n cap) n (ptF.all l) ∧ GRow ptF w' ao' n cap l ∧ Below w.heap.size w w' := by
 obtain ⟨i0, hi, hz0, hz1, hz2⟩ := finfo_parts ptInfoH
 have s1 := hl.size
 go_enter Try.func58, Try.ntmps58
 go_wp2_with (at_make; refine wpList_make_full _ rfl _ _ 56 rfl w.heap.size 95 i0 (.agg #[.bool false, .int .i64 0, .bool false, .int .i64 0, .int .i64 0, .int .i64 0, .int .i64 0, .int .i64 0]) 8 Try.underlying56 hi hz0 hz1 .i64 .i64 _ _ n rfl rfl rfl rfl ?c1 ?c2 ?c3 ?_)
 case c1 => rw [hz2]; omega
 case c2 => unfold maxLen; omega
 case c3 => exact Nat.le_refl _
 intro w1 hown hgrow
 have hb1 : Below w.heap.size w w1 := (Below.refl _ _).grown hgrow (Nat.le_refl _) (by intro k hk; cases hk)
 have hown1 : w1.ownsRow w.heap.size 95 8 (.slice (some ⟨w.heap.size, 0, none⟩) n n) n (ptF.all (l.take 0 ++ List.replicate (n - 0) PT.zero)) := by
  rw [List.take_zero, List.nil_append, Nat.sub_zero, ← flat_made]; exact hown
 clear hown hgrow hi hz0 hz1 hz2
 go_wp2
 go_loopw [4] (fun i wr => ∃ k : Nat, k ≤ n ∧ i = .int .i64 k ∧ wr.ownsRow w.heap.size 95 8 (.slice (some ⟨w.heap.size, 0, none⟩) n n) n (ptF.all (l.take k ++ List.replicate (n - k) PT.zero)) ∧ Below w.heap.size w wr) (fun i _ => n - (intOf i).toNat)
 case atStart => exact ⟨0, Nat.zero_le _, rfl, hown1, hb1⟩
 case round =>
  obtain ⟨k, hk, rfl, ho, hb⟩ := hrel
  clear hown1 hb1
  by_cases hlt : k < n
  ·obtain ⟨x, b, off, hx, rfl, a0, a1, a2, a3, a4, a5, a6, a7⟩ := pt_at (hl.below hb) k hlt
   have hrep : List.replicate (n - k) PT.zero = PT.zero :: List.replicate (n - (k + 1)) PT.zero := by rw [← List.replicate_succ]; congr 1; omega
   have hlk : (l.take k).length = k := by rw [List.length_take]; omega
   rw [hrep] at ho
   have htk : l.take (k + 1) = l.take k ++ [x] := by rw [List.take_add_one, hx]; rfl
   have HTK := hide htk
   have HB := hide hb
   have HO := hide ho
   have HX := hide hx
   clear hb ho htk hx
   go_wp2_with fail
   refine (toPt_made x _).mono ?_
   rintro r w2 ⟨rfl, hb2⟩
   have ho2 := gown_below HO.out hb2
   have hz : (l.take k ++ PT.zero :: List.replicate (n - (k + 1)) PT.zero)[k]? = some PT.zero := by rw [List.getElem?_append_right (by omega), hlk, Nat.sub_self]; rfl
   obtain ⟨⟨t0, t1, t2, t3, t4, t5, t6, t7⟩, f0, f1, f2, f3, f4, f5, f6, f7⟩ := pt_cells ho2 hz
   have o3 := pt_put (y := x) ho2
   rw [hlk] at o3
   have HO3 := hide o3
   have hb3 := gr_trans HB.out hb2
   have HB3 := hide (hb3.grown (grown_set8 (w := w2) (g := w.heap.size) (k * 8) (k * 8 + 1) (k * 8 + 2) (k * 8 + 3) (k * 8 + 4) (k * 8 + 5) (k * 8 + 6) (k * 8 + 7) (.bool x.up) (.int .i64 x.k) (.bool x.has) (.int .i64 x.v.r) (.int .i64 x.v.c) (.int .i64 x.v.h) (.int .i64 x.v.b) (.int .i64 x.v.p)) hb3.size (by intro j e; cases e; exact Nat.le_refl _))
   clear ho2 hb2 hb3 o3 hz a0 a1 a2 a3 a4 a5 a6 a7
   go_wp2
   go_roundw
   case rel => exact ⟨k + 1, by omega, by go_num, by rw [HTK.out, List.append_assoc]; exact HO3.out, HB3.out⟩
   case measure => simp [intOf]; omega
  ·have hkn : k = n := by omega
   subst hkn
   rw [Nat.sub_self, List.take_of_length_le (by omega), List.replicate_zero, List.append_nil] at ho
   have HO := hide ho
   have HR := hide (grow_own ho)
   have HB := hide hb
   clear ho hb
   go_wp2
   go_ret
   exact ⟨_, _, rfl, HO.out, HR.out, HB.out⟩

set_option maxRecDepth 100000 in
set_option maxHeartbeats 2000000 in
theorem eqPt_same (x : PT) (w : World) :
  Calls Try.prog 80 #[.agg #[.bool x.up, .int .i64 x.k, .bool x.has, .int .i64 x.v.r, .int .i64 x.v.c, .int .i64 x.v.h, .int .i64 x.v.b, .int .i64 x.v.p], .agg #[.bool x.up, .int .i64 x.k, .bool x.has, .int .i64 x.v.r, .int .i64 x.v.c, .int .i64 x.v.h, .int .i64 x.v.b, .int .i64 x.v.p]] w fun r w' => r = .returned (.bool true) ∧ Below w.heap.size w w' := by
 go_enter Try.func80, Try.ntmps80
 go_wp2_with fail
 refine (eqVec_same x.v.r x.v.c x.v.h x.v.b x.v.p _).mono ?_
 rintro e w2 ⟨rfl, hb2⟩
 have HB := hide (gr_trans (below_two _ _ _) hb2)
 clear hb2
 go_wp2
 go_ret
 exact ⟨rfl, HB.out⟩

set_option maxRecDepth 100000 in
set_option maxHeartbeats 400000 in
theorem szPts_any (ao : Option Addr) (n c : Nat) (left : Int) (w : World) (hl : n ≤ maxLen) (h0 : 0 ≤ left) (h1 : left ≤ 1048576) :
  Calls Try.prog 55 #[.slice ao n c, .int .i64 left] w fun r w' => r = .returned (.int .i64 (if (n : Int) ≤ left then left - n else -1)) ∧ w' = w := by
 unfold maxLen at hl
 go_enter Try.func55, Try.ntmps55
 go_wp2
 all_goals go_ret
 all_goals exact ⟨rfl, rfl⟩

set_option maxRecDepth 100000 in
set_option maxHeartbeats 4000000 in
theorem eqPts_same (ao : Option Addr) (n c : Nat) (ao' : Option Addr) (n' c' : Nat) (l : List PT) (w : World) (hl : GRow ptF w ao n c l) (hl' : GRow ptF w ao' n' c' l) :
  Calls Try.prog 63 #[.slice ao n c, .slice ao' n' c'] w fun r w' => r = .returned (.bool true) ∧ Below w.heap.size w w' := by
 have hs := hl.size
 have hs' := hl'.size
 have htop := Nat.le_trans hl.le hl.top
 unfold maxLen at htop
 have hnn : n' = n := by omega
 subst hnn
 go_enter Try.func63, Try.ntmps63
 go_wp2
 go_loopw [5] (fun i wr => ∃ k : Nat, k ≤ n' ∧ i = .int .i64 k ∧ Below w.heap.size w wr) (fun i _ => n' - (intOf i).toNat)
 case atStart => exact ⟨0, Nat.zero_le _, rfl, Below.refl _ _⟩
 case round =>
  obtain ⟨k, hk, rfl, hb⟩ := hrel
  by_cases hlt : k < n'
  ·obtain ⟨x, b, off, hx, rfl, a0, a1, a2, a3, a4, a5, a6, a7⟩ := pt_at (hl.below hb) k hlt
   obtain ⟨y, b', off', hy, rfl, e0, e1, e2, e3, e4, e5, e6, e7⟩ := pt_at (hl'.below hb) k hlt
   rw [hx] at hy
   cases hy
   have CX : Hid (∀ W, Below wr.heap.size wr W → _ ∧ _) := fun W h => ⟨at8h (hl.below hb) h hx, at8h (hl'.below hb) h hx⟩
   have HB := hide hb
   clear hb
   go_wp2_with fail
   go_region_held3 (fun W => (W.cell? ⟨b, off + k * 8, none⟩ = some (.bool x.up) ∧ W.cell? ⟨b, off + k * 8 + 1, none⟩ = some (.int .i64 x.k) ∧ W.cell? ⟨b, off + k * 8 + 2, none⟩ = some (.bool x.has) ∧ W.cell? ⟨b, off + k * 8 + 3, none⟩ = some (.int .i64 x.v.r) ∧ W.cell? ⟨b, off + k * 8 + 4, none⟩ = some (.int .i64 x.v.c) ∧ W.cell? ⟨b, off + k * 8 + 5, none⟩ = some (.int .i64 x.v.h) ∧ W.cell? ⟨b, off + k * 8 + 6, none⟩ = some (.int .i64 x.v.b) ∧ W.cell? ⟨b, off + k * 8 + 7, none⟩ = some (.int .i64 x.v.p)) ∧ (W.cell? ⟨b', off' + k * 8, none⟩ = some (.bool x.up) ∧ W.cell? ⟨b', off' + k * 8 + 1, none⟩ = some (.int .i64 x.k) ∧ W.cell? ⟨b', off' + k * 8 + 2, none⟩ = some (.bool x.has) ∧ W.cell? ⟨b', off' + k * 8 + 3, none⟩ = some (.int .i64 x.v.r) ∧ W.cell? ⟨b', off' + k * 8 + 4, none⟩ = some (.int .i64 x.v.c) ∧ W.cell? ⟨b', off' + k * 8 + 5, none⟩ = some (.int .i64 x.v.h) ∧ W.cell? ⟨b', off' + k * 8 + 6, none⟩ = some (.int .i64 x.v.b) ∧ W.cell? ⟨b', off' + k * 8 + 7, none⟩ = some (.int .i64 x.v.p))) (first | exact CX.out _ u1 | go_keep) (first
    | (go_at_call 80; refine (eqPt_same x _).mono ?_; rintro r w1 ⟨rfl, hb1⟩; have u1 : Below wr.heap.size wr w1 := undrew hb1))
   have b1 := gr_trans HB.out u1
   clear u1 hb1 a0 a1 a2 a3 a4 a5 a6 a7 e0 e1 e2 e3 e4 e5 e6 e7
   go_wp2
   go_roundw
   case rel => exact ⟨k + 1, by omega, by go_num, b1⟩
   case measure => simp [intOf]; omega
  ·have hk' : k = n' := by omega
   subst hk'
   go_wp2
   go_ret
   exact ⟨rfl, hb⟩

def markP (k : Int) : PT := ⟨(k) % 3 == 0, k + 1, (k + 1 + 1) % 3 == 0, ⟨k + 1 + 1 + 1, k + 1 + 1 + 1 + 1, k + 1 + 1 + 1 + 1 + 1, k + 1 + 1 + 1 + 1 + 1 + 1, k + 1 + 1 + 1 + 1 + 1 + 1 + 1⟩⟩
def markPs (k : Int) (n : Nat) : List PT := (List.range n).map fun (i : Nat) => markP (k + 8 * i)

theorem markPs_length (k : Int) (n : Nat) : (markPs k n).length = n := by simp [markPs]
theorem markPs_succ (k : Int) (j : Nat) : markPs k (j + 1) = markPs k j ++ [markP (k + 8 * j)] := by simp [markPs, List.range_succ]
theorem markPs_at (k : Int) (n j : Nat) (h : j < n) : (markPs k n)[j]? = some (markP (k + 8 * j)) := by simp [markPs, List.getElem?_map, List.getElem?_range h]

set_option maxRecDepth 100000 in
set_option maxHeartbeats 4000000 in
theorem markPts_at (base g n cap : Nat) (l : List PT) (k : Int) (w : World) (hown : w.ownsRow base 95 8 (.slice (some ⟨g, 0, none⟩) n cap) n (ptF.all l)) (hn : n ≤ 16777216) (hk0 : 0 ≤ k) (hk1 : k ≤ 1099511627776) :
  Calls Try.prog 46 #[.slice (some ⟨g, 0, none⟩) n cap, .int .i64 k] w fun r w' => r = .returned (.int .i64 (k + 8 * n)) ∧ w'.ownsRow base 95 8 (.slice (some ⟨g, 0, none⟩) n cap) n (ptF.all (markPs k n)) ∧ w.grownBy w' (some g) := by
 have hl : l.length = n := (grow_own (F := ptF) hown).size
 go_enter Try.func46, Try.ntmps46
 go_wp2
 go_loopw [1, 5] (fun m i wr => ∃ j : Nat, j ≤ n ∧ i = .int .i64 j ∧ m = .int .i64 (k + 8 * j) ∧ wr.ownsRow base 95 8 (.slice (some ⟨g, 0, none⟩) n cap) n (ptF.all (markPs k j ++ l.drop j)) ∧ w.grownBy wr (some g)) (fun _ i _ => n - (intOf i).toNat)
 case atStart => exact ⟨0, Nat.zero_le _, rfl, by simp, by simpa [markPs] using hown, World.grownBy.refl _ _⟩
 case round =>
  obtain ⟨j, hj, rfl, rfl, how, hg⟩ := hrel
  by_cases hlt : j < n
  ·obtain ⟨x, hx⟩ : ∃ x, l[j]? = some x := ⟨l[j]'(by omega), List.getElem?_eq_getElem (by omega)⟩
   have hdr : l.drop j = x :: l.drop (j + 1) := by
    obtain ⟨h, rfl⟩ := List.getElem?_eq_some_iff.1 hx
    exact List.drop_eq_getElem_cons h
   rw [hdr] at how
   have hlj := markPs_length k j
   have hz : (markPs k j ++ x :: l.drop (j + 1))[j]? = some x := by rw [List.getElem?_append_right (by omega), hlj, Nat.sub_self]; rfl
   obtain ⟨⟨t0, t1, t2, t3, t4, t5, t6, t7⟩, f0, f1, f2, f3, f4, f5, f6, f7⟩ := pt_cells how hz
   have o3 := pt_put (y := markP (k + 8 * j)) how
   rw [hlj] at o3
   have HO3 := hide o3
   have HG := hide (grownTr hg (grown_set8 (w := wr) (g := g) (j * 8) (j * 8 + 1) (j * 8 + 2) (j * 8 + 3) (j * 8 + 4) (j * 8 + 5) (j * 8 + 6) (j * 8 + 7) (.bool (markP (k + 8 * j)).up) (.int .i64 (markP (k + 8 * j)).k) (.bool (markP (k + 8 * j)).has) (.int .i64 (markP (k + 8 * j)).v.r) (.int .i64 (markP (k + 8 * j)).v.c) (.int .i64 (markP (k + 8 * j)).v.h) (.int .i64 (markP (k + 8 * j)).v.b) (.int .i64 (markP (k + 8 * j)).v.p)))
   have HM := hide (markPs_succ k j)
   have hm : 0 ≤ k + 8 * (j : Int) ∧ k + 8 * (j : Int) ≤ 2199023255552 := by omega
   clear how hg hown o3 hz hdr
   generalize hK : k + 8 * (j : Int) = K at *
   go_wp2
   go_roundw
   case rel => exact ⟨j + 1, by omega, by go_num, by simp; omega, by rw [HM.out, List.append_assoc]; exact HO3.out, HG.out⟩
   case measure => simp [intOf]; omega
  ·have hj' : j = n := by omega
   subst hj'
   rw [List.drop_eq_nil_of_le (by omega), List.append_nil] at how
   have HO := hide how
   clear how hown
   go_wp2
   go_ret
   exact ⟨rfl, HO.out, hg⟩

set_option maxRecDepth 100000 in
set_option maxHeartbeats 400000 in
theorem markPts_nil (k : Int) (c : Nat) (w : World) :
  Calls Try.prog 46 #[.slice none 0 c, .int .i64 k] w fun r w' => r = .returned (.int .i64 k) ∧ w' = w := by
 go_enter Try.func46, Try.ntmps46
 go_wp2
 go_loop [1, 5] (fun m i => m = .int .i64 k ∧ i = .int .i64 0) (fun _ _ => 0)
 case atStart => exact ⟨rfl, rfl⟩
 case round =>
  obtain ⟨rfl, rfl⟩ := hrel
  go_wp2
  go_ret
  exact ⟨rfl, rfl⟩

theorem markPts_grown (base : Nat) (ao : Option Addr) (n cap : Nat) (l : List PT) (k : Int) (w : World) (hown : w.ownsRow base 95 8 (.slice ao n cap) n (ptF.all l)) (hn : n ≤ 16777216) (hk0 : 0 ≤ k) (hk1 : k ≤ 1099511627776) :
  Calls Try.prog 46 #[.slice ao n cap, .int .i64 k] w fun r w' => r = .returned (.int .i64 (k + 8 * n)) ∧ w'.ownsRow base 95 8 (.slice ao n cap) n (ptF.all (markPs k n)) ∧ w.grownBy w' (Value.slice ao n cap).ownBlock := by
 rcases hown.2 with ⟨e, h0⟩ | ⟨g, cap', cur, e, -⟩
 ·cases e
  refine (markPts_nil k 0 w).mono ?_
  rintro r w' ⟨rfl, rfl⟩
  exact ⟨by simp, by simpa [markPs, Flat.all] using World.ownsRow_nil w' base 95 8, World.grownBy.refl _ _⟩
 ·cases e
  exact markPts_at base g n cap l k w hown hn hk0 hk1

set_option maxRecDepth 100000 in
set_option maxHeartbeats 400000 in
theorem toVrow_made (e : VR) (w : World) :
  Calls Try.prog 87 #[.agg #[.int .i64 e.i, .int .i64 e.m, .int .i64 e.b]] w fun r w' => r = .returned (.agg #[.int .i64 e.i, .int .i64 e.m, .int .i64 e.b]) ∧ Below w.heap.size w w' := by
 go_enter Try.func87, Try.ntmps87
 go_wp2
 exact bodyPost_ret (v := .agg #[.int .i64 e.i, .int .i64 e.m, .int .i64 e.b]) (by simp [results, Try.results87, go_sem, *]) rfl ⟨rfl, below_three _ _ _ _⟩

theorem vrowInfoH : (Try.prog.info? 130).map (fun i => (i.zero, i.size, i.bytes)) = some (some (.agg #[.int .i64 0, .int .i64 0, .int .i64 0]), 3, 24) := by kernel_rfl

def VR.zero : VR := ⟨0, 0, 0⟩

theorem at3h {w w' : World} {b off n cap : Nat} {l : List VR} (h : GRow vrowF w (some ⟨b, off, none⟩) n cap l) (hb : Below w.heap.size w w') {i : Nat} {x : VR} (hx : l[i]? = some x) :
  w'.cell? ⟨b, off + i * 3, none⟩ = some (.int .i64 x.i) ∧ w'.cell? ⟨b, off + i * 3 + 1, none⟩ = some (.int .i64 x.m) ∧ w'.cell? ⟨b, off + i * 3 + 2, none⟩ = some (.int .i64 x.b) := by
 have hi : i < n := by
  have := (List.getElem?_eq_some_iff.1 hx).1
  have := h.size
  omega
 obtain ⟨y, b', off', hy, e, c⟩ := vrow_at (h.below hb) i hi
 cases e
 rw [hx] at hy
 cases hy
 exact c

theorem vrow_put {w : World} {base g n cap : Nat} {pre post : List VR} {x y : VR} (h : w.ownsRow base 130 3 (.slice (some ⟨g, 0, none⟩) n cap) n (vrowF.all (pre ++ x :: post))) :
  (((w.setCell ⟨g, pre.length * 3, none⟩ (.int .i64 y.i)).setCell ⟨g, pre.length * 3 + 1, none⟩ (.int .i64 y.m)).setCell ⟨g, pre.length * 3 + 2, none⟩ (.int .i64 y.b)).ownsRow base 130 3 (.slice (some ⟨g, 0, none⟩) n cap) n (vrowF.all (pre ++ y :: post)) := by
 have R0 := flat_stored (F := vrowF) (x' := ⟨y.i, x.m, x.b⟩) h 0 (.int .i64 y.i) (by decide) rfl
 have R1 := flat_stored (F := vrowF) (x' := ⟨y.i, y.m, x.b⟩) R0 1 (.int .i64 y.m) (by decide) rfl
 exact flat_stored (F := vrowF) (x' := y) R1 2 (.int .i64 y.b) (by decide) rfl

theorem grown_set3 {w : World} {g : Nat} (j0 j1 j2 : Nat) (u0 u1 u2 : Value) : w.grownBy (((w.setCell ⟨g, j0, none⟩ u0).setCell ⟨g, j1, none⟩ u1).setCell ⟨g, j2, none⟩ u2) (some g) :=
 grownTr (grownTr (grown_set _ _) (grown_set _ _)) (grown_set _ _)

theorem vrow_cells {w : World} {base g n cap : Nat} {T : TypeId} {l : List VR} (h : w.ownsRow base T 3 (.slice (some ⟨g, 0, none⟩) n cap) n (vrowF.all l)) {i : Nat} {x : VR} (hx : l[i]? = some x) :
  (w.cell? ⟨g, i * 3, none⟩ = some (.int .i64 x.i) ∧ w.cell? ⟨g, i * 3 + 1, none⟩ = some (.int .i64 x.m) ∧ w.cell? ⟨g, i * 3 + 2, none⟩ = some (.int .i64 x.b)) ∧
  (w.frozen? ⟨g, i * 3, none⟩ = false ∧ w.frozen? ⟨g, i * 3 + 1, none⟩ = false ∧ w.frozen? ⟨g, i * 3 + 2, none⟩ = false) := by
 have c0 := flat_cells (F := vrowF) h hx (j := 0) (v := .int .i64 x.i) rfl
 have c1 := flat_cells (F := vrowF) h hx (j := 1) (v := .int .i64 x.m) rfl
 have c2 := flat_cells (F := vrowF) h hx (j := 2) (v := .int .i64 x.b) rfl
 exact ⟨⟨c0.1, c1.1, c2.1⟩, c0.2, c1.2, c2.2⟩

set_option maxRecDepth 100000 in
set_option maxHeartbeats 2000000 in
theorem toVrows_made (ao : Option Addr) (n c : Nat) (l : List VR) (w : World) (hl : GRow vrowF w ao n c l) (hs : n ≤ 1048576) :
  Calls Try.prog 78 #[.slice ao n c] w fun r w' => ∃ ao' cap, r = .returned (.slice ao' n cap) ∧ w'.ownsRow w.heap.size 130 3 (.slice ao' n cap) n (vrowF.all l) ∧ GRow vrowF w' ao' n cap l ∧ Below w.heap.size w w' := by
 obtain ⟨i0, hi, hz0, hz1, hz2⟩ := finfo_parts vrowInfoH
 have s1 := hl.size
 go_enter Try.func78, Try.ntmps78
 go_wp2_with (at_make; refine wpList_make_full _ rfl _ _ 58 rfl w.heap.size 130 i0 (.agg #[.int .i64 0, .int .i64 0, .int .i64 0]) 3 Try.underlying58 hi hz0 hz1 .i64 .i64 _ _ n rfl rfl rfl rfl ?c1 ?c2 ?c3 ?_)
 case c1 => rw [hz2]; omega
 case c2 => unfold maxLen; omega
 case c3 => exact Nat.le_refl _
 intro w1 hown hgrow
 have hb1 : Below w.heap.size w w1 := (Below.refl _ _).grown hgrow (Nat.le_refl _) (by intro k hk; cases hk)
 have hown1 : w1.ownsRow w.heap.size 130 3 (.slice (some ⟨w.heap.size, 0, none⟩) n n) n (vrowF.all (l.take 0 ++ List.replicate (n - 0) VR.zero)) := by
  rw [List.take_zero, List.nil_append, Nat.sub_zero, ← flat_made]; exact hown
 clear hown hgrow hi hz0 hz1 hz2
 go_wp2
 go_loopw [4] (fun i wr => ∃ k : Nat, k ≤ n ∧ i = .int .i64 k ∧ wr.ownsRow w.heap.size 130 3 (.slice (some ⟨w.heap.size, 0, none⟩) n n) n (vrowF.all (l.take k ++ List.replicate (n - k) VR.zero)) ∧ Below w.heap.size w wr) (fun i _ => n - (intOf i).toNat)
 case atStart => exact ⟨0, Nat.zero_le _, rfl, hown1, hb1⟩
 case round =>
  obtain ⟨k, hk, rfl, ho, hb⟩ := hrel
  clear hown1 hb1
  by_cases hlt : k < n
  ·obtain ⟨x, b, off, hx, rfl, a0, a1, a2⟩ := vrow_at (hl.below hb) k hlt
   have hrep : List.replicate (n - k) VR.zero = VR.zero :: List.replicate (n - (k + 1)) VR.zero := by rw [← List.replicate_succ]; congr 1; omega
   have hlk : (l.take k).length = k := by rw [List.length_take]; omega
   rw [hrep] at ho
   have htk : l.take (k + 1) = l.take k ++ [x] := by rw [List.take_add_one, hx]; rfl
   have HTK := hide htk
   have HB := hide hb
   have HO := hide ho
   have HX := hide hx
   clear hb ho htk hx
   go_wp2_with fail
   refine (toVrow_made x _).mono ?_
   rintro r w2 ⟨rfl, hb2⟩
   have ho2 := gown_below HO.out hb2
   have hz : (l.take k ++ VR.zero :: List.replicate (n - (k + 1)) VR.zero)[k]? = some VR.zero := by rw [List.getElem?_append_right (by omega), hlk, Nat.sub_self]; rfl
   obtain ⟨⟨t0, t1, t2⟩, f0, f1, f2⟩ := vrow_cells ho2 hz
   have o3 := vrow_put (y := x) ho2
   rw [hlk] at o3
   have HO3 := hide o3
   have hb3 := gr_trans HB.out hb2
   have HB3 := hide (hb3.grown (grown_set3 (w := w2) (g := w.heap.size) (k * 3) (k * 3 + 1) (k * 3 + 2) (.int .i64 x.i) (.int .i64 x.m) (.int .i64 x.b)) hb3.size (by intro j e; cases e; exact Nat.le_refl _))
   clear ho2 hb2 hb3 o3 hz a0 a1 a2
   go_wp2
   go_roundw
   case rel => exact ⟨k + 1, by omega, by go_num, by rw [HTK.out, List.append_assoc]; exact HO3.out, HB3.out⟩
   case measure => simp [intOf]; omega
  ·have hkn : k = n := by omega
   subst hkn
   rw [Nat.sub_self, List.take_of_length_le (by omega), List.replicate_zero, List.append_nil] at ho
   have HO := hide ho
   have HR := hide (grow_own ho)
   have HB := hide hb
   clear ho hb
   go_wp2
   go_ret
   exact ⟨_, _, rfl, HO.out, HR.out, HB.out⟩

set_option maxRecDepth 100000 in
set_option maxHeartbeats 400000 in
theorem eqVrow_same (e : VR) (w : World) :
  Calls Try.prog 88 #[.agg #[.int .i64 e.i, .int .i64 e.m, .int .i64 e.b], .agg #[.int .i64 e.i, .int .i64 e.m, .int .i64 e.b]] w fun r w' => r = .returned (.bool true) ∧ Below w.heap.size w w' := by
 go_enter Try.func88, Try.ntmps88
 go_wp2
 go_ret
 exact ⟨rfl, below_two _ _ _⟩

set_option maxRecDepth 100000 in
set_option maxHeartbeats 400000 in
theorem szVrows_any (ao : Option Addr) (n c : Nat) (left : Int) (w : World) (hl : n ≤ maxLen) (h0 : 0 ≤ left) (h1 : left ≤ 1048576) :
  Calls Try.prog 74 #[.slice ao n c, .int .i64 left] w fun r w' => r = .returned (.int .i64 (if (n : Int) ≤ left then left - n else -1)) ∧ w' = w := by
 unfold maxLen at hl
 go_enter Try.func74, Try.ntmps74
 go_wp2
 all_goals go_ret
 all_goals exact ⟨rfl, rfl⟩

set_option maxRecDepth 100000 in
set_option maxHeartbeats 400000 in
theorem szInts9_any (ao : Option Addr) (n c : Nat) (left : Int) (w : World) (hl : n ≤ maxLen) (h0 : 0 ≤ left) (h1 : left ≤ 1048576) :
  Calls Try.prog 75 #[.slice ao n c, .int .i64 left] w fun r w' => r = .returned (.int .i64 (if (n : Int) ≤ left then left - n else -1)) ∧ w' = w := by
 unfold maxLen at hl
 go_enter Try.func75, Try.ntmps75
 go_wp2
 all_goals go_ret
 all_goals exact ⟨rfl, rfl⟩

def markR (k : Int) : VR := ⟨k, k + 1, k + 1 + 1⟩
def markRs (k : Int) (n : Nat) : List VR := (List.range n).map fun (i : Nat) => markR (k + 3 * i)

theorem markRs_length (k : Int) (n : Nat) : (markRs k n).length = n := by simp [markRs]
theorem markRs_succ (k : Int) (j : Nat) : markRs k (j + 1) = markRs k j ++ [markR (k + 3 * j)] := by simp [markRs, List.range_succ]
theorem markRs_at (k : Int) (n j : Nat) (h : j < n) : (markRs k n)[j]? = some (markR (k + 3 * j)) := by simp [markRs, List.getElem?_map, List.getElem?_range h]

set_option maxRecDepth 100000 in
set_option maxHeartbeats 2000000 in
theorem markVrows_at (base g n cap : Nat) (l : List VR) (k : Int) (w : World) (hown : w.ownsRow base 130 3 (.slice (some ⟨g, 0, none⟩) n cap) n (vrowF.all l)) (hn : n ≤ 16777216) (hk0 : 0 ≤ k) (hk1 : k ≤ 1099511627776) :
  Calls Try.prog 48 #[.slice (some ⟨g, 0, none⟩) n cap, .int .i64 k] w fun r w' => r = .returned (.int .i64 (k + 3 * n)) ∧ w'.ownsRow base 130 3 (.slice (some ⟨g, 0, none⟩) n cap) n (vrowF.all (markRs k n)) ∧ w.grownBy w' (some g) := by
 have hl : l.length = n := (grow_own (F := vrowF) hown).size
 go_enter Try.func48, Try.ntmps48
 go_wp2
 go_loopw [1, 5] (fun m i wr => ∃ j : Nat, j ≤ n ∧ i = .int .i64 j ∧ m = .int .i64 (k + 3 * j) ∧ wr.ownsRow base 130 3 (.slice (some ⟨g, 0, none⟩) n cap) n (vrowF.all (markRs k j ++ l.drop j)) ∧ w.grownBy wr (some g)) (fun _ i _ => n - (intOf i).toNat)
 case atStart => exact ⟨0, Nat.zero_le _, rfl, by simp, by simpa [markRs] using hown, World.grownBy.refl _ _⟩
 case round =>
  obtain ⟨j, hj, rfl, rfl, how, hg⟩ := hrel
  by_cases hlt : j < n
  ·obtain ⟨x, hx⟩ : ∃ x, l[j]? = some x := ⟨l[j]'(by omega), List.getElem?_eq_getElem (by omega)⟩
   have hdr : l.drop j = x :: l.drop (j + 1) := by
    obtain ⟨h, rfl⟩ := List.getElem?_eq_some_iff.1 hx
    exact List.drop_eq_getElem_cons h
   rw [hdr] at how
   have hlj := markRs_length k j
   have hz : (markRs k j ++ x :: l.drop (j + 1))[j]? = some x := by rw [List.getElem?_append_right (by omega), hlj, Nat.sub_self]; rfl
   obtain ⟨⟨t0, t1, t2⟩, f0, f1, f2⟩ := vrow_cells how hz
   have o3 := vrow_put (y := markR (k + 3 * j)) how
   rw [hlj] at o3
   have HO3 := hide o3
   have HG := hide (grownTr hg (grown_set3 (w := wr) (g := g) (j * 3) (j * 3 + 1) (j * 3 + 2) (.int .i64 (markR (k + 3 * j)).i) (.int .i64 (markR (k + 3 * j)).m) (.int .i64 (markR (k + 3 * j)).b)))
   have HM := hide (markRs_succ k j)
   have hm : 0 ≤ k + 3 * (j : Int) ∧ k + 3 * (j : Int) ≤ 2199023255552 := by omega
   clear how hg hown o3 hz hdr
   generalize hK : k + 3 * (j : Int) = K at *
   go_wp2
   go_roundw
   case rel => exact ⟨j + 1, by omega, by go_num, by simp; omega, by rw [HM.out, List.append_assoc]; exact HO3.out, HG.out⟩
   case measure => simp [intOf]; omega
  ·have hj' : j = n := by omega
   subst hj'
   rw [List.drop_eq_nil_of_le (by omega), List.append_nil] at how
   have HO := hide how
   clear how hown
   go_wp2
   go_ret
   exact ⟨rfl, HO.out, hg⟩

set_option maxRecDepth 100000 in
set_option maxHeartbeats 400000 in
theorem markVrows_nil (k : Int) (c : Nat) (w : World) :
  Calls Try.prog 48 #[.slice none 0 c, .int .i64 k] w fun r w' => r = .returned (.int .i64 k) ∧ w' = w := by
 go_enter Try.func48, Try.ntmps48
 go_wp2
 go_loop [1, 5] (fun m i => m = .int .i64 k ∧ i = .int .i64 0) (fun _ _ => 0)
 case atStart => exact ⟨rfl, rfl⟩
 case round =>
  obtain ⟨rfl, rfl⟩ := hrel
  go_wp2
  go_ret
  exact ⟨rfl, rfl⟩

theorem markVrows_grown (base : Nat) (ao : Option Addr) (n cap : Nat) (l : List VR) (k : Int) (w : World) (hown : w.ownsRow base 130 3 (.slice ao n cap) n (vrowF.all l)) (hn : n ≤ 16777216) (hk0 : 0 ≤ k) (hk1 : k ≤ 1099511627776) :
  Calls Try.prog 48 #[.slice ao n cap, .int .i64 k] w fun r w' => r = .returned (.int .i64 (k + 3 * n)) ∧ w'.ownsRow base 130 3 (.slice ao n cap) n (vrowF.all (markRs k n)) ∧ w.grownBy w' (Value.slice ao n cap).ownBlock := by
 rcases hown.2 with ⟨e, h0⟩ | ⟨g, cap', cur, e, -⟩
 ·cases e
  refine (markVrows_nil k 0 w).mono ?_
  rintro r w' ⟨rfl, rfl⟩
  exact ⟨by simp, by simpa [markRs, Flat.all] using World.ownsRow_nil w' base 130 3, World.grownBy.refl _ _⟩
 ·cases e
  exact markVrows_at base g n cap l k w hown hn hk0 hk1

set_option maxRecDepth 100000 in
set_option maxHeartbeats 2000000 in
theorem eqVrows_same (ao : Option Addr) (n c : Nat) (ao' : Option Addr) (n' c' : Nat) (l : List VR) (w : World) (hl : GRow vrowF w ao n c l) (hl' : GRow vrowF w ao' n' c' l) :
  Calls Try.prog 82 #[.slice ao n c, .slice ao' n' c'] w fun r w' => r = .returned (.bool true) ∧ Below w.heap.size w w' := by
 have hs := hl.size
 have hs' := hl'.size
 have htop := Nat.le_trans hl.le hl.top
 unfold maxLen at htop
 have hnn : n' = n := by omega
 subst hnn
 go_enter Try.func82, Try.ntmps82
 go_wp2
 go_loopw [5] (fun i wr => ∃ k : Nat, k ≤ n' ∧ i = .int .i64 k ∧ Below w.heap.size w wr) (fun i _ => n' - (intOf i).toNat)
 case atStart => exact ⟨0, Nat.zero_le _, rfl, Below.refl _ _⟩
 case round =>
  obtain ⟨k, hk, rfl, hb⟩ := hrel
  by_cases hlt : k < n'
  ·obtain ⟨x, b, off, hx, rfl, a0, a1, a2⟩ := vrow_at (hl.below hb) k hlt
   obtain ⟨y, b', off', hy, rfl, e0, e1, e2⟩ := vrow_at (hl'.below hb) k hlt
   rw [hx] at hy
   cases hy
   have HS : Hid (∀ W, Below wr.heap.size wr W → (W.cell? ⟨b, off + k * 3, none⟩ = some (.int .i64 x.i) ∧ W.cell? ⟨b, off + k * 3 + 1, none⟩ = some (.int .i64 x.m) ∧ W.cell? ⟨b, off + k * 3 + 2, none⟩ = some (.int .i64 x.b)) ∧ (W.cell? ⟨b', off' + k * 3, none⟩ = some (.int .i64 x.i) ∧ W.cell? ⟨b', off' + k * 3 + 1, none⟩ = some (.int .i64 x.m) ∧ W.cell? ⟨b', off' + k * 3 + 2, none⟩ = some (.int .i64 x.b))) := hide (fun W h => ⟨at3h (hl.below hb) h hx, at3h (hl'.below hb) h hx⟩)
   have vv : Below wr.heap.size wr wr.drew := gr_drew (Below.refl _ _)
   have i1 : (0 : Int) ≤ (k : Int) := by omega
   have i2 : (k : Int) < (n' : Int) := by omega
   have HB := hide hb
   clear hb a0 a1 a2 e0 e1 e2 hx
   go_wp2_with fail
   refine wp_region_held_drew (S := (fun W => (W.cell? ⟨b, off + k * 3, none⟩ = some (.int .i64 x.i) ∧ W.cell? ⟨b, off + k * 3 + 1, none⟩ = some (.int .i64 x.m) ∧ W.cell? ⟨b, off + k * 3 + 2, none⟩ = some (.int .i64 x.b)) ∧ (W.cell? ⟨b', off' + k * 3, none⟩ = some (.int .i64 x.i) ∧ W.cell? ⟨b', off' + k * 3 + 1, none⟩ = some (.int .i64 x.m) ∧ W.cell? ⟨b', off' + k * 3 + 2, none⟩ = some (.int .i64 x.b)))) (by kernel_rfl) (HS.out _ vv) (fun hHeld => ?_)
   refine kK 0 ⟨some 17, .move (.tmp 0), 58, "exact.go:657", #[], none⟩ ?_
   refine kK 1 ⟨some 18, .move (.tmp 5), 3, "exact.go:657", #[], none⟩ ?_
   refine kK 2 ⟨some 19, .indexAddr 58 (.tmp 17) (.tmp 18), 0, "exact.go:657", #[⟨0, .data⟩, ⟨1, .data⟩], none⟩ ?_
   refine kK 3 ⟨some 20, .load 130 (.tmp 19), 130, "exact.go:657", #[⟨2, .data⟩], none⟩ ?_
   refine kK 4 ⟨some 21, .move (.tmp 1), 58, "exact.go:657", #[], none⟩ ?_
   refine kK 5 ⟨some 22, .move (.tmp 5), 3, "exact.go:657", #[], none⟩ ?_
   refine kK 6 ⟨some 23, .indexAddr 58 (.tmp 21) (.tmp 22), 0, "exact.go:657", #[⟨4, .data⟩, ⟨5, .data⟩], none⟩ ?_
   refine kK 7 ⟨some 24, .load 130 (.tmp 23), 130, "exact.go:657", #[⟨6, .data⟩], none⟩ ?_
   refine kR 8 ⟨some 25, .call ⟨.value (.func 88), #[.tmp 20, .tmp 24], #[130, 130]⟩, 4, "exact.go:657", #[⟨3, .data⟩, ⟨7, .data⟩], none⟩ (fun K hK => ?_)
   go_simp
   refine (eqVrow_same x _).mono ?_
   rintro r wz ⟨rfl, hbz⟩
   have vv := gr_trans vv hbz
   go_wp2_with fail
   refine hK.out _ _ (HS.out _ vv) (fun hHeld => ?_)
   clear hK K
   try simp only [Act.put, lA, lB, lC]
   refine kK 9 ⟨some 26, .unOp .not 4 (.tmp 25), 4, "exact.go:657", #[⟨8, .data⟩], none⟩ ?_
   refine wpAnyH_done (by kernel_rfl) ?_ _
   have b1 := gr_trans HB.out vv
   clear HS hHeld vv
   go_wp2
   go_roundw
   case rel => exact ⟨k + 1, by omega, by go_num, b1⟩
   case measure => simp [intOf]; omega
  ·have hk' : k = n' := by omega
   subst hk'
   go_wp2
   go_ret
   exact ⟨rfl, hb⟩

set_option maxRecDepth 100000 in
set_option maxHeartbeats 400000 in
theorem implWithin_any (n lo hi : Int) (w : World) : Calls Try.prog 39 #[.int .i64 n, .int .i64 lo, .int .i64 hi] w fun e w' => e = .returned (.bool (decide (lo ≤ n) && decide (n ≤ hi))) ∧ w' = w := by
 by_cases h1 : lo ≤ n
 ·by_cases h2 : n ≤ hi
  ·rw [decide_eq_true h1, decide_eq_true h2]
   go_enter Try.func39, Try.ntmps39
   go_wp2
   go_ret
   exact ⟨rfl, rfl⟩
  ·rw [decide_eq_true h1, decide_eq_false h2]
   go_enter Try.func39, Try.ntmps39
   go_wp2
   go_ret
   exact ⟨rfl, rfl⟩
 ·rw [decide_eq_false h1, Bool.false_and]
  go_enter Try.func39, Try.ntmps39
  go_wp2
  go_ret
  exact ⟨rfl, rfl⟩

def blkL (ao : Option Addr) : List Nat := match ao with | some a => [a.block] | none => []

theorem mem_blkL {ao : Option Addr} {n c b : Nat} : (Value.slice ao n c).ownBlock = some b ↔ b ∈ blkL ao := by
 cases ao <;> simp [Value.ownBlock, blkL, eq_comm]

structure Only (bs : List Nat) (w w' : World) : Prop where
 os : w'.os = w.os
 tape : w'.tape = w.tape
 output : w'.output = w.output
 size : w.heap.size ≤ w'.heap.size
 block : ∀ k, k < w.heap.size → k ∉ bs → w'.heap[k]? = w.heap[k]?

theorem Only.refl (bs : List Nat) (w : World) : Only bs w w := ⟨rfl, rfl, rfl, Nat.le_refl _, fun _ _ _ => rfl⟩
theorem Only.trans {bs : List Nat} {a b c : World} (h : Only bs a b) (k : Only bs b c) : Only bs a c :=
 ⟨k.os.trans h.os, k.tape.trans h.tape, k.output.trans h.output, Nat.le_trans h.size k.size, fun i hi hn => (k.block i (Nat.lt_of_lt_of_le hi h.size) hn).trans (h.block i hi hn)⟩
theorem Only.wider {bs cs : List Nat} {a b : World} (h : Only bs a b) (hs : ∀ x ∈ bs, x ∈ cs) : Only cs a b :=
 ⟨h.os, h.tape, h.output, h.size, fun k hk hn => h.block k hk (fun hb => hn (hs k hb))⟩
theorem Only.of_below {bs : List Nat} {a b : World} (h : Below a.heap.size a b) : Only bs a b := ⟨h.os, h.tape, h.output, h.size, fun k hk _ => h.block k hk⟩
theorem Only.of_grown {ao : Option Addr} {n c : Nat} {a b : World} (h : a.grownBy b (Value.slice ao n c).ownBlock) : Only (blkL ao) a b :=
 ⟨h.os, h.tape, h.output, h.size, fun k hk hn => h.block k hk (fun e => hn (mem_blkL.1 e.symm))⟩
theorem Only.set (w : World) (g j : Nat) (u : Value) : Only [g] w (w.setCell ⟨g, j, none⟩ u) :=
 ⟨rfl, rfl, rfl, by simp, fun k _ hn => Below.heap_setCell _ _ _ _ (by intro e; exact hn (by simp [e]))⟩
theorem Only.below {bs : List Nat} {w w' : World} (h : Only bs w w') {B : Nat} (hB : B ≤ w.heap.size) (hs : ∀ b ∈ bs, B ≤ b) : Below B w w' :=
 ⟨h.os, h.tape, h.output, h.size, fun k hk => h.block k (by omega) (fun hb => by have := hs k hb; omega)⟩
theorem Only.kept {bs : List Nat} {w w' : World} (h : Only bs w w') {i : Nat} {o : Obj} (hi : w.heap[i]? = some o) (hn : i ∉ bs) : w'.heap[i]? = some o := by
 rw [h.block i (Array.getElem?_eq_some_iff.1 hi).1 hn]; exact hi
theorem Only.own {bs : List Nat} {w w' : World} {base : Nat} {e : TypeId} {size : Nat} {v : Value} {n : Nat} {xs : List Value} (h : Only bs w w') (ho : w.ownsRow base e size v n xs) (hn : ∀ k, v.ownBlock = some k → k ∉ bs) : w'.ownsRow base e size v n xs := by
 obtain ⟨hl, h0 | ⟨g, cap, cur, rfl, hg, hh, r⟩⟩ := ho
 ·exact ⟨hl, .inl h0⟩
 ·exact ⟨hl, .inr ⟨g, cap, cur, rfl, hg, h.kept hh (hn g rfl), r⟩⟩

theorem own5_below {w w' : World} {base : Nat} {e : TypeId} {size : Nat} {v : Value} {n : Nat} {xs : List Value} (h : w.ownsRow base e size v n xs) (hb : Below w.heap.size w w') : w'.ownsRow base e size v n xs :=
 (Only.of_below (bs := []) hb).own h (by intro k _ hk; cases hk)
theorem own5_lt {w : World} {base : Nat} {e : TypeId} {size : Nat} {v : Value} {n : Nat} {xs : List Value} (h : w.ownsRow base e size v n xs) {base' : Nat} (hle : base' ≤ base) : w.ownsRow base' e size v n xs := by
 obtain ⟨hl, h | ⟨g, cap, cur, rfl, hg, r⟩⟩ := h
 ·exact ⟨hl, .inl h⟩
 ·exact ⟨hl, .inr ⟨g, cap, cur, rfl, by omega, r⟩⟩

theorem apart_type {w : World} {base base' : Nat} {e e' : TypeId} {s s' : Nat} {v v' : Value} {n n' : Nat} {xs xs' : List Value} (h : w.ownsRow base e s v n xs) (h' : w.ownsRow base' e' s' v' n' xs') (hne : e ≠ e') {k : Nat} (hk : v.ownBlock = some k) : v'.ownBlock ≠ some k := by
 intro hk'
 rcases h.2 with ⟨rfl, _⟩ | ⟨g, cap, cur, rfl, _, hh, _⟩
 ·cases hk
 ·rcases h'.2 with ⟨rfl, _⟩ | ⟨g', cap', cur', rfl, _, hh', _⟩
  ·cases hk'
  ·simp only [Value.ownBlock, Option.some.injEq] at hk hk'
   subst hk hk'
   rw [hh] at hh'
   cases hh'
   exact hne rfl

def markLk (k : Int) : LK := ⟨k, k + 1, k + 1 + 1, k + 1 + 1 + 1⟩
def markLs (k : Int) (n : Nat) : List LK := (List.range n).map fun (i : Nat) => markLk (k + 4 * i)

theorem markLs_length (k : Int) (n : Nat) : (markLs k n).length = n := by simp [markLs]
theorem markLs_succ (k : Int) (j : Nat) : markLs k (j + 1) = markLs k j ++ [markLk (k + 4 * j)] := by simp [markLs, List.range_succ]
theorem markLs_at (k : Int) (n j : Nat) (h : j < n) : (markLs k n)[j]? = some (markLk (k + 4 * j)) := by simp [markLs, List.getElem?_map, List.getElem?_range h]

set_option maxRecDepth 100000 in
set_option maxHeartbeats 2000000 in
theorem markLinks_at (base g n cap : Nat) (l : List LK) (k : Int) (w : World) (hown : w.ownsRow base 75 4 (.slice (some ⟨g, 0, none⟩) n cap) n (linkF.all l)) (hn : n ≤ 16777216) (hk0 : 0 ≤ k) (hk1 : k ≤ 1099511627776) :
  Calls Try.prog 28 #[.slice (some ⟨g, 0, none⟩) n cap, .int .i64 k] w fun r w' => r = .returned (.int .i64 (k + 4 * n)) ∧ w'.ownsRow base 75 4 (.slice (some ⟨g, 0, none⟩) n cap) n (linkF.all (markLs k n)) ∧ w.grownBy w' (some g) := by
 have hl : l.length = n := (grow_own (F := linkF) hown).size
 go_enter Try.func28, Try.ntmps28
 go_wp2
 go_loopw [1, 5] (fun m i wr => ∃ j : Nat, j ≤ n ∧ i = .int .i64 j ∧ m = .int .i64 (k + 4 * j) ∧ wr.ownsRow base 75 4 (.slice (some ⟨g, 0, none⟩) n cap) n (linkF.all (markLs k j ++ l.drop j)) ∧ w.grownBy wr (some g)) (fun _ i _ => n - (intOf i).toNat)
 case atStart => exact ⟨0, Nat.zero_le _, rfl, by simp, by simpa [markLs] using hown, World.grownBy.refl _ _⟩
 case round =>
  obtain ⟨j, hj, rfl, rfl, how, hg⟩ := hrel
  by_cases hlt : j < n
  ·obtain ⟨x, hx⟩ : ∃ x, l[j]? = some x := ⟨l[j]'(by omega), List.getElem?_eq_getElem (by omega)⟩
   have hdr : l.drop j = x :: l.drop (j + 1) := by
    obtain ⟨h, rfl⟩ := List.getElem?_eq_some_iff.1 hx
    exact List.drop_eq_getElem_cons h
   rw [hdr] at how
   have hlj := markLs_length k j
   have hz : (markLs k j ++ x :: l.drop (j + 1))[j]? = some x := by rw [List.getElem?_append_right (by omega), hlj, Nat.sub_self]; rfl
   obtain ⟨⟨t0, t1, t2, t3⟩, f0, f1, f2, f3⟩ := link_cells how hz
   have o3 := link_put (y := markLk (k + 4 * j)) how
   rw [hlj] at o3
   have HO3 := hide o3
   have HG := hide (grownTr hg (link_puts (w := wr) (g := g) (j := j * 4) (y := markLk (k + 4 * j))))
   have HM := hide (markLs_succ k j)
   have hm : 0 ≤ k + 4 * (j : Int) ∧ k + 4 * (j : Int) ≤ 2199023255552 := by omega
   clear how hg hown o3 hz hdr
   generalize hK : k + 4 * (j : Int) = K at *
   go_wp2
   go_roundw
   case rel => exact ⟨j + 1, by omega, by go_num, by simp; omega, by rw [HM.out, List.append_assoc]; exact HO3.out, HG.out⟩
   case measure => simp [intOf]; omega
  ·have hj' : j = n := by omega
   subst hj'
   rw [List.drop_eq_nil_of_le (by omega), List.append_nil] at how
   have HO := hide how
   clear how hown
   go_wp2
   go_ret
   exact ⟨rfl, HO.out, hg⟩

set_option maxRecDepth 100000 in
set_option maxHeartbeats 400000 in
theorem markLinks_nil (k : Int) (c : Nat) (w : World) :
  Calls Try.prog 28 #[.slice none 0 c, .int .i64 k] w fun r w' => r = .returned (.int .i64 k) ∧ w' = w := by
 go_enter Try.func28, Try.ntmps28
 go_wp2
 go_loop [1, 5] (fun m i => m = .int .i64 k ∧ i = .int .i64 0) (fun _ _ => 0)
 case atStart => exact ⟨rfl, rfl⟩
 case round =>
  obtain ⟨rfl, rfl⟩ := hrel
  go_wp2
  go_ret
  exact ⟨rfl, rfl⟩

theorem markLinks_grown (base : Nat) (ao : Option Addr) (n cap : Nat) (l : List LK) (k : Int) (w : World) (hown : w.ownsRow base 75 4 (.slice ao n cap) n (linkF.all l)) (hn : n ≤ 16777216) (hk0 : 0 ≤ k) (hk1 : k ≤ 1099511627776) :
  Calls Try.prog 28 #[.slice ao n cap, .int .i64 k] w fun r w' => r = .returned (.int .i64 (k + 4 * n)) ∧ w'.ownsRow base 75 4 (.slice ao n cap) n (linkF.all (markLs k n)) ∧ w.grownBy w' (Value.slice ao n cap).ownBlock := by
 rcases hown.2 with ⟨e, h0⟩ | ⟨g, cap', cur, e, -⟩
 ·cases e
  refine (markLinks_nil k 0 w).mono ?_
  rintro r w' ⟨rfl, rfl⟩
  exact ⟨by simp, by simpa [markLs, Flat.all] using World.ownsRow_nil w' base 75 4, World.grownBy.refl _ _⟩
 ·cases e
  exact markLinks_at base g n cap l k w hown hn hk0 hk1

set_option maxRecDepth 100000 in
set_option maxHeartbeats 400000 in
theorem markSays_nil (k : Int) (c : Nat) (w : World) :
  Calls Try.prog 29 #[.slice none 0 c, .int .i64 k] w fun r w' => r = .returned (.int .i64 k) ∧ w' = w := by
 go_enter Try.func29, Try.ntmps29
 go_wp2
 go_loop [1, 5] (fun m i => m = .int .i64 k ∧ i = .int .i64 0) (fun _ _ => 0)
 case atStart => exact ⟨rfl, rfl⟩
 case round =>
  obtain ⟨rfl, rfl⟩ := hrel
  go_wp2
  go_ret
  exact ⟨rfl, rfl⟩

def byB (zs : List Int) : ByteArray := ⟨(zs.map fun z => UInt8.ofNat z.toNat).toArray⟩

theorem byB_size (zs : List Int) : (byB zs).size = zs.length := by
 show (zs.map fun z => UInt8.ofNat z.toNat).toArray.size = _
 rw [List.size_toArray, List.length_map]

theorem byte_back {z : Int} (h : 0 ≤ z ∧ z ≤ 255) : ((UInt8.ofNat z.toNat).toNat : Int) = z := by
 rw [UInt8.toNat_ofNat']
 omega

theorem conv_row (dst : TypeId) (w : World) (ao : Option Addr) (l c : Nat) (zs : List Int) (h : Row w ao l c zs) (hd : Try.prog.underlying dst = some .string) : (convert 126 dst (.slice ao l c)).run Try.prog w = .ok (.string (byB zs)) w := by
 have hl : (zs.map fun z => UInt8.ofNat z.toNat).length = l := by rw [List.length_map]; exact h.size
 rcases ao with _ | a
 ·obtain ⟨rfl, rfl⟩ := h.none_zero rfl
  have hz : zs = [] := List.eq_nil_of_length_eq_zero h.size
  subst hz
  rw [run_convert_bytes_string w 126 dst 5 none 0 0 Try.underlying126 Try.underlying5 hd]
  rfl
 ·have := run_convert_bytes_back (P := Try.prog) w 126 dst 5 a c (zs.map fun z => UInt8.ofNat z.toNat) Try.underlying126 Try.underlying5 hd (by
   intro j hj
   have hj' : j < zs.length := by simpa using hj
   rw [h.news a rfl j _ (cB_get zs j hj')]
   have hb := getD_byte h.byte j
   have e : (zs.map fun z => UInt8.ofNat z.toNat)[j] = UInt8.ofNat (zs.getD j 0).toNat := by simp [List.getD_eq_getElem?_getD, hj']
   rw [e, byte_back hb])
  rw [hl] at this
  exact this

def mtF : Nat → Nat → ByteArray → ByteArray
 | 0, _, out => out
 | f + 1, k, out => if k = 0 then out else mtF f (k / 10) (byB [((48 + k % 10 : Nat) : Int)] ++ out)
def mtx (k : Int) : ByteArray := ⟨#[109]⟩ ++ mtF 20 k.toNat ⟨#[]⟩

theorem mtF_zero (f : Nat) (out : ByteArray) : mtF f 0 out = out := by cases f <;> simp [mtF]

structure MT (k : Int) (m : Nat) (out : ByteArray) : Prop where
 f : ∃ f, mtF f m out = mtF 20 k.toNat ⟨#[]⟩ ∧ m < 10 ^ f ∧ out.size + f ≤ 20

theorem MT.next {k : Int} {m : Nat} {out : ByteArray} (h : MT k m out) (hm : 0 < m) : MT k (m / 10) (byB [((48 + m % 10 : Nat) : Int)] ++ out) := by
 obtain ⟨f, h1, h2, h3⟩ := h.f
 cases f with
 | zero => simp at h2; omega
 | succ f =>
  refine ⟨f, ?_, ?_, ?_⟩
  ·rw [← h1]
   conv => rhs; unfold mtF
   rw [if_neg (by omega)]
  ·rw [Nat.pow_succ] at h2; omega
  ·rw [ByteArray.size_append, byB_size]; simp; omega
theorem MT.done {k : Int} {out : ByteArray} (h : MT k 0 out) : ⟨#[109]⟩ ++ out = mtx k := by
 obtain ⟨f, h1, -, -⟩ := h.f
 rw [mtF_zero] at h1
 unfold mtx
 rw [h1]
theorem MT.small {k : Int} {m : Nat} {out : ByteArray} (h : MT k m out) : out.size ≤ 20 := by
 obtain ⟨f, -, -, h3⟩ := h.f; omega

set_option maxRecDepth 100000 in
set_option maxHeartbeats 1000000 in
theorem markText_any (k : Int) (w : World) (h0 : 0 < k) (h1 : k ≤ 1099511627776) :
  Calls Try.prog 45 #[.int .i64 k] w fun e w' => e = .returned (.string (mtx k)) ∧ (mtx k).size ≤ 21 ∧ Below w.heap.size w w' := by
 have hstart : MT k k.toNat ⟨#[]⟩ := ⟨20, rfl, by omega, by simp [ByteArray.size]⟩
 have hk0 : ¬ k ≤ 0 := by omega
 go_enter Try.func45, Try.ntmps45
 go_wp2
 go_loopw [0, 3] (fun x s wr => ∃ (m : Nat) (out : ByteArray), x = .int .i64 m ∧ s = .string out ∧ (m : Int) ≤ k ∧ MT k m out ∧ Below w.heap.size w wr) (fun x _ _ => (intOf x).toNat)
 case atStart => exact ⟨k.toNat, ⟨#[]⟩, by rw [Int.toNat_of_nonneg (by omega)], rfl, by omega, hstart, Below.refl _ _⟩
 case round =>
  obtain ⟨m, out, rfl, rfl, hmk, hmt, hb⟩ := hrel
  have hsm := hmt.small
  by_cases hm : 0 < m
  ·have hnx := hmt.next hm
   have hw0 : (m : Int).tdiv 10 = ((m / 10 : Nat) : Int) := by rw [Int.tdiv_eq_ediv_of_nonneg (by omega)]; omega
   have hw1 : (m : Int).tmod 10 = ((m % 10 : Nat) : Int) := by rw [Int.tmod_eq_emod_of_nonneg (by omega)]; omega
   have hd : m % 10 < 10 := Nat.mod_lt _ (by omega)
   have hcv := conv_row 9 (wr.alloc (.cells #[.int .u8 ((48 + m % 10 : Nat) : Int)] 5)) (some ⟨wr.heap.size, 0, none⟩) 1 1 [((48 + m % 10 : Nat) : Int)] (row_one wr _ (by omega)) Try.underlying9
   have hbs : (byB [((48 + m % 10 : Nat) : Int)]).size = 1 := byB_size _
   have HB := hide (hb.trans ((below_one wr (.cells #[.int .u8 ((48 + m % 10 : Nat) : Int)] 5)).mono hb.size))
   have HN := hide hnx
   clear hb hnx hstart hmt
   generalize hD : ((48 + m % 10 : Nat) : Int) = D at *
   have hD' : 48 + ((m % 10 : Nat) : Int) = D := by rw [← hD]; omega
   generalize ((m % 10 : Nat) : Int) = r at *
   generalize hq : m / 10 = q at *
   go_wp2
   go_roundw
   case rel => exact ⟨q, _, rfl, rfl, by omega, HN.out, HB.out⟩
   case measure => simp [intOf]; omega
  ·have hm0 : m = 0 := by omega
   subst hm0
   have HD := hide hmt.done
   have hsz : (ByteArray.mk #[109] ++ out).size ≤ 21 := by rw [ByteArray.size_append]; have : (ByteArray.mk #[109]).size = 1 := rfl; omega
   have HS := hide hsz
   clear hsz hmt
   go_wp2
   go_ret
   exact ⟨by rw [← HD.out]; rfl, by rw [← HD.out]; exact HS.out, hb⟩

end Go.Proofs.Ytnichegfadgpdaa
