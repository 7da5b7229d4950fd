/-
  The law file's own helpers on ports by their contracts: a copy, whether two lists are the same, their size.
-/
import Derived.Test.YtmlcjdfnoipihaaPtOkS
import Derived.Test.YtmlcjdfnoipihaaVecHelp
import Derived.Deep.RegionHeld3
namespace Go.Proofs.Ytmlcjdfnoipihaa
open Go.RowKit

set_option maxRecDepth 100000 in
set_option maxHeartbeats 2000000 in
theorem toPt_made (x : PT) (w : World) :
    Calls Try.prog 26 #[.agg #[.bool x.up, .int .i64 x.k, .bool x.has, .int .i64 x.v.r, .int .i64 x.v.c, .int .i64 x.v.h, .int .i64 x.v.b, .int .i64 x.v.p]] w fun r w' => r = .returned (.agg #[.bool x.up, .int .i64 x.k, .bool x.has, .int .i64 x.v.r, .int .i64 x.v.c, .int .i64 x.v.h, .int .i64 x.v.b, .int .i64 x.v.p]) ∧ Below w.heap.size w w' := by
  go_enter Try.func26, Try.ntmps26
  go_wp2_with fail
  refine (toVec_made x.v.r x.v.c x.v.h x.v.b x.v.p _).mono ?_
  rintro e w2 ⟨rfl, hb2⟩
  obtain ⟨-, k1, k2⟩ := kept_three hb2
  have HB0 := hide (gr_trans (below_three w _ _ _) hb2)
  clear hb2
  obtain ⟨d0, d1, d2, d3, d4, d5, d6, d7⟩ := cells8 k2
  obtain ⟨e0, e1, e2, e3, e4, e5, e6, e7⟩ := cells8 k1
  have fr : ∀ j, w2.frozen? ⟨w.heap.size + 1 + 1, j, none⟩ = false := fun j => by simp [World.frozen?, k2]
  have gr : ∀ j, w2.frozen? ⟨w.heap.size + 1, j, none⟩ = false := fun j => by simp [World.frozen?, k1]
  have f3 := fr 3
  have f4 := fr 4
  have f5 := fr 5
  have f6 := fr 6
  have f7 := fr 7
  have g0 := gr 0
  have g1 := gr 1
  have g2 := gr 2
  have g3 := gr 3
  have g4 := gr 4
  have g5 := gr 5
  have g6 := gr 6
  have g7 := gr 7
  have ne1 : ¬ w.heap.size + 1 = w.heap.size + 1 + 1 := by omega
  have ne2 : ¬ w.heap.size + 1 + 1 = w.heap.size + 1 := by omega
  have HB := hide (below_set (below_set (below_set (below_set (below_set (below_set (below_set (below_set (below_set (below_set (below_set (below_set (below_set HB0.out (g := w.heap.size + 1 + 1) (by omega) 3 (.int .i64 x.v.r)) (g := w.heap.size + 1 + 1) (by omega) 4 (.int .i64 x.v.c)) (g := w.heap.size + 1 + 1) (by omega) 5 (.int .i64 x.v.h)) (g := w.heap.size + 1 + 1) (by omega) 6 (.int .i64 x.v.b)) (g := w.heap.size + 1 + 1) (by omega) 7 (.int .i64 x.v.p)) (g := w.heap.size + 1) (by omega) 0 (.bool x.up)) (g := w.heap.size + 1) (by omega) 1 (.int .i64 x.k)) (g := w.heap.size + 1) (by omega) 2 (.bool x.has)) (g := w.heap.size + 1) (by omega) 3 (.int .i64 x.v.r)) (g := w.heap.size + 1) (by omega) 4 (.int .i64 x.v.c)) (g := w.heap.size + 1) (by omega) 5 (.int .i64 x.v.h)) (g := w.heap.size + 1) (by omega) 6 (.int .i64 x.v.b)) (g := w.heap.size + 1) (by omega) 7 (.int .i64 x.v.p))
  clear fr gr k1 k2
  go_wp2
  exact bodyPost_ret (v := .agg #[.bool x.up, .int .i64 x.k, .bool x.has, .int .i64 x.v.r, .int .i64 x.v.c, .int .i64 x.v.h, .int .i64 x.v.b, .int .i64 x.v.p]) (by simp [results, Try.results26, go_sem, *]) rfl ⟨rfl, HB.out⟩

theorem ptInfoH : (Try.prog.info? 33).map (fun i => (i.zero, i.size, i.bytes)) = some (some (.agg #[.bool false, .int .i64 0, .bool false, .int .i64 0, .int .i64 0, .int .i64 0, .int .i64 0, .int .i64 0]), 8, 64) := by kernel_rfl

def PT.zero : PT := ⟨false, 0, false, ⟨0, 0, 0, 0, 0⟩⟩

theorem at8h {w w' : World} {b off n cap : Nat} {l : List PT} (h : GRow ptF w (some ⟨b, off, none⟩) n cap l) (hb : Below w.heap.size w w') {i : Nat} {x : PT} (hx : l[i]? = some x) :
    w'.cell? ⟨b, off + i * 8, none⟩ = some (.bool x.up) ∧ w'.cell? ⟨b, off + i * 8 + 1, none⟩ = some (.int .i64 x.k) ∧ w'.cell? ⟨b, off + i * 8 + 2, none⟩ = some (.bool x.has) ∧ w'.cell? ⟨b, off + i * 8 + 3, none⟩ = some (.int .i64 x.v.r) ∧ w'.cell? ⟨b, off + i * 8 + 4, none⟩ = some (.int .i64 x.v.c) ∧ w'.cell? ⟨b, off + i * 8 + 5, none⟩ = some (.int .i64 x.v.h) ∧ w'.cell? ⟨b, off + i * 8 + 6, none⟩ = some (.int .i64 x.v.b) ∧ w'.cell? ⟨b, off + i * 8 + 7, none⟩ = some (.int .i64 x.v.p) := by
  have hi : i < n := by
    have := (List.getElem?_eq_some_iff.1 hx).1
    have := h.size
    omega
  obtain ⟨y, b', off', hy, e, c⟩ := pt_at (h.below hb) i hi
  cases e
  rw [hx] at hy
  cases hy
  exact c

/-- A port is laid over another one. -/
theorem pt_put {w : World} {base g n cap : Nat} {pre post : List PT} {x y : PT} (h : w.ownsRow base 33 8 (.slice (some ⟨g, 0, none⟩) n cap) n (ptF.all (pre ++ x :: post))) :
    ((((((((w.setCell ⟨g, pre.length * 8, none⟩ (.bool y.up)).setCell ⟨g, pre.length * 8 + 1, none⟩ (.int .i64 y.k)).setCell ⟨g, pre.length * 8 + 2, none⟩ (.bool y.has)).setCell ⟨g, pre.length * 8 + 3, none⟩ (.int .i64 y.v.r)).setCell ⟨g, pre.length * 8 + 4, none⟩ (.int .i64 y.v.c)).setCell ⟨g, pre.length * 8 + 5, none⟩ (.int .i64 y.v.h)).setCell ⟨g, pre.length * 8 + 6, none⟩ (.int .i64 y.v.b)).setCell ⟨g, pre.length * 8 + 7, none⟩ (.int .i64 y.v.p)).ownsRow base 33 8 (.slice (some ⟨g, 0, none⟩) n cap) n (ptF.all (pre ++ y :: post)) := by
  have R0 := flat_stored (F := ptF) (x' := ⟨y.up, x.k, x.has, ⟨x.v.r, x.v.c, x.v.h, x.v.b, x.v.p⟩⟩) h 0 (.bool y.up) (by decide) rfl
  have R1 := flat_stored (F := ptF) (x' := ⟨y.up, y.k, x.has, ⟨x.v.r, x.v.c, x.v.h, x.v.b, x.v.p⟩⟩) R0 1 (.int .i64 y.k) (by decide) rfl
  have R2 := flat_stored (F := ptF) (x' := ⟨y.up, y.k, y.has, ⟨x.v.r, x.v.c, x.v.h, x.v.b, x.v.p⟩⟩) R1 2 (.bool y.has) (by decide) rfl
  have R3 := flat_stored (F := ptF) (x' := ⟨y.up, y.k, y.has, ⟨y.v.r, x.v.c, x.v.h, x.v.b, x.v.p⟩⟩) R2 3 (.int .i64 y.v.r) (by decide) rfl
  have R4 := flat_stored (F := ptF) (x' := ⟨y.up, y.k, y.has, ⟨y.v.r, y.v.c, x.v.h, x.v.b, x.v.p⟩⟩) R3 4 (.int .i64 y.v.c) (by decide) rfl
  have R5 := flat_stored (F := ptF) (x' := ⟨y.up, y.k, y.has, ⟨y.v.r, y.v.c, y.v.h, x.v.b, x.v.p⟩⟩) R4 5 (.int .i64 y.v.h) (by decide) rfl
  have R6 := flat_stored (F := ptF) (x' := ⟨y.up, y.k, y.has, ⟨y.v.r, y.v.c, y.v.h, y.v.b, x.v.p⟩⟩) R5 6 (.int .i64 y.v.b) (by decide) rfl
  exact flat_stored (F := ptF) (x' := y) R6 7 (.int .i64 y.v.p) (by decide) rfl

theorem grown_set8 {w : World} {g : Nat} (j0 j1 j2 j3 j4 j5 j6 j7 : Nat) (u0 u1 u2 u3 u4 u5 u6 u7 : Value) : w.grownBy ((((((((w.setCell ⟨g, j0, none⟩ u0).setCell ⟨g, j1, none⟩ u1).setCell ⟨g, j2, none⟩ u2).setCell ⟨g, j3, none⟩ u3).setCell ⟨g, j4, none⟩ u4).setCell ⟨g, j5, none⟩ u5).setCell ⟨g, j6, none⟩ u6).setCell ⟨g, j7, none⟩ u7) (some g) :=
  grownTr (grownTr (grownTr (grownTr (grownTr (grownTr (grownTr (grown_set _ _) (grown_set _ _)) (grown_set _ _)) (grown_set _ _)) (grown_set _ _)) (grown_set _ _)) (grown_set _ _)) (grown_set _ _)

/-- The eight cells of a port of an owned row, none frozen. -/
theorem pt_cells {w : World} {base g n cap : Nat} {T : TypeId} {l : List PT} (h : w.ownsRow base T 8 (.slice (some ⟨g, 0, none⟩) n cap) n (ptF.all l)) {i : Nat} {x : PT} (hx : l[i]? = some x) :
    (w.cell? ⟨g, i * 8, none⟩ = some (.bool x.up) ∧ w.cell? ⟨g, i * 8 + 1, none⟩ = some (.int .i64 x.k) ∧ w.cell? ⟨g, i * 8 + 2, none⟩ = some (.bool x.has) ∧ w.cell? ⟨g, i * 8 + 3, none⟩ = some (.int .i64 x.v.r) ∧ w.cell? ⟨g, i * 8 + 4, none⟩ = some (.int .i64 x.v.c) ∧ w.cell? ⟨g, i * 8 + 5, none⟩ = some (.int .i64 x.v.h) ∧ w.cell? ⟨g, i * 8 + 6, none⟩ = some (.int .i64 x.v.b) ∧ w.cell? ⟨g, i * 8 + 7, none⟩ = some (.int .i64 x.v.p)) ∧
    (w.frozen? ⟨g, i * 8, none⟩ = false ∧ w.frozen? ⟨g, i * 8 + 1, none⟩ = false ∧ w.frozen? ⟨g, i * 8 + 2, none⟩ = false ∧ w.frozen? ⟨g, i * 8 + 3, none⟩ = false ∧ w.frozen? ⟨g, i * 8 + 4, none⟩ = false ∧ w.frozen? ⟨g, i * 8 + 5, none⟩ = false ∧ w.frozen? ⟨g, i * 8 + 6, none⟩ = false ∧ w.frozen? ⟨g, i * 8 + 7, none⟩ = false) := by
  have c0 := flat_cells (F := ptF) h hx (j := 0) (v := .bool x.up) rfl
  have c1 := flat_cells (F := ptF) h hx (j := 1) (v := .int .i64 x.k) rfl
  have c2 := flat_cells (F := ptF) h hx (j := 2) (v := .bool x.has) rfl
  have c3 := flat_cells (F := ptF) h hx (j := 3) (v := .int .i64 x.v.r) rfl
  have c4 := flat_cells (F := ptF) h hx (j := 4) (v := .int .i64 x.v.c) rfl
  have c5 := flat_cells (F := ptF) h hx (j := 5) (v := .int .i64 x.v.h) rfl
  have c6 := flat_cells (F := ptF) h hx (j := 6) (v := .int .i64 x.v.b) rfl
  have c7 := flat_cells (F := ptF) h hx (j := 7) (v := .int .i64 x.v.p) rfl
  exact ⟨⟨c0.1, c1.1, c2.1, c3.1, c4.1, c5.1, c6.1, c7.1⟩, c0.2, c1.2, c2.2, c3.2, c4.2, c5.2, c6.2, c7.2⟩

set_option maxRecDepth 100000 in
set_option maxHeartbeats 4000000 in
theorem toPts_made (ao : Option Addr) (n c : Nat) (l : List PT) (w : World) (hl : GRow ptF w ao n c l) (hs : n ≤ 1048576) :
    Calls Try.prog 28 #[.slice ao n c] w fun r w' => ∃ ao' cap, r = .returned (.slice ao' n cap) ∧ w'.ownsRow w.heap.size 33 8 (.slice ao' n cap) n (ptF.all l) ∧ GRow ptF w' ao' n cap l ∧ Below w.heap.size w w' := by
  obtain ⟨i0, hi, hz0, hz1, hz2⟩ := finfo_parts ptInfoH
  have s1 := hl.size
  go_enter Try.func28, Try.ntmps28
  go_wp2_with (at_make; refine wpList_make_full _ rfl _ _ 24 rfl w.heap.size 33 i0 (.agg #[.bool false, .int .i64 0, .bool false, .int .i64 0, .int .i64 0, .int .i64 0, .int .i64 0, .int .i64 0]) 8 Try.underlying24 hi hz0 hz1 .i64 .i64 _ _ n rfl rfl rfl rfl ?c1 ?c2 ?c3 ?_)
  case c1 => rw [hz2]; omega
  case c2 => unfold maxLen; omega
  case c3 => exact Nat.le_refl _
  intro w1 hown hgrow
  have hb1 : Below w.heap.size w w1 := (Below.refl _ _).grown hgrow (Nat.le_refl _) (by intro k hk; cases hk)
  have hown1 : w1.ownsRow w.heap.size 33 8 (.slice (some ⟨w.heap.size, 0, none⟩) n n) n (ptF.all (l.take 0 ++ List.replicate (n - 0) PT.zero)) := by
    rw [List.take_zero, List.nil_append, Nat.sub_zero, ← flat_made]; exact hown
  clear hown hgrow hi hz0 hz1 hz2
  go_wp2
  go_loopw [4] (fun i wr => ∃ k : Nat, k ≤ n ∧ i = .int .i64 k ∧ wr.ownsRow w.heap.size 33 8 (.slice (some ⟨w.heap.size, 0, none⟩) n n) n (ptF.all (l.take k ++ List.replicate (n - k) PT.zero)) ∧ Below w.heap.size w wr) (fun i _ => n - (intOf i).toNat)
  case atStart => exact ⟨0, Nat.zero_le _, rfl, hown1, hb1⟩
  case round =>
    obtain ⟨k, hk, rfl, ho, hb⟩ := hrel
    clear hown1 hb1
    by_cases hlt : k < n
    · obtain ⟨x, b, off, hx, rfl, a0, a1, a2, a3, a4, a5, a6, a7⟩ := pt_at (hl.below hb) k hlt
      have hrep : List.replicate (n - k) PT.zero = PT.zero :: List.replicate (n - (k + 1)) PT.zero := by rw [← List.replicate_succ]; congr 1; omega
      have hlk : (l.take k).length = k := by rw [List.length_take]; omega
      rw [hrep] at ho
      have htk : l.take (k + 1) = l.take k ++ [x] := by rw [List.take_add_one, hx]; rfl
      have HTK := hide htk
      have HB := hide hb
      have HO := hide ho
      have HX := hide hx
      clear hb ho htk hx
      go_wp2_with fail
      refine (toPt_made x _).mono ?_
      rintro r w2 ⟨rfl, hb2⟩
      have ho2 := gown_below HO.out hb2
      have hz : (l.take k ++ PT.zero :: List.replicate (n - (k + 1)) PT.zero)[k]? = some PT.zero := by rw [List.getElem?_append_right (by omega), hlk, Nat.sub_self]; rfl
      obtain ⟨⟨t0, t1, t2, t3, t4, t5, t6, t7⟩, f0, f1, f2, f3, f4, f5, f6, f7⟩ := pt_cells ho2 hz
      have o3 := pt_put (y := x) ho2
      rw [hlk] at o3
      have HO3 := hide o3
      have hb3 := gr_trans HB.out hb2
      have HB3 := hide (hb3.grown (grown_set8 (w := w2) (g := w.heap.size) (k * 8) (k * 8 + 1) (k * 8 + 2) (k * 8 + 3) (k * 8 + 4) (k * 8 + 5) (k * 8 + 6) (k * 8 + 7) (.bool x.up) (.int .i64 x.k) (.bool x.has) (.int .i64 x.v.r) (.int .i64 x.v.c) (.int .i64 x.v.h) (.int .i64 x.v.b) (.int .i64 x.v.p)) hb3.size (by intro j e; cases e; exact Nat.le_refl _))
      clear ho2 hb2 hb3 o3 hz a0 a1 a2 a3 a4 a5 a6 a7
      go_wp2
      go_roundw
      case rel => exact ⟨k + 1, by omega, by go_num, by rw [HTK.out, List.append_assoc]; exact HO3.out, HB3.out⟩
      case measure => simp [intOf]; omega
    · have hkn : k = n := by omega
      subst hkn
      rw [Nat.sub_self, List.take_of_length_le (by omega), List.replicate_zero, List.append_nil] at ho
      have HO := hide ho
      have HR := hide (grow_own ho)
      have HB := hide hb
      clear ho hb
      go_wp2
      go_ret
      exact ⟨_, _, rfl, HO.out, HR.out, HB.out⟩

set_option maxRecDepth 100000 in
set_option maxHeartbeats 2000000 in
theorem eqPt_same (x : PT) (w : World) :
    Calls Try.prog 45 #[.agg #[.bool x.up, .int .i64 x.k, .bool x.has, .int .i64 x.v.r, .int .i64 x.v.c, .int .i64 x.v.h, .int .i64 x.v.b, .int .i64 x.v.p], .agg #[.bool x.up, .int .i64 x.k, .bool x.has, .int .i64 x.v.r, .int .i64 x.v.c, .int .i64 x.v.h, .int .i64 x.v.b, .int .i64 x.v.p]] w fun r w' => r = .returned (.bool true) ∧ Below w.heap.size w w' := by
  go_enter Try.func45, Try.ntmps45
  go_wp2_with fail
  refine (eqVec_same x.v.r x.v.c x.v.h x.v.b x.v.p _).mono ?_
  rintro e w2 ⟨rfl, hb2⟩
  have HB := hide (gr_trans (below_two _ _ _) hb2)
  clear hb2
  go_wp2
  go_ret
  exact ⟨rfl, HB.out⟩

set_option maxRecDepth 100000 in
set_option maxHeartbeats 400000 in
theorem szPts_any (ao : Option Addr) (n c : Nat) (left : Int) (w : World) (hl : n ≤ maxLen) (h0 : 0 ≤ left) (h1 : left ≤ 1048576) :
    Calls Try.prog 27 #[.slice ao n c, .int .i64 left] w fun r w' => r = .returned (.int .i64 (if (n : Int) ≤ left then left - n else -1)) ∧ w' = w := by
  unfold maxLen at hl
  go_enter Try.func27, Try.ntmps27
  go_wp2
  all_goals go_ret
  all_goals exact ⟨rfl, rfl⟩

set_option maxRecDepth 100000 in
set_option maxHeartbeats 4000000 in
theorem eqPts_same (ao : Option Addr) (n c : Nat) (ao' : Option Addr) (n' c' : Nat) (l : List PT) (w : World) (hl : GRow ptF w ao n c l) (hl' : GRow ptF w ao' n' c' l) :
    Calls Try.prog 30 #[.slice ao n c, .slice ao' n' c'] w fun r w' => r = .returned (.bool true) ∧ Below w.heap.size w w' := by
  have hs := hl.size
  have hs' := hl'.size
  have htop := Nat.le_trans hl.le hl.top
  unfold maxLen at htop
  have hnn : n' = n := by omega
  subst hnn
  go_enter Try.func30, Try.ntmps30
  go_wp2
  go_loopw [5] (fun i wr => ∃ k : Nat, k ≤ n' ∧ i = .int .i64 k ∧ Below w.heap.size w wr) (fun i _ => n' - (intOf i).toNat)
  case atStart => exact ⟨0, Nat.zero_le _, rfl, Below.refl _ _⟩
  case round =>
    obtain ⟨k, hk, rfl, hb⟩ := hrel
    by_cases hlt : k < n'
    · obtain ⟨x, b, off, hx, rfl, a0, a1, a2, a3, a4, a5, a6, a7⟩ := pt_at (hl.below hb) k hlt
      obtain ⟨y, b', off', hy, rfl, e0, e1, e2, e3, e4, e5, e6, e7⟩ := pt_at (hl'.below hb) k hlt
      rw [hx] at hy
      cases hy
      have CX : Hid (∀ W, Below wr.heap.size wr W → _ ∧ _) := fun W h => ⟨at8h (hl.below hb) h hx, at8h (hl'.below hb) h hx⟩
      have HB := hide hb
      clear hb
      go_wp2_with fail
      go_region_held3 (fun W => (W.cell? ⟨b, off + k * 8, none⟩ = some (.bool x.up) ∧ W.cell? ⟨b, off + k * 8 + 1, none⟩ = some (.int .i64 x.k) ∧ W.cell? ⟨b, off + k * 8 + 2, none⟩ = some (.bool x.has) ∧ W.cell? ⟨b, off + k * 8 + 3, none⟩ = some (.int .i64 x.v.r) ∧ W.cell? ⟨b, off + k * 8 + 4, none⟩ = some (.int .i64 x.v.c) ∧ W.cell? ⟨b, off + k * 8 + 5, none⟩ = some (.int .i64 x.v.h) ∧ W.cell? ⟨b, off + k * 8 + 6, none⟩ = some (.int .i64 x.v.b) ∧ W.cell? ⟨b, off + k * 8 + 7, none⟩ = some (.int .i64 x.v.p)) ∧ (W.cell? ⟨b', off' + k * 8, none⟩ = some (.bool x.up) ∧ W.cell? ⟨b', off' + k * 8 + 1, none⟩ = some (.int .i64 x.k) ∧ W.cell? ⟨b', off' + k * 8 + 2, none⟩ = some (.bool x.has) ∧ W.cell? ⟨b', off' + k * 8 + 3, none⟩ = some (.int .i64 x.v.r) ∧ W.cell? ⟨b', off' + k * 8 + 4, none⟩ = some (.int .i64 x.v.c) ∧ W.cell? ⟨b', off' + k * 8 + 5, none⟩ = some (.int .i64 x.v.h) ∧ W.cell? ⟨b', off' + k * 8 + 6, none⟩ = some (.int .i64 x.v.b) ∧ W.cell? ⟨b', off' + k * 8 + 7, none⟩ = some (.int .i64 x.v.p))) (first | exact CX.out _ u1 | go_keep) (first
        | (go_at_call 45; refine (eqPt_same x _).mono ?_; rintro r w1 ⟨rfl, hb1⟩; have u1 : Below wr.heap.size wr w1 := undrew hb1))
      have b1 := gr_trans HB.out u1
      clear u1 hb1 a0 a1 a2 a3 a4 a5 a6 a7 e0 e1 e2 e3 e4 e5 e6 e7
      go_wp2
      go_roundw
      case rel => exact ⟨k + 1, by omega, by go_num, b1⟩
      case measure => simp [intOf]; omega
    · have hk' : k = n' := by omega
      subst hk'
      go_wp2
      go_ret
      exact ⟨rfl, hb⟩

end Go.Proofs.Ytmlcjdfnoipihaa
