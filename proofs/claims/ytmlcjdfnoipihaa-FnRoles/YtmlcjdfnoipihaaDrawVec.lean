/-
  A vector that is drawn, right or not.
-/
import Derived.Test.YtmlcjdfnoipihaaDrawb
import Derived.Test.YtmlcjdfnoipihaaVecHelp
import Derived.Test.YtmlcjdfnoipihaaVecMath
namespace Go.Proofs.Ytmlcjdfnoipihaa
open Go.RowKit

/-- A vector that was drawn. -/
def DrawnVc (w w' : World) (C : Nat) (a0 : Option Addr) (l0 c0 : Nat) (z0 : List Int) (e : Ending) : Prop :=
  ∃ (R K H B P : Int), e = .returned (.agg #[.int .i64 R, .int .i64 K, .int .i64 H, .int .i64 B, .int .i64 P]) ∧ Went w w' C a0 l0 c0 z0

set_option maxRecDepth 100000 in
set_option maxHeartbeats 1000000 in
theorem l7Draw_ok (C : Nat) (a0 : Option Addr) (l0 c0 : Nat) (z0 : List Int) (w : World) (hc : Cur w C a0 l0 c0 z0) :
    Calls Try.prog 48 #[.pointer (some ⟨C, 0, none⟩)] w fun e w' => ∃ (R K H B P : Int), e = .returned (.agg #[.int .i64 R, .int .i64 K, .int .i64 H, .int .i64 B, .int .i64 P]) ∧ okVc R K H B P = true ∧ Went w w' C a0 l0 c0 z0 := by
  have hlt := hc.lt
  have q0 := below_one w (.cells #[.int .i64 0, .int .i64 0, .int .i64 0, .int .i64 0, .int .i64 0] 28)
  have wn0 := Went.start hc q0
  have hk0 := block_last w (.cells #[.int .i64 0, .int .i64 0, .int .i64 0, .int .i64 0, .int .i64 0] 28)
  go_enter Try.func48, Try.ntmps48
  go_wp2_with fail
  refine (below_any C a0 l0 c0 z0 5 _ wn0.cur (by omega)).mono ?_
  rintro e w1 ⟨r1, rfl, hx1, hy1, -, went1⟩
  have hy1 := hy1 (by omega)
  have wn1 := wn0.trans went1
  have k1 := kept_grown hk0 went1.grown (fun j hj => by cases hj; omega)
  clear wn0 went1 hk0
  go_wp2_with fail
  refine (pick_any C a0 l0 c0 z0 [0, 1, 2, 5, 10, 100] _ _ w1 wn1.cur rfl rfl (by simp) (by simp)).mono ?_
  rintro e w2 ⟨K, hK, rfl, went2⟩
  have HK : Hid (0 ≤ K ∧ K ≤ 100) := hide (by simp at hK; omega)
  clear hK
  have wn2 := wn1.trans went2
  have k2 := kept_grown k1 went2.grown (fun j hj => by cases hj; omega)
  clear wn1 went2 k1
  go_wp2_with fail
  refine (pick_any C a0 l0 c0 z0 [0, 1, 2, 9, 10] _ _ w2 wn2.cur rfl rfl (by simp) (by simp)).mono ?_
  rintro e w3 ⟨H, hH, rfl, went3⟩
  have HH : Hid (0 ≤ H ∧ H ≤ 10) := hide (by simp at hH; omega)
  clear hH
  have wn3 := wn2.trans went3
  have k3 := kept_grown k2 went3.grown (fun j hj => by cases hj; omega)
  clear wn2 went3 k2
  go_wp2_with fail
  refine (below_any C a0 l0 c0 z0 5 _ wn3.cur (by omega)).mono ?_
  rintro e w4 ⟨r4, rfl, hx4, hy4, -, went4⟩
  have hy4 := hy4 (by omega)
  have wn4 := wn3.trans went4
  have k4 := kept_grown k3 went4.grown (fun j hj => by cases hj; omega)
  clear wn3 went4 k3
  go_wp2_with fail
  refine (below_any C a0 l0 c0 z0 4 _ wn4.cur (by omega)).mono ?_
  rintro e w5 ⟨r5, rfl, hx5, hy5, -, went5⟩
  have hy5 := hy5 (by omega)
  have HOK : Hid (okVc (1 + r1) K H (1 + r4) r5 = true) := hide (by have h1 := HK.out; have h2 := HH.out; unfold okVc; simp; omega)
  have wn5 := wn4.trans went5
  have k5 := kept_grown k4 went5.grown (fun j hj => by cases hj; omega)
  obtain ⟨⟨x0, x1, x2, x3, x4⟩, f0, f1, f2, f3, f4⟩ := cells5 k5
  clear wn4 went5 k4 k5
  go_wp2
  exact bodyPost_ret (v := .agg #[.int .i64 (1 + r1), .int .i64 K, .int .i64 H, .int .i64 (1 + r4), .int .i64 r5]) (by simp [results, Try.results48, go_sem, *]) rfl ⟨_, _, _, _, _, rfl, HOK.out, wn5.madeAt (below_set5 (Below.refl _ _) (Nat.le_refl w.heap.size) _ _ _ _ _) hlt (Nat.le_refl _)⟩

theorem l7Draw_any (C : Nat) (a0 : Option Addr) (l0 c0 : Nat) (z0 : List Int) (w : World) (hc : Cur w C a0 l0 c0 z0) :
    Calls Try.prog 48 #[.pointer (some ⟨C, 0, none⟩)] w fun e w' => DrawnVc w w' C a0 l0 c0 z0 e :=
  (l7Draw_ok C a0 l0 c0 z0 w hc).mono (fun _ _ ⟨R, K, H, B, P, he, _, hw⟩ => ⟨R, K, H, B, P, he, hw⟩)

set_option maxRecDepth 100000 in
set_option maxHeartbeats 2000000 in
theorem l7Any_any (C : Nat) (a0 : Option Addr) (l0 c0 : Nat) (z0 : List Int) (w : World) (hc : Cur w C a0 l0 c0 z0) :
    Calls Try.prog 52 #[.pointer (some ⟨C, 0, none⟩)] w fun e w' => DrawnVc w w' C a0 l0 c0 z0 e := by
  have hlt := hc.lt
  have hst := Went.start hc (below_one w (.cells #[.int .i64 0, .int .i64 0, .int .i64 0, .int .i64 0, .int .i64 0] 28))
  go_enter Try.func52, Try.ntmps52
  go_wp2_with fail
  refine (l7Draw_any C a0 l0 c0 z0 _ hst.cur).mono ?_
  rintro e w1 ⟨R, K, H, B, P, rfl, went1⟩
  have kz := kept_grown (block_last w (.cells #[.int .i64 0, .int .i64 0, .int .i64 0, .int .i64 0, .int .i64 0] 28)) went1.grown (fun k hk => by cases hk; omega)
  have wn1 := hst.trans went1
  have m1 : w.heap.size + 1 ≤ w1.heap.size := by have := went1.grown.size; simpa using this
  have kz := kept_block kz (below_one w1 (.cells #[.int .i64 R, .int .i64 K, .int .i64 H, .int .i64 B, .int .i64 P] 28))
  have kv := block_last w1 (.cells #[.int .i64 R, .int .i64 K, .int .i64 H, .int .i64 B, .int .i64 P] 28)
  have wn1 := wn1.made (below_one w1 (.cells #[.int .i64 R, .int .i64 K, .int .i64 H, .int .i64 B, .int .i64 P] 28))
  have m1' : w1.heap.size + 1 ≤ (w1.alloc (.cells #[.int .i64 R, .int .i64 K, .int .i64 H, .int .i64 B, .int .i64 P] 28)).heap.size := by simp
  clear hst went1
  go_wp2_with fail
  generalize w1.alloc (.cells #[.int .i64 R, .int .i64 K, .int .i64 H, .int .i64 B, .int .i64 P] 28) = w1' at *
  refine (below_any C a0 l0 c0 z0 12 _ wn1.cur (by omega)).mono ?_
  rintro e w2 ⟨x, rfl, hx0, -, -, went2⟩
  have kz := kept_grown kz went2.grown (fun k hk => by cases hk; omega)
  have kv := kept_grown kv went2.grown (fun k hk => by cases hk; omega)
  have wn2 := wn1.trans went2
  have m2 : w1.heap.size + 1 ≤ w2.heap.size := Nat.le_trans m1' went2.grown.size
  clear went2 wn1 m1'
  have ne1 : ¬ w1.heap.size = w.heap.size := by omega
  have ne2 : ¬ w.heap.size = w1.heap.size := by omega
  by_cases e0 : x = 0
  · subst e0
    go_wp2_with fail
    refine (pick_any C a0 l0 c0 z0 [0, 99, 100] _ _ w2 wn2.cur rfl rfl (by simp) (by simp)).mono ?_
    rintro e w3 ⟨y, -, rfl, went3⟩
    obtain ⟨⟨x0, x1, x2, x3, x4⟩, f0, f1, f2, f3, f4⟩ := cells5 (kept_grown kv went3.grown (fun k hk => by cases hk; omega))
    obtain ⟨⟨y0, y1, y2, y3, y4⟩, g0, g1, g2, g3, g4⟩ := cells5 (kept_grown kz went3.grown (fun k hk => by cases hk; omega))
    have wn3 := wn2.trans went3
    clear went3 wn2 kz kv
    go_wp2
    exact bodyPost_ret (v := .agg #[.int .i64 y, .int .i64 K, .int .i64 H, .int .i64 B, .int .i64 P]) (by simp [results, Try.results52, go_sem, *]) rfl ⟨y, K, H, B, P, rfl, wn3.madeAt (below_set5 (below_set (Below.refl _ _) (g := w1.heap.size) (by omega) 0 (.int .i64 y)) (Nat.le_refl w.heap.size) _ _ _ _ _) hlt (Nat.le_refl _)⟩
  have t0 : (x == 0) = false := by simp [e0]
  by_cases e1 : x = 1
  · subst e1
    go_wp2_with fail
    refine (pick_any C a0 l0 c0 z0 [-1, 99999, 100000, 100001] _ _ w2 wn2.cur rfl rfl (by simp) (by simp)).mono ?_
    rintro e w3 ⟨y, -, rfl, went3⟩
    obtain ⟨⟨x0, x1, x2, x3, x4⟩, f0, f1, f2, f3, f4⟩ := cells5 (kept_grown kv went3.grown (fun k hk => by cases hk; omega))
    obtain ⟨⟨y0, y1, y2, y3, y4⟩, g0, g1, g2, g3, g4⟩ := cells5 (kept_grown kz went3.grown (fun k hk => by cases hk; omega))
    have wn3 := wn2.trans went3
    clear went3 wn2 kz kv
    go_wp2
    exact bodyPost_ret (v := .agg #[.int .i64 R, .int .i64 y, .int .i64 H, .int .i64 B, .int .i64 P]) (by simp [results, Try.results52, go_sem, *]) rfl ⟨R, y, H, B, P, rfl, wn3.madeAt (below_set5 (below_set (Below.refl _ _) (g := w1.heap.size) (by omega) 1 (.int .i64 y)) (Nat.le_refl w.heap.size) _ _ _ _ _) hlt (Nat.le_refl _)⟩
  have t1 : (x == 1) = false := by simp [e1]
  by_cases e2 : x = 2
  · subst e2
    go_wp2_with fail
    refine (pick_any C a0 l0 c0 z0 [-1, 11] _ _ w2 wn2.cur rfl rfl (by simp) (by simp)).mono ?_
    rintro e w3 ⟨y, -, rfl, went3⟩
    obtain ⟨⟨x0, x1, x2, x3, x4⟩, f0, f1, f2, f3, f4⟩ := cells5 (kept_grown kv went3.grown (fun k hk => by cases hk; omega))
    obtain ⟨⟨y0, y1, y2, y3, y4⟩, g0, g1, g2, g3, g4⟩ := cells5 (kept_grown kz went3.grown (fun k hk => by cases hk; omega))
    have wn3 := wn2.trans went3
    clear went3 wn2 kz kv
    go_wp2
    exact bodyPost_ret (v := .agg #[.int .i64 R, .int .i64 K, .int .i64 y, .int .i64 B, .int .i64 P]) (by simp [results, Try.results52, go_sem, *]) rfl ⟨R, K, y, B, P, rfl, wn3.madeAt (below_set5 (below_set (Below.refl _ _) (g := w1.heap.size) (by omega) 2 (.int .i64 y)) (Nat.le_refl w.heap.size) _ _ _ _ _) hlt (Nat.le_refl _)⟩
  have t2 : (x == 2) = false := by simp [e2]
  by_cases e3 : x = 3
  · subst e3
    go_wp2_with fail
    refine (pick_any C a0 l0 c0 z0 [-1, 7, 8] _ _ w2 wn2.cur rfl rfl (by simp) (by simp)).mono ?_
    rintro e w3 ⟨y, -, rfl, went3⟩
    obtain ⟨⟨x0, x1, x2, x3, x4⟩, f0, f1, f2, f3, f4⟩ := cells5 (kept_grown kv went3.grown (fun k hk => by cases hk; omega))
    obtain ⟨⟨y0, y1, y2, y3, y4⟩, g0, g1, g2, g3, g4⟩ := cells5 (kept_grown kz went3.grown (fun k hk => by cases hk; omega))
    have wn3 := wn2.trans went3
    clear went3 wn2 kz kv
    go_wp2
    exact bodyPost_ret (v := .agg #[.int .i64 R, .int .i64 K, .int .i64 H, .int .i64 B, .int .i64 y]) (by simp [results, Try.results52, go_sem, *]) rfl ⟨R, K, H, B, y, rfl, wn3.madeAt (below_set5 (below_set (Below.refl _ _) (g := w1.heap.size) (by omega) 4 (.int .i64 y)) (Nat.le_refl w.heap.size) _ _ _ _ _) hlt (Nat.le_refl _)⟩
  have t3 : (x == 3) = false := by simp [e3]
  obtain ⟨⟨x0, x1, x2, x3, x4⟩, f0, f1, f2, f3, f4⟩ := cells5 kv
  obtain ⟨⟨y0, y1, y2, y3, y4⟩, g0, g1, g2, g3, g4⟩ := cells5 kz
  clear kz kv
  go_wp2
  exact bodyPost_ret (v := .agg #[.int .i64 R, .int .i64 K, .int .i64 H, .int .i64 B, .int .i64 P]) (by simp [results, Try.results52, go_sem, *]) rfl ⟨R, K, H, B, P, rfl, wn2.madeAt (below_set5 (Below.refl _ _) (Nat.le_refl w.heap.size) _ _ _ _ _) hlt (Nat.le_refl _)⟩

end Go.Proofs.Ytmlcjdfnoipihaa
