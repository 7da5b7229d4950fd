/-
  Packed: DrawVec DrawPt VlanBits DrawStr FdbEnt PtHelp DrawPt2 PtLaws BrLaws VecNums.
-/
import Derived.Test.YtfknffdlmcckkaaGreatPTK01
import Derived.Test.YtfknffdlmcckkaaGreatPTK02
import Derived.Deep.CutRange
import Derived.Deep.RegionHeld3
namespace Go.Proofs.YtfknffdlmcckkaaGreat
open Go.RowKit

def DrawnVc (w w' : World) (C : Nat) (a0 : Option Addr) (l0 c0 : Nat) (z0 : List Int) (e : Ending) : Prop :=
 ∃ (R K H B P : Int), e = .returned (.agg #[.int .i64 R, .int .i64 K, .int .i64 H, .int .i64 B, .int .i64 P]) ∧ Went w w' C a0 l0 c0 z0

set_option maxRecDepth 100000 in
set_option maxHeartbeats 1000000 in
theorem l7Draw_ok (C : Nat) (a0 : Option Addr) (l0 c0 : Nat) (z0 : List Int) (w : World) (hc : Cur w C a0 l0 c0 z0) :
  Calls Tryz.prog 82 #[.pointer (some ⟨C, 0, none⟩)] w fun e w' => ∃ (R K H B P : Int), e = .returned (.agg #[.int .i64 R, .int .i64 K, .int .i64 H, .int .i64 B, .int .i64 P]) ∧ okVc R K H B P = true ∧ Went w w' C a0 l0 c0 z0 := by
 have hlt := hc.lt
 have q0 := below_one w (.cells #[.int .i64 0, .int .i64 0, .int .i64 0, .int .i64 0, .int .i64 0] 35)
 have wn0 := Went.start hc q0
 have hk0 := block_last w (.cells #[.int .i64 0, .int .i64 0, .int .i64 0, .int .i64 0, .int .i64 0] 35)
 go_enter Tryz.func82, Tryz.ntmps82
 go_wp2_with fail
 refine (below_any C a0 l0 c0 z0 5 _ wn0.cur (by omega)).mono ?_
 rintro e w1 ⟨r1, rfl, hx1, hy1, -, went1⟩
 have hy1 := hy1 (by omega)
 have wn1 := wn0.trans went1
 have k1 := kept_grown hk0 went1.grown (fun j hj => by cases hj; omega)
 clear wn0 went1 hk0
 go_wp2_with fail
 refine (pick_any C a0 l0 c0 z0 [0, 1, 2, 5, 10, 100] _ _ w1 wn1.cur rfl rfl (by simp) (by simp)).mono ?_
 rintro e w2 ⟨K, hK, rfl, went2⟩
 have HK : Hid (0 ≤ K ∧ K ≤ 100) := hide (by simp at hK; omega)
 clear hK
 have wn2 := wn1.trans went2
 have k2 := kept_grown k1 went2.grown (fun j hj => by cases hj; omega)
 clear wn1 went2 k1
 go_wp2_with fail
 refine (pick_any C a0 l0 c0 z0 [0, 1, 2, 9, 10] _ _ w2 wn2.cur rfl rfl (by simp) (by simp)).mono ?_
 rintro e w3 ⟨H, hH, rfl, went3⟩
 have HH : Hid (0 ≤ H ∧ H ≤ 10) := hide (by simp at hH; omega)
 clear hH
 have wn3 := wn2.trans went3
 have k3 := kept_grown k2 went3.grown (fun j hj => by cases hj; omega)
 clear wn2 went3 k2
 go_wp2_with fail
 refine (below_any C a0 l0 c0 z0 5 _ wn3.cur (by omega)).mono ?_
 rintro e w4 ⟨r4, rfl, hx4, hy4, -, went4⟩
 have hy4 := hy4 (by omega)
 have wn4 := wn3.trans went4
 have k4 := kept_grown k3 went4.grown (fun j hj => by cases hj; omega)
 clear wn3 went4 k3
 go_wp2_with fail
 refine (below_any C a0 l0 c0 z0 4 _ wn4.cur (by omega)).mono ?_
 rintro e w5 ⟨r5, rfl, hx5, hy5, -, went5⟩
 have hy5 := hy5 (by omega)
 have HOK : Hid (okVc (1 + r1) K H (1 + r4) r5 = true) := hide (by have h1 := HK.out; have h2 := HH.out; unfold okVc; simp; omega)
 have wn5 := wn4.trans went5
 have k5 := kept_grown k4 went5.grown (fun j hj => by cases hj; omega)
 obtain ⟨⟨x0, x1, x2, x3, x4⟩, f0, f1, f2, f3, f4⟩ := cells5 k5
 clear wn4 went5 k4 k5
 go_wp2
 exact bodyPost_ret (v := .agg #[.int .i64 (1 + r1), .int .i64 K, .int .i64 H, .int .i64 (1 + r4), .int .i64 r5]) (by simp [results, Tryz.results82, go_sem, *]) rfl ⟨_, _, _, _, _, rfl, HOK.out, wn5.madeAt (below_set5 (Below.refl _ _) (Nat.le_refl w.heap.size) _ _ _ _ _) hlt (Nat.le_refl _)⟩

theorem l7Draw_any (C : Nat) (a0 : Option Addr) (l0 c0 : Nat) (z0 : List Int) (w : World) (hc : Cur w C a0 l0 c0 z0) :
  Calls Tryz.prog 82 #[.pointer (some ⟨C, 0, none⟩)] w fun e w' => DrawnVc w w' C a0 l0 c0 z0 e :=
 (l7Draw_ok C a0 l0 c0 z0 w hc).mono (fun _ _ ⟨R, K, H, B, P, he, _, hw⟩ => ⟨R, K, H, B, P, he, hw⟩)

set_option maxRecDepth 100000 in
set_option maxHeartbeats 2000000 in
theorem l7Any_any (C : Nat) (a0 : Option Addr) (l0 c0 : Nat) (z0 : List Int) (w : World) (hc : Cur w C a0 l0 c0 z0) :
  Calls Tryz.prog 34 #[.pointer (some ⟨C, 0, none⟩)] w fun e w' => DrawnVc w w' C a0 l0 c0 z0 e := by
 have hlt := hc.lt
 have hst := Went.start hc (below_one w (.cells #[.int .i64 0, .int .i64 0, .int .i64 0, .int .i64 0, .int .i64 0] 35))
 go_enter Tryz.func34, Tryz.ntmps34
 go_wp2_with fail
 refine (l7Draw_any C a0 l0 c0 z0 _ hst.cur).mono ?_
 rintro e w1 ⟨R, K, H, B, P, rfl, went1⟩
 have kz := kept_grown (block_last w (.cells #[.int .i64 0, .int .i64 0, .int .i64 0, .int .i64 0, .int .i64 0] 35)) went1.grown (fun k hk => by cases hk; omega)
 have wn1 := hst.trans went1
 have m1 : w.heap.size + 1 ≤ w1.heap.size := by have := went1.grown.size; simpa using this
 have kz := kept_block kz (below_one w1 (.cells #[.int .i64 R, .int .i64 K, .int .i64 H, .int .i64 B, .int .i64 P] 35))
 have kv := block_last w1 (.cells #[.int .i64 R, .int .i64 K, .int .i64 H, .int .i64 B, .int .i64 P] 35)
 have wn1 := wn1.made (below_one w1 (.cells #[.int .i64 R, .int .i64 K, .int .i64 H, .int .i64 B, .int .i64 P] 35))
 have m1' : w1.heap.size + 1 ≤ (w1.alloc (.cells #[.int .i64 R, .int .i64 K, .int .i64 H, .int .i64 B, .int .i64 P] 35)).heap.size := by simp
 clear hst went1
 go_wp2_with fail
 generalize w1.alloc (.cells #[.int .i64 R, .int .i64 K, .int .i64 H, .int .i64 B, .int .i64 P] 35) = w1' at *
 refine (below_any C a0 l0 c0 z0 12 _ wn1.cur (by omega)).mono ?_
 rintro e w2 ⟨x, rfl, hx0, -, -, went2⟩
 have kz := kept_grown kz went2.grown (fun k hk => by cases hk; omega)
 have kv := kept_grown kv went2.grown (fun k hk => by cases hk; omega)
 have wn2 := wn1.trans went2
 have m2 : w1.heap.size + 1 ≤ w2.heap.size := Nat.le_trans m1' went2.grown.size
 clear went2 wn1 m1'
 have ne1 : ¬ w1.heap.size = w.heap.size := by omega
 have ne2 : ¬ w.heap.size = w1.heap.size := by omega
 by_cases e0 : x = 0
 ·subst e0
  go_wp2_with fail
  refine (pick_any C a0 l0 c0 z0 [0, 99, 100] _ _ w2 wn2.cur rfl rfl (by simp) (by simp)).mono ?_
  rintro e w3 ⟨y, -, rfl, went3⟩
  obtain ⟨⟨x0, x1, x2, x3, x4⟩, f0, f1, f2, f3, f4⟩ := cells5 (kept_grown kv went3.grown (fun k hk => by cases hk; omega))
  obtain ⟨⟨y0, y1, y2, y3, y4⟩, g0, g1, g2, g3, g4⟩ := cells5 (kept_grown kz went3.grown (fun k hk => by cases hk; omega))
  have wn3 := wn2.trans went3
  clear went3 wn2 kz kv
  go_wp2
  exact bodyPost_ret (v := .agg #[.int .i64 y, .int .i64 K, .int .i64 H, .int .i64 B, .int .i64 P]) (by simp [results, Tryz.results34, go_sem, *]) rfl ⟨y, K, H, B, P, rfl, wn3.madeAt (below_set5 (below_set (Below.refl _ _) (g := w1.heap.size) (by omega) 0 (.int .i64 y)) (Nat.le_refl w.heap.size) _ _ _ _ _) hlt (Nat.le_refl _)⟩
 have t0 : (x == 0) = false := by simp [e0]
 by_cases e1 : x = 1
 ·subst e1
  go_wp2_with fail
  refine (pick_any C a0 l0 c0 z0 [-1, 99999, 100000, 100001] _ _ w2 wn2.cur rfl rfl (by simp) (by simp)).mono ?_
  rintro e w3 ⟨y, -, rfl, went3⟩
  obtain ⟨⟨x0, x1, x2, x3, x4⟩, f0, f1, f2, f3, f4⟩ := cells5 (kept_grown kv went3.grown (fun k hk => by cases hk; omega))
  obtain ⟨⟨y0, y1, y2, y3, y4⟩, g0, g1, g2, g3, g4⟩ := cells5 (kept_grown kz went3.grown (fun k hk => by cases hk; omega))
  have wn3 := wn2.trans went3
  clear went3 wn2 kz kv
  go_wp2
  exact bodyPost_ret (v := .agg #[.int .i64 R, .int .i64 y, .int .i64 H, .int .i64 B, .int .i64 P]) (by simp [results, Tryz.results34, go_sem, *]) rfl ⟨R, y, H, B, P, rfl, wn3.madeAt (below_set5 (below_set (Below.refl _ _) (g := w1.heap.size) (by omega) 1 (.int .i64 y)) (Nat.le_refl w.heap.size) _ _ _ _ _) hlt (Nat.le_refl _)⟩
 have t1 : (x == 1) = false := by simp [e1]
 by_cases e2 : x = 2
 ·subst e2
  go_wp2_with fail
  refine (pick_any C a0 l0 c0 z0 [-1, 11] _ _ w2 wn2.cur rfl rfl (by simp) (by simp)).mono ?_
  rintro e w3 ⟨y, -, rfl, went3⟩
  obtain ⟨⟨x0, x1, x2, x3, x4⟩, f0, f1, f2, f3, f4⟩ := cells5 (kept_grown kv went3.grown (fun k hk => by cases hk; omega))
  obtain ⟨⟨y0, y1, y2, y3, y4⟩, g0, g1, g2, g3, g4⟩ := cells5 (kept_grown kz went3.grown (fun k hk => by cases hk; omega))
  have wn3 := wn2.trans went3
  clear went3 wn2 kz kv
  go_wp2
  exact bodyPost_ret (v := .agg #[.int .i64 R, .int .i64 K, .int .i64 y, .int .i64 B, .int .i64 P]) (by simp [results, Tryz.results34, go_sem, *]) rfl ⟨R, K, y, B, P, rfl, wn3.madeAt (below_set5 (below_set (Below.refl _ _) (g := w1.heap.size) (by omega) 2 (.int .i64 y)) (Nat.le_refl w.heap.size) _ _ _ _ _) hlt (Nat.le_refl _)⟩
 have t2 : (x == 2) = false := by simp [e2]
 by_cases e3 : x = 3
 ·subst e3
  go_wp2_with fail
  refine (pick_any C a0 l0 c0 z0 [-1, 7, 8] _ _ w2 wn2.cur rfl rfl (by simp) (by simp)).mono ?_
  rintro e w3 ⟨y, -, rfl, went3⟩
  obtain ⟨⟨x0, x1, x2, x3, x4⟩, f0, f1, f2, f3, f4⟩ := cells5 (kept_grown kv went3.grown (fun k hk => by cases hk; omega))
  obtain ⟨⟨y0, y1, y2, y3, y4⟩, g0, g1, g2, g3, g4⟩ := cells5 (kept_grown kz went3.grown (fun k hk => by cases hk; omega))
  have wn3 := wn2.trans went3
  clear went3 wn2 kz kv
  go_wp2
  exact bodyPost_ret (v := .agg #[.int .i64 R, .int .i64 K, .int .i64 H, .int .i64 B, .int .i64 y]) (by simp [results, Tryz.results34, go_sem, *]) rfl ⟨R, K, H, B, y, rfl, wn3.madeAt (below_set5 (below_set (Below.refl _ _) (g := w1.heap.size) (by omega) 4 (.int .i64 y)) (Nat.le_refl w.heap.size) _ _ _ _ _) hlt (Nat.le_refl _)⟩
 have t3 : (x == 3) = false := by simp [e3]
 obtain ⟨⟨x0, x1, x2, x3, x4⟩, f0, f1, f2, f3, f4⟩ := cells5 kv
 obtain ⟨⟨y0, y1, y2, y3, y4⟩, g0, g1, g2, g3, g4⟩ := cells5 kz
 clear kz kv
 go_wp2
 exact bodyPost_ret (v := .agg #[.int .i64 R, .int .i64 K, .int .i64 H, .int .i64 B, .int .i64 P]) (by simp [results, Tryz.results34, go_sem, *]) rfl ⟨R, K, H, B, P, rfl, wn2.madeAt (below_set5 (Below.refl _ _) (Nat.le_refl w.heap.size) _ _ _ _ _) hlt (Nat.le_refl _)⟩

set_option maxRecDepth 100000 in
set_option maxHeartbeats 4000000 in
theorem l10Draw_any (C : Nat) (a0 : Option Addr) (l0 c0 : Nat) (z0 : List Int) (N : Int) (m : Nat) (w : World) (hc : Cur w C a0 l0 c0 z0) (hN : N = m) (hm : m ≤ 1000) :
  Calls Tryz.prog 73 #[.pointer (some ⟨C, 0, none⟩), .int .i64 N] w fun e w' => ∃ (ao : Option Addr) (cap : Nat) (l : List PT), e = .returned (.slice ao m cap) ∧ l.length = m ∧ (∀ x ∈ l, ptOk x = true) ∧ w'.ownsRow w.heap.size 44 8 (.slice ao m cap) m (ptF.all l) ∧ Went w w' C a0 l0 c0 z0 := by
 subst hN
 have hlt := hc.lt
 go_enter Tryz.func73, Tryz.ntmps73
 go_wp2_with fail
 generalize hw1 : w.alloc (Obj.cells #[] 44) = w1
 have b1 : Below w.heap.size w w1 := by rw [← hw1]; exact below_one _ _
 have o1 : w1.ownsRow w.heap.size 44 8 (.slice (some ⟨w.heap.size, 0, none⟩) 0 0) 0 (ptF.all []) := flat_nil ptF w w1 44 w.heap.size (by rw [← hw1]; exact block_last _ _) (Nat.le_refl _)
 have wn1 := Went.start hc b1
 clear hw1 b1
 go_loopw [5, 6] (fun o i wr => ∃ (k : Nat) (ao : Option Addr) (cap : Nat) (l : List PT), k ≤ m ∧ i = .int .i64 k ∧ o = .slice ao k cap ∧ l.length = k ∧ (∀ x ∈ l, ptOk x = true) ∧ wr.ownsRow w.heap.size 44 8 (.slice ao k cap) k (ptF.all l) ∧ Went w wr C a0 l0 c0 z0) (fun _ i _ => m - (intOf i).toNat)
 case atStart => exact ⟨0, _, _, [], Nat.zero_le _, rfl, rfl, rfl, (by intro x hx; cases hx), o1, wn1⟩
 case round =>
  obtain ⟨k, ao, cap, l, hk, rfl, rfl, hl, hall, o2, wn2⟩ := hrel
  have HA := hide hall
  clear hall
  clear wn1 o1
  have HL := hide hl
  clear hl
  by_cases hk0 : k < m
  ·go_wp2_with fail
   refine (once_any C a0 l0 c0 z0 4 _ wn2.cur (by omega)).mono ?_
   rintro e w3 ⟨q, rfl, wt⟩
   have wn3 := wn2.trans wt
   have o3 := gown_apart o2 wt.grown (fun b hb => by cases hb; exact hlt)
   clear wt wn2 o2
   go_wp2_with fail
   refine (pick_any C a0 l0 c0 z0 [1, 1, 2, 5, 10] _ _ w3 wn3.cur rfl rfl (by simp) (by simp)).mono ?_
   rintro e w4 ⟨K, hK, rfl, wt⟩
   have HK : Hid ((decide (1 ≤ K) && decide (K ≤ 1000)) = true) := hide (by simp at hK; simp; omega)
   clear hK
   have wn4 := wn3.trans wt
   have o4 := gown_apart o3 wt.grown (fun b hb => by cases hb; exact hlt)
   clear wt wn3 o3
   have ob := hide (own_box8 o4)
   have hX : w.heap.size ≤ w4.heap.size := wn4.grown.size
   have HX := hide hX
   have hCX : C ≠ w4.heap.size := by omega
   have HCX := hide hCX
   clear hX hCX
   cases q
   ·go_upto_region 6 with fail
    generalize hw5 : w4.alloc (.cells #[.bool true, .int .i64 K, .bool false, .int .i64 0, .int .i64 0, .int .i64 0, .int .i64 0, .int .i64 0] 44) = w5
    have b5 : Below w4.heap.size w4 w5 := by rw [← hw5]; exact below_one _ _
    have kX : w5.heap[w4.heap.size]? = some (.cells #[.bool true, .int .i64 K, .bool false, .int .i64 0, .int .i64 0, .int .i64 0, .int .i64 0, .int .i64 0] 44) := by rw [← hw5]; exact block_last _ _
    have o5 := gown_below o4 b5
    have wn5 := wn4.made b5
    obtain ⟨d0, d1, d2, d3, d4, d5, d6, d7⟩ := cells8 kX
    clear o4 wn4 b5
    go_wp2_with fail
    refine (once_any C a0 l0 c0 z0 4 _ wn5.cur (by omega)).mono ?_
    rintro e w6 ⟨r, rfl, wt⟩
    have wn6 := wn5.trans wt
    have o6 := gown_apart o5 wt.grown (fun b hb => by cases hb; exact hlt)
    have kX := kept_grown kX wt.grown (fun i e => by cases e; exact HCX.out)
    clear wt wn5 o5 hw5 d0 d1 d2 d3 d4 d5 d6 d7
    cases r
    ·obtain ⟨d0, d1, d2, d3, d4, d5, d6, d7⟩ := cells8 kX
     have f2 := frozen8 kX 2
     generalize hw7 : w6.setCell ⟨w4.heap.size, 2, none⟩ (.bool true) = w7
     have kY : w7.heap[w4.heap.size]? = some (.cells #[.bool true, .int .i64 K, .bool true, .int .i64 0, .int .i64 0, .int .i64 0, .int .i64 0, .int .i64 0] 44) := by rw [← hw7]; exact set_block8 kX _
     have o7 := gown_other o6 (grown_set (rb := w4.heap.size) 2 (.bool true)) (fun b hb => Nat.ne_of_lt (ob.out b hb))
     rw [hw7] at o7
     have wn7 := wn6.madeAt (below_set (Below.refl w.heap.size w6) (g := w4.heap.size) HX.out 2 (.bool true)) hlt (Nat.le_refl _)
     rw [hw7] at wn7
     clear wn6 o6 kX
     go_wp2_with fail
     refine (l7Draw_ok C a0 l0 c0 z0 _ wn7.cur).mono ?_
     rintro e w8 ⟨vr, vc, vh, vb, vp, rfl, hok, wt⟩
     have HV := hide hok
     clear hok
     have wn8 := wn7.trans wt
     have o8 := gown_apart o7 wt.grown (fun b hb => by cases hb; exact hlt)
     have kX := kept_grown kY wt.grown (fun i e => by cases e; exact HCX.out)
     clear wt wn7 o7 hw7 kY d0 d1 d2 d3 d4 d5 d6 d7 f2
     obtain ⟨d0, d1, d2, d3, d4, d5, d6, d7⟩ := cells8 kX
     have f3 := frozen8 kX 3
     have f4 := frozen8 kX 4
     have f5 := frozen8 kX 5
     have f6 := frozen8 kX 6
     have f7 := frozen8 kX 7
     generalize hw9 : ((((w8.setCell ⟨w4.heap.size, 3, none⟩ (.int .i64 vr)).setCell ⟨w4.heap.size, 4, none⟩ (.int .i64 vc)).setCell ⟨w4.heap.size, 5, none⟩ (.int .i64 vh)).setCell ⟨w4.heap.size, 6, none⟩ (.int .i64 vb)).setCell ⟨w4.heap.size, 7, none⟩ (.int .i64 vp) = w9
     have kY : w9.heap[w4.heap.size]? = some (.cells #[.bool true, .int .i64 K, .bool true, .int .i64 vr, .int .i64 vc, .int .i64 vh, .int .i64 vb, .int .i64 vp] 44) := by rw [← hw9]; exact set_heard kX _ _ _ _ _
     have hne : ∀ b, (Value.slice ao k cap).ownBlock = some b → b ≠ w4.heap.size := fun b hb => Nat.ne_of_lt (ob.out b hb)
     have o9' := gown_other (gown_other (gown_other (gown_other (gown_other o8 (grown_set (rb := w4.heap.size) 3 (.int .i64 vr)) hne) (grown_set (rb := w4.heap.size) 4 (.int .i64 vc)) hne) (grown_set (rb := w4.heap.size) 5 (.int .i64 vh)) hne) (grown_set (rb := w4.heap.size) 6 (.int .i64 vb)) hne) (grown_set (rb := w4.heap.size) 7 (.int .i64 vp)) hne
     rw [hw9] at o9'
     have wn9 := wn8.madeAt (below_set (below_set (below_set (below_set (below_set (Below.refl w.heap.size w8) (g := w4.heap.size) HX.out 3 (.int .i64 vr)) HX.out 4 (.int .i64 vc)) HX.out 5 (.int .i64 vh)) HX.out 6 (.int .i64 vb)) HX.out 7 (.int .i64 vp)) hlt (Nat.le_refl _)
     rw [hw9] at wn9
     clear wn8 o8 kX hne
     go_upto_region 9 with fail
     clear d0 d1 d2 d3 d4 d5 d6 d7 f3 f4 f5 f6 f7 hw9
     have HCS : Hid (#[Value.bool true, .int .i64 K, .bool true, .int .i64 vr, .int .i64 vc, .int .i64 vh, .int .i64 vb, .int .i64 vp].toList = ptF.cs ⟨true, K, true, ⟨vr, vc, vh, vb, vp⟩⟩) := hide rfl
     obtain ⟨d0, d1, d2, d3, d4, d5, d6, d7⟩ := cells8 kY
     have o9 := gown_below o9' (below_one w9 (.cells #[.bool true, .int .i64 K, .bool true, .int .i64 vr, .int .i64 vc, .int .i64 vh, .int .i64 vb, .int .i64 vp] 44))
     have hbase9 : w.heap.size ≤ (w9.alloc (.cells #[.bool true, .int .i64 K, .bool true, .int .i64 vr, .int .i64 vc, .int .i64 vh, .int .i64 vb, .int .i64 vp] 44)).heap.size := by have := wn9.grown.size; simp; omega
     have HW9 : Hid (Went w (w9.alloc (.cells #[.bool true, .int .i64 K, .bool true, .int .i64 vr, .int .i64 vc, .int .i64 vh, .int .i64 vb, .int .i64 vp] 44)) C a0 l0 c0 z0) := hide (wn9.made (below_one w9 _))
     go_wp2_with (at_builtin; refine pt_append _ rfl _ _ rfl w.heap.size _ k l rfl o9 _ 1 1 [⟨true, K, true, ⟨vr, vc, vh, vb, vp⟩⟩] rfl (grow_one ptF _ _ _ _ HCS.out) (by omega) hbase9 ?_)
     rintro ao' cap' wz oz - gz bz
     have HO := hide oz
     have HWZ := hide (HW9.out.madeAt bz hlt (Nat.le_refl _))
     have HLN : Hid ((l ++ [(⟨true, K, true, ⟨vr, vc, vh, vb, vp⟩⟩ : PT)]).length = k + 1) := hide (by simp [HL.out])
     have HAN : Hid (∀ y ∈ l ++ [(⟨true, K, true, ⟨vr, vc, vh, vb, vp⟩⟩ : PT)], ptOk y = true) := hide (by
      intro y hy
      rcases List.mem_append.1 hy with hy | hy
      ·exact HA.out y hy
      ·have e : y = _ := List.mem_singleton.1 hy
       subst e
       unfold ptOk
       simp only
       rw [HK.out]
       exact HV.out)
     clear oz gz bz o9 hbase9 d0 d1 d2 d3 d4 d5 d6 d7
     go_wp2
     go_roundw
     case rel => exact ⟨k + 1, ao', cap', _, by omega, by go_num, rfl, HLN.out, HAN.out, HO.out, HWZ.out⟩
     case measure => simp [intOf]; omega
    ·go_upto_region 9 with fail
     have HCS : Hid (#[Value.bool true, .int .i64 K, .bool false, .int .i64 0, .int .i64 0, .int .i64 0, .int .i64 0, .int .i64 0].toList = ptF.cs ⟨true, K, false, ⟨0, 0, 0, 0, 0⟩⟩) := hide rfl
     obtain ⟨d0, d1, d2, d3, d4, d5, d6, d7⟩ := cells8 kX
     have o9 := gown_below o6 (below_one w6 (.cells #[.bool true, .int .i64 K, .bool false, .int .i64 0, .int .i64 0, .int .i64 0, .int .i64 0, .int .i64 0] 44))
     have hbase9 : w.heap.size ≤ (w6.alloc (.cells #[.bool true, .int .i64 K, .bool false, .int .i64 0, .int .i64 0, .int .i64 0, .int .i64 0, .int .i64 0] 44)).heap.size := by have := wn6.grown.size; simp; omega
     have HW9 : Hid (Went w (w6.alloc (.cells #[.bool true, .int .i64 K, .bool false, .int .i64 0, .int .i64 0, .int .i64 0, .int .i64 0, .int .i64 0] 44)) C a0 l0 c0 z0) := hide (wn6.made (below_one w6 _))
     go_wp2_with (at_builtin; refine pt_append _ rfl _ _ rfl w.heap.size _ k l rfl o9 _ 1 1 [⟨true, K, false, ⟨0, 0, 0, 0, 0⟩⟩] rfl (grow_one ptF _ _ _ _ HCS.out) (by omega) hbase9 ?_)
     rintro ao' cap' wz oz - gz bz
     have HO := hide oz
     have HWZ := hide (HW9.out.madeAt bz hlt (Nat.le_refl _))
     have HLN : Hid ((l ++ [(⟨true, K, false, ⟨0, 0, 0, 0, 0⟩⟩ : PT)]).length = k + 1) := hide (by simp [HL.out])
     have HAN : Hid (∀ y ∈ l ++ [(⟨true, K, false, ⟨0, 0, 0, 0, 0⟩⟩ : PT)], ptOk y = true) := hide (by
      intro y hy
      rcases List.mem_append.1 hy with hy | hy
      ·exact HA.out y hy
      ·have e : y = _ := List.mem_singleton.1 hy
       subst e
       unfold ptOk
       simp only
       rw [HK.out]
       rfl)
     clear oz gz bz o9 hbase9 d0 d1 d2 d3 d4 d5 d6 d7
     go_wp2
     go_roundw
     case rel => exact ⟨k + 1, ao', cap', _, by omega, by go_num, rfl, HLN.out, HAN.out, HO.out, HWZ.out⟩
     case measure => simp [intOf]; omega
   ·go_upto_region 6 with fail
    generalize hw5 : w4.alloc (.cells #[.bool false, .int .i64 K, .bool false, .int .i64 0, .int .i64 0, .int .i64 0, .int .i64 0, .int .i64 0] 44) = w5
    have b5 : Below w4.heap.size w4 w5 := by rw [← hw5]; exact below_one _ _
    have kX : w5.heap[w4.heap.size]? = some (.cells #[.bool false, .int .i64 K, .bool false, .int .i64 0, .int .i64 0, .int .i64 0, .int .i64 0, .int .i64 0] 44) := by rw [← hw5]; exact block_last _ _
    have o5 := gown_below o4 b5
    have wn5 := wn4.made b5
    obtain ⟨e0, e1, e2, e3, e4, e5, e6, e7⟩ := cells8 kX
    clear o4 wn4 b5
    go_upto_region 9 with fail
    clear e0 e1 e2 e3 e4 e5 e6 e7 hw5
    have HCS : Hid (#[Value.bool false, .int .i64 K, .bool false, .int .i64 0, .int .i64 0, .int .i64 0, .int .i64 0, .int .i64 0].toList = ptF.cs ⟨false, K, false, ⟨0, 0, 0, 0, 0⟩⟩) := hide rfl
    obtain ⟨d0, d1, d2, d3, d4, d5, d6, d7⟩ := cells8 kX
    have o9 := gown_below o5 (below_one w5 (.cells #[.bool false, .int .i64 K, .bool false, .int .i64 0, .int .i64 0, .int .i64 0, .int .i64 0, .int .i64 0] 44))
    have hbase9 : w.heap.size ≤ (w5.alloc (.cells #[.bool false, .int .i64 K, .bool false, .int .i64 0, .int .i64 0, .int .i64 0, .int .i64 0, .int .i64 0] 44)).heap.size := by have := wn5.grown.size; simp; omega
    have HW9 : Hid (Went w (w5.alloc (.cells #[.bool false, .int .i64 K, .bool false, .int .i64 0, .int .i64 0, .int .i64 0, .int .i64 0, .int .i64 0] 44)) C a0 l0 c0 z0) := hide (wn5.made (below_one w5 _))
    go_wp2_with (at_builtin; refine pt_append _ rfl _ _ rfl w.heap.size _ k l rfl o9 _ 1 1 [⟨false, K, false, ⟨0, 0, 0, 0, 0⟩⟩] rfl (grow_one ptF _ _ _ _ HCS.out) (by omega) hbase9 ?_)
    rintro ao' cap' wz oz - gz bz
    have HO := hide oz
    have HWZ := hide (HW9.out.madeAt bz hlt (Nat.le_refl _))
    have HLN : Hid ((l ++ [(⟨false, K, false, ⟨0, 0, 0, 0, 0⟩⟩ : PT)]).length = k + 1) := hide (by simp [HL.out])
    have HAN : Hid (∀ y ∈ l ++ [(⟨false, K, false, ⟨0, 0, 0, 0, 0⟩⟩ : PT)], ptOk y = true) := hide (by
     intro y hy
     rcases List.mem_append.1 hy with hy | hy
     ·exact HA.out y hy
     ·have e : y = _ := List.mem_singleton.1 hy
      subst e
      unfold ptOk
      simp only
      rw [HK.out]
      rfl)
    clear oz gz bz o9 hbase9 d0 d1 d2 d3 d4 d5 d6 d7
    go_wp2
    go_roundw
    case rel => exact ⟨k + 1, ao', cap', _, by omega, by go_num, rfl, HLN.out, HAN.out, HO.out, HWZ.out⟩
    case measure => simp [intOf]; omega
  ·have hkm : k = m := by omega
   subst hkm
   go_wp2
   go_ret
   exact ⟨ao, cap, l, rfl, HL.out, HA.out, o2, wn2⟩

def I64 (x : Int) : Prop := -9223372036854775808 ≤ x ∧ x ≤ 9223372036854775807

def VR.Rng (r : VR) : Prop := I64 r.i ∧ I64 r.m ∧ I64 r.b

theorem bv_of (x : Int) : (BitVec.ofInt 64 x).toNat = (x % 18446744073709551616).toNat := by
 rw [BitVec.toNat_ofInt]
 rfl

theorem wrap_bv (x : BitVec 64) : IntKind.i64.wrap (x.toNat : Int) = x.toInt := by
 have := x.isLt
 rw [IntKind.wrap_i64, BitVec.toInt_eq_toNat_cond]
 split <;> omega

theorem bits_and (a b : Int) : bits .and .i64 a b = (BitVec.ofInt 64 a &&& BitVec.ofInt 64 b).toInt := by
 rw [← wrap_bv]
 rfl
theorem bits_andNot (a b : Int) : bits .andNot .i64 a b = (BitVec.ofInt 64 a &&& ~~~(BitVec.ofInt 64 b)).toInt := by
 rw [← wrap_bv]
 rfl

theorem toInt_zero {x : BitVec 64} : x.toInt = 0 ↔ x = 0#64 := by
 rw [← BitVec.toInt_inj]
 simp

theorem toInt_of (x : Int) (h : I64 x) : (BitVec.ofInt 64 x).toInt = x := by
 unfold I64 at h
 rw [BitVec.toInt_ofInt]
 rw [Int.bmod_def]
 omega

theorem andNot_and (b m : Int) (hb : I64 b) : (bits .andNot .i64 b m == 0) = (bits .and .i64 b m == b) := by
 rw [bits_and, bits_andNot]
 have key : (BitVec.ofInt 64 b &&& ~~~(BitVec.ofInt 64 m)) = 0#64 ↔ (BitVec.ofInt 64 b &&& BitVec.ofInt 64 m) = BitVec.ofInt 64 b := by
  constructor
  ·intro h
   apply BitVec.eq_of_getLsbD_eq
   intro i hi
   have := congrArg (fun z => z.getLsbD i) h
   simp only [BitVec.getLsbD_and, BitVec.getLsbD_not, hi, decide_true, Bool.true_and, BitVec.getLsbD_zero] at this
   simp only [BitVec.getLsbD_and]
   cases h1 : (BitVec.ofInt 64 b).getLsbD i <;> cases h2 : (BitVec.ofInt 64 m).getLsbD i <;> simp_all
  ·intro h
   apply BitVec.eq_of_getLsbD_eq
   intro i hi
   have := congrArg (fun z => z.getLsbD i) h
   simp only [BitVec.getLsbD_and] at this
   simp only [BitVec.getLsbD_and, BitVec.getLsbD_not, hi, decide_true, Bool.true_and, BitVec.getLsbD_zero]
   cases h1 : (BitVec.ofInt 64 b).getLsbD i <;> cases h2 : (BitVec.ofInt 64 m).getLsbD i <;> simp_all
 have e2 : ((BitVec.ofInt 64 b &&& BitVec.ofInt 64 m).toInt = b) ↔ (BitVec.ofInt 64 b &&& BitVec.ofInt 64 m) = BitVec.ofInt 64 b := by
  constructor
  ·intro h
   apply BitVec.toInt_inj.1
   rw [h, toInt_of b hb]
  ·intro h
   rw [h, toInt_of b hb]
 have e1 := toInt_zero (x := BitVec.ofInt 64 b &&& ~~~(BitVec.ofInt 64 m))
 rw [Bool.eq_iff_iff]
 simp only [beq_iff_eq]
 rw [e1, key, e2]

theorem mask_is (p : Nat) (hp : p ≤ 6) : (BitVec.ofInt 64 (allOf p)).toNat = 2 ^ p - 1 := by
 rcases (show p = 0 ∨ p = 1 ∨ p = 2 ∨ p = 3 ∨ p = 4 ∨ p = 5 ∨ p = 6 by omega) with rfl | rfl | rfl | rfl | rfl | rfl | rfl <;> rfl

theorem pow_le6 (p : Nat) (hp : p ≤ 6) : (2 : Nat) ^ p ≤ 64 ∧ ((2 : Int) ^ p = ((2 ^ p : Nat) : Int)) ∧ 1 ≤ (2 : Nat) ^ p := by
 rcases (show p = 0 ∨ p = 1 ∨ p = 2 ∨ p = 3 ∨ p = 4 ∨ p = 5 ∨ p = 6 by omega) with rfl | rfl | rfl | rfl | rfl | rfl | rfl <;> exact ⟨by decide, rfl, by decide⟩

theorem andNot_mask (m : Int) (p : Nat) (hm : I64 m) (hp : p ≤ 6) : (bits .andNot .i64 m (allOf p) == 0) = in3 m 0 (allOf p) := by
 rw [andNot_and m _ hm, bits_and]
 have hn : (BitVec.ofInt 64 m &&& BitVec.ofInt 64 (allOf p)).toNat = (BitVec.ofInt 64 m).toNat % 2 ^ p := by
  rw [BitVec.toNat_and, mask_is p hp, Nat.and_two_pow_sub_one_eq_mod]
 have e2 : ((BitVec.ofInt 64 m &&& BitVec.ofInt 64 (allOf p)).toInt = m) ↔ (BitVec.ofInt 64 m &&& BitVec.ofInt 64 (allOf p)).toNat = (BitVec.ofInt 64 m).toNat := by
  constructor
  ·intro h
   have : (BitVec.ofInt 64 m &&& BitVec.ofInt 64 (allOf p)) = BitVec.ofInt 64 m := by
    apply BitVec.toInt_inj.1
    rw [h, toInt_of m hm]
   rw [this]
  ·intro h
   rw [BitVec.eq_of_toNat_eq h, toInt_of m hm]
 rw [Bool.eq_iff_iff]
 simp only [beq_iff_eq]
 rw [e2, hn, bv_of m]
 obtain ⟨h64, hc, h1⟩ := pow_le6 p hp
 unfold in3 allOf
 rw [hc]
 unfold I64 at hm
 generalize (2 : Nat) ^ p = q at *
 simp only [Bool.and_eq_true, decide_eq_true_eq]
 constructor
 ·intro h
  have : (m % 18446744073709551616).toNat % q < q := Nat.mod_lt _ (by omega)
  omega
 ·intro h
  rw [Nat.mod_eq_of_lt (by omega)]

theorem and_small (b m : Int) (p : Nat) (hb : I64 b) (hp : p ≤ 6) (hm : in3 m 0 (allOf p) = true) (h : (bits .and .i64 b m == b) = true) : in3 b 0 (allOf p) = true := by
 obtain ⟨h64, hc, h1⟩ := pow_le6 p hp
 unfold in3 allOf at hm ⊢
 rw [hc] at hm ⊢
 generalize (2 : Nat) ^ p = q at *
 simp only [Bool.and_eq_true, decide_eq_true_eq, beq_iff_eq] at *
 have hmI : I64 m := by unfold I64; omega
 rw [bits_and] at h
 have e : (BitVec.ofInt 64 b &&& BitVec.ofInt 64 m) = BitVec.ofInt 64 b := by
  apply BitVec.toInt_inj.1
  rw [h, toInt_of b hb]
 have e' := congrArg BitVec.toNat e
 rw [BitVec.toNat_and, bv_of b, bv_of m] at e'
 have : (b % 18446744073709551616).toNat &&& (m % 18446744073709551616).toNat ≤ (m % 18446744073709551616).toNat := Nat.and_le_right
 unfold I64 at hb
 omega

theorem vrow_same (r : VR) (p : Nat) (hr : r.Rng) (hp : p ≤ 6) : (in3 r.i 1 99 && (bits .andNot .i64 r.m (allOf p) == 0) && (bits .andNot .i64 r.b r.m == 0)) = vrowOk (allOf p) r := by
 rw [andNot_mask r.m p hr.2.1 hp, andNot_and r.b r.m hr.2.2]
 unfold vrowOk
 cases h1 : in3 r.i 1 99
 ·rfl
 ·cases h2 : in3 r.m 0 (allOf p)
  ·rfl
  ·cases h3 : (bits .and .i64 r.b r.m == r.b)
   ·simp
   ·rw [and_small r.b r.m p hr.2.2 hp h2 h3]
    rfl

theorem and_pow (n k : Nat) : n &&& 2 ^ k = (n.testBit k).toNat * 2 ^ k := by
 apply Nat.eq_of_testBit_eq
 intro j
 rw [Nat.testBit_and, Nat.testBit_two_pow]
 by_cases h : k = j
 ·subst h
  cases n.testBit k
  ·simp
  ·simp
 ·cases n.testBit k
  ·simp [h]
  ·simp [h]

theorem bit_same (n : Int) (k : Nat) (hk : k ≤ 9) (hn : I64 n) : (bits .and .i64 n (2 ^ k) != 0) = (bits .and .i64 (n / 2 ^ k) 1 == 1) := by
 have h1 : I64 (n / 2 ^ k) := by
  unfold I64 at *
  rcases (show k = 0 ∨ k = 1 ∨ k = 2 ∨ k = 3 ∨ k = 4 ∨ k = 5 ∨ k = 6 ∨ k = 7 ∨ k = 8 ∨ k = 9 by omega) with rfl | rfl | rfl | rfl | rfl | rfl | rfl | rfl | rfl | rfl <;> simp <;> omega
 rw [bits_and, bits_and, bne, Bool.eq_iff_iff]
 simp only [Bool.not_eq_true', beq_eq_false_iff_ne, ne_eq, beq_iff_eq]
 rw [toInt_zero]
 have a1 : (BitVec.ofInt 64 (n / 2 ^ k) &&& BitVec.ofInt 64 1).toNat = (((n / 2 ^ k) % 18446744073709551616).toNat) % 2 := by
  rw [BitVec.toNat_and, bv_of _, show (BitVec.ofInt 64 1).toNat = 2 ^ 1 - 1 from rfl, Nat.and_two_pow_sub_one_eq_mod]
 have a2 : (BitVec.ofInt 64 n &&& BitVec.ofInt 64 (2 ^ k)).toNat = ((n % 18446744073709551616).toNat.testBit k).toNat * 2 ^ k := by
  rw [BitVec.toNat_and, bv_of _, ← and_pow]
  congr 1
  rcases (show k = 0 ∨ k = 1 ∨ k = 2 ∨ k = 3 ∨ k = 4 ∨ k = 5 ∨ k = 6 ∨ k = 7 ∨ k = 8 ∨ k = 9 by omega) with rfl | rfl | rfl | rfl | rfl | rfl | rfl | rfl | rfl | rfl <;> rfl
 have a3 : ((BitVec.ofInt 64 (n / 2 ^ k) &&& BitVec.ofInt 64 1).toInt = 1) ↔ (((n / 2 ^ k) % 18446744073709551616).toNat) % 2 = 1 := by
  rw [← a1, BitVec.toInt_eq_toNat_cond]
  have := (BitVec.ofInt 64 (n / 2 ^ k) &&& BitVec.ofInt 64 1).isLt
  have h2 : (BitVec.ofInt 64 (n / 2 ^ k) &&& BitVec.ofInt 64 1).toNat < 2 := by rw [a1]; omega
  rw [if_pos (by omega)]
  omega
 have a4 : ((BitVec.ofInt 64 n &&& BitVec.ofInt 64 (2 ^ k)) = 0#64) ↔ (n % 18446744073709551616).toNat.testBit k = false := by
  rw [← BitVec.toNat_inj, a2]
  have : 0 < 2 ^ k := Nat.two_pow_pos k
  cases (n % 18446744073709551616).toNat.testBit k
  ·simp
  ·simp
 rw [a3, a4, Bool.not_eq_false, Nat.testBit_eq_decide_div_mod_eq, decide_eq_true_eq]
 unfold I64 at hn
 rcases (show k = 0 ∨ k = 1 ∨ k = 2 ∨ k = 3 ∨ k = 4 ∨ k = 5 ∨ k = 6 ∨ k = 7 ∨ k = 8 ∨ k = 9 by omega) with rfl | rfl | rfl | rfl | rfl | rfl | rfl | rfl | rfl | rfl <;> simp <;> omega

def strUpto (N : Nat) : Value → Bool
 | .string S => decide (S.size ≤ N)
 | _ => false
def strOk (v : Value) : Bool := strUpto 30 v

theorem strUpto_is {N : Nat} {v : Value} (h : strUpto N v = true) : ∃ S : ByteArray, v = .string S ∧ S.size ≤ N := by
 cases v with
 | string S => exact ⟨S, rfl, of_decide_eq_true h⟩
 | _ => cases h

set_option maxRecDepth 100000 in
set_option maxHeartbeats 400000 in
theorem pickS_upto (N : Nat) (C : Nat) (a0 : Option Addr) (l0 c0 : Nat) (z0 : List Int) (cs : Array Value) (B n : Nat) (w : World) (hc : Cur w C a0 l0 c0 z0) (hB : B = w.heap.size) (hn : cs.size = n) (hall : cs.all (strUpto N) = true) (hn0 : 0 < n) (hn1 : n ≤ 1000) :
  Calls Tryz.prog 72 #[.pointer (some ⟨C, 0, none⟩), .slice (some ⟨B, 0, none⟩) n n] (w.alloc (.cells cs 9)) fun e w' => ∃ S : ByteArray, S.size ≤ N ∧ e = .returned (.string S) ∧ Went w w' C a0 l0 c0 z0 := by
 subst hB
 have hb : Below w.heap.size w (w.alloc (.cells cs 9)) := (Below.refl _ _).alloc (Nat.le_refl _) _
 have hst := Went.start hc hb
 have hlt := hc.lt
 have hcell : ∀ j, j < n → ∃ S : ByteArray, (w.alloc (.cells cs 9)).cell? ⟨w.heap.size, j, none⟩ = some (.string S) ∧ S.size ≤ N := by
  intro j hj
  have hj' : j < cs.size := by omega
  have h1 : strUpto N cs[j] = true := (Array.all_eq_true.1 hall) j hj'
  obtain ⟨S, e, hS⟩ := strUpto_is h1
  refine ⟨S, ?_, hS⟩
  have : (w.alloc (.cells cs 9)).cell? ⟨w.heap.size, j, none⟩ = cs[j]? := by simp
  rw [this, Array.getElem?_eq_getElem hj', e]
 have HC := hide hcell
 clear hcell hall
 generalize w.alloc (.cells cs 9) = w1 at *
 go_enter Tryz.func72, Tryz.ntmps72
 go_wp2_with fail
 refine (below_any C a0 l0 c0 z0 n _ hst.cur (by omega)).mono ?_
 rintro e w2 ⟨x, rfl, hx0, hx1, hx2, went⟩
 have hx1 := hx1 (by omega)
 obtain ⟨j, rfl⟩ : ∃ j : Nat, x = j := ⟨x.toNat, by omega⟩
 obtain ⟨S, hS, hSs⟩ := HC.out j (by omega)
 have cx : w2.cell? ⟨w.heap.size, j, none⟩ = some (.string S) := went.grown.cell hS (by intro e; simp at e; omega)
 clear hS
 go_wp2
 go_ret
 exact ⟨S, hSs, rfl, hst.trans went⟩

theorem ent_rng {e : FE} (h : entOk e = true) : e.Rng := by
 rw [entOk_iff] at h
 exact ⟨by omega, by omega, by omega, by omega⟩

def PT.zero : PT := ⟨false, 0, false, ⟨0, 0, 0, 0, 0⟩⟩

theorem pt_put {w : World} {base g n cap : Nat} {pre post : List PT} {x y : PT} (h : w.ownsRow base 44 8 (.slice (some ⟨g, 0, none⟩) n cap) n (ptF.all (pre ++ x :: post))) :
  ((((((((w.setCell ⟨g, pre.length * 8, none⟩ (.bool y.up)).setCell ⟨g, pre.length * 8 + 1, none⟩ (.int .i64 y.k)).setCell ⟨g, pre.length * 8 + 2, none⟩ (.bool y.has)).setCell ⟨g, pre.length * 8 + 3, none⟩ (.int .i64 y.v.r)).setCell ⟨g, pre.length * 8 + 4, none⟩ (.int .i64 y.v.c)).setCell ⟨g, pre.length * 8 + 5, none⟩ (.int .i64 y.v.h)).setCell ⟨g, pre.length * 8 + 6, none⟩ (.int .i64 y.v.b)).setCell ⟨g, pre.length * 8 + 7, none⟩ (.int .i64 y.v.p)).ownsRow base 44 8 (.slice (some ⟨g, 0, none⟩) n cap) n (ptF.all (pre ++ y :: post)) := by
 have R0 := flat_stored (F := ptF) (x' := ⟨y.up, x.k, x.has, ⟨x.v.r, x.v.c, x.v.h, x.v.b, x.v.p⟩⟩) h 0 (.bool y.up) (by decide) rfl
 have R1 := flat_stored (F := ptF) (x' := ⟨y.up, y.k, x.has, ⟨x.v.r, x.v.c, x.v.h, x.v.b, x.v.p⟩⟩) R0 1 (.int .i64 y.k) (by decide) rfl
 have R2 := flat_stored (F := ptF) (x' := ⟨y.up, y.k, y.has, ⟨x.v.r, x.v.c, x.v.h, x.v.b, x.v.p⟩⟩) R1 2 (.bool y.has) (by decide) rfl
 have R3 := flat_stored (F := ptF) (x' := ⟨y.up, y.k, y.has, ⟨y.v.r, x.v.c, x.v.h, x.v.b, x.v.p⟩⟩) R2 3 (.int .i64 y.v.r) (by decide) rfl
 have R4 := flat_stored (F := ptF) (x' := ⟨y.up, y.k, y.has, ⟨y.v.r, y.v.c, x.v.h, x.v.b, x.v.p⟩⟩) R3 4 (.int .i64 y.v.c) (by decide) rfl
 have R5 := flat_stored (F := ptF) (x' := ⟨y.up, y.k, y.has, ⟨y.v.r, y.v.c, y.v.h, x.v.b, x.v.p⟩⟩) R4 5 (.int .i64 y.v.h) (by decide) rfl
 have R6 := flat_stored (F := ptF) (x' := ⟨y.up, y.k, y.has, ⟨y.v.r, y.v.c, y.v.h, y.v.b, x.v.p⟩⟩) R5 6 (.int .i64 y.v.b) (by decide) rfl
 exact flat_stored (F := ptF) (x' := y) R6 7 (.int .i64 y.v.p) (by decide) rfl

theorem grown_set8 {w : World} {g : Nat} (j0 j1 j2 j3 j4 j5 j6 j7 : Nat) (u0 u1 u2 u3 u4 u5 u6 u7 : Value) : w.grownBy ((((((((w.setCell ⟨g, j0, none⟩ u0).setCell ⟨g, j1, none⟩ u1).setCell ⟨g, j2, none⟩ u2).setCell ⟨g, j3, none⟩ u3).setCell ⟨g, j4, none⟩ u4).setCell ⟨g, j5, none⟩ u5).setCell ⟨g, j6, none⟩ u6).setCell ⟨g, j7, none⟩ u7) (some g) :=
 grownTr (grownTr (grownTr (grownTr (grownTr (grownTr (grownTr (grown_set _ _) (grown_set _ _)) (grown_set _ _)) (grown_set _ _)) (grown_set _ _)) (grown_set _ _)) (grown_set _ _)) (grown_set _ _)

theorem pt_cells {w : World} {base g n cap : Nat} {T : TypeId} {l : List PT} (h : w.ownsRow base T 8 (.slice (some ⟨g, 0, none⟩) n cap) n (ptF.all l)) {i : Nat} {x : PT} (hx : l[i]? = some x) :
  (w.cell? ⟨g, i * 8, none⟩ = some (.bool x.up) ∧ w.cell? ⟨g, i * 8 + 1, none⟩ = some (.int .i64 x.k) ∧ w.cell? ⟨g, i * 8 + 2, none⟩ = some (.bool x.has) ∧ w.cell? ⟨g, i * 8 + 3, none⟩ = some (.int .i64 x.v.r) ∧ w.cell? ⟨g, i * 8 + 4, none⟩ = some (.int .i64 x.v.c) ∧ w.cell? ⟨g, i * 8 + 5, none⟩ = some (.int .i64 x.v.h) ∧ w.cell? ⟨g, i * 8 + 6, none⟩ = some (.int .i64 x.v.b) ∧ w.cell? ⟨g, i * 8 + 7, none⟩ = some (.int .i64 x.v.p)) ∧
  (w.frozen? ⟨g, i * 8, none⟩ = false ∧ w.frozen? ⟨g, i * 8 + 1, none⟩ = false ∧ w.frozen? ⟨g, i * 8 + 2, none⟩ = false ∧ w.frozen? ⟨g, i * 8 + 3, none⟩ = false ∧ w.frozen? ⟨g, i * 8 + 4, none⟩ = false ∧ w.frozen? ⟨g, i * 8 + 5, none⟩ = false ∧ w.frozen? ⟨g, i * 8 + 6, none⟩ = false ∧ w.frozen? ⟨g, i * 8 + 7, none⟩ = false) := by
 have c0 := flat_cells (F := ptF) h hx (j := 0) (v := .bool x.up) rfl
 have c1 := flat_cells (F := ptF) h hx (j := 1) (v := .int .i64 x.k) rfl
 have c2 := flat_cells (F := ptF) h hx (j := 2) (v := .bool x.has) rfl
 have c3 := flat_cells (F := ptF) h hx (j := 3) (v := .int .i64 x.v.r) rfl
 have c4 := flat_cells (F := ptF) h hx (j := 4) (v := .int .i64 x.v.c) rfl
 have c5 := flat_cells (F := ptF) h hx (j := 5) (v := .int .i64 x.v.h) rfl
 have c6 := flat_cells (F := ptF) h hx (j := 6) (v := .int .i64 x.v.b) rfl
 have c7 := flat_cells (F := ptF) h hx (j := 7) (v := .int .i64 x.v.p) rfl
 exact ⟨⟨c0.1, c1.1, c2.1, c3.1, c4.1, c5.1, c6.1, c7.1⟩, c0.2, c1.2, c2.2, c3.2, c4.2, c5.2, c6.2, c7.2⟩

theorem pt_head {w : World} {base g n cap : Nat} {x : PT} {t : List PT} (h : w.ownsRow base 44 8 (.slice (some ⟨g, 0, none⟩) n cap) n (ptF.all (x :: t))) :
  (w.cell? ⟨g, 0, none⟩ = some (.bool x.up) ∧ w.cell? ⟨g, 1, none⟩ = some (.int .i64 x.k) ∧ w.cell? ⟨g, 2, none⟩ = some (.bool x.has) ∧ w.cell? ⟨g, 3, none⟩ = some (.int .i64 x.v.r) ∧ w.cell? ⟨g, 4, none⟩ = some (.int .i64 x.v.c) ∧ w.cell? ⟨g, 5, none⟩ = some (.int .i64 x.v.h) ∧ w.cell? ⟨g, 6, none⟩ = some (.int .i64 x.v.b) ∧ w.cell? ⟨g, 7, none⟩ = some (.int .i64 x.v.p)) ∧
  (w.frozen? ⟨g, 0, none⟩ = false ∧ w.frozen? ⟨g, 1, none⟩ = false ∧ w.frozen? ⟨g, 2, none⟩ = false ∧ w.frozen? ⟨g, 3, none⟩ = false ∧ w.frozen? ⟨g, 4, none⟩ = false ∧ w.frozen? ⟨g, 5, none⟩ = false ∧ w.frozen? ⟨g, 6, none⟩ = false ∧ w.frozen? ⟨g, 7, none⟩ = false) := by
 have := pt_cells (i := 0) (x := x) h rfl
 simpa only [Nat.zero_mul, Nat.zero_add] using this

theorem head_put {w : World} {base g n cap : Nat} {x y : PT} {t : List PT} (h : w.ownsRow base 44 8 (.slice (some ⟨g, 0, none⟩) n cap) n (ptF.all (x :: t))) (j : Nat) (u : Value) (hj : j < 8) (hx : (ptF.cs x).set j u = ptF.cs y) :
  (w.setCell ⟨g, j, none⟩ u).ownsRow base 44 8 (.slice (some ⟨g, 0, none⟩) n cap) n (ptF.all (y :: t)) := by
 have := flat_stored (F := ptF) (pre := []) (x' := y) h j u hj hx
 simp only [List.length_nil, Nat.zero_mul, Nat.zero_add, List.nil_append] at this
 exact this

theorem head_heard {w : World} {base g n cap : Nat} {x : PT} {t : List PT} (R K H B P : Int) (h : w.ownsRow base 44 8 (.slice (some ⟨g, 0, none⟩) n cap) n (ptF.all (x :: t))) :
  (((((w.setCell ⟨g, 3, none⟩ (.int .i64 R)).setCell ⟨g, 4, none⟩ (.int .i64 K)).setCell ⟨g, 5, none⟩ (.int .i64 H)).setCell ⟨g, 6, none⟩ (.int .i64 B)).setCell ⟨g, 7, none⟩ (.int .i64 P)).ownsRow base 44 8 (.slice (some ⟨g, 0, none⟩) n cap) n (ptF.all (⟨x.up, x.k, x.has, ⟨R, K, H, B, P⟩⟩ :: t)) :=
 head_put (y := ⟨x.up, x.k, x.has, ⟨R, K, H, B, P⟩⟩) (head_put (y := ⟨x.up, x.k, x.has, ⟨R, K, H, B, x.v.p⟩⟩) (head_put (y := ⟨x.up, x.k, x.has, ⟨R, K, H, x.v.b, x.v.p⟩⟩) (head_put (y := ⟨x.up, x.k, x.has, ⟨R, K, x.v.h, x.v.b, x.v.p⟩⟩) (head_put (y := ⟨x.up, x.k, x.has, ⟨R, x.v.c, x.v.h, x.v.b, x.v.p⟩⟩) h 3 _ (by decide) rfl) 4 _ (by decide) rfl) 5 _ (by decide) rfl) 6 _ (by decide) rfl) 7 _ (by decide) rfl

set_option maxRecDepth 100000 in
set_option maxHeartbeats 4000000 in
theorem l10Any_any (C : Nat) (a0 : Option Addr) (l0 c0 : Nat) (z0 : List Int) (w : World) (hc : Cur w C a0 l0 c0 z0) :
  Calls Tryz.prog 79 #[.pointer (some ⟨C, 0, none⟩)] w fun e w' => ∃ (ao : Option Addr) (cap m : Nat) (l : List PT), e = .returned (.slice ao m cap) ∧ 1 ≤ m ∧ m ≤ 4 ∧ l.length = m ∧ w'.ownsRow w.heap.size 44 8 (.slice ao m cap) m (ptF.all l) ∧ Went w w' C a0 l0 c0 z0 := by
 have hlt := hc.lt
 go_enter Tryz.func79, Tryz.ntmps79
 go_wp2_with fail
 refine (below_any C a0 l0 c0 z0 4 _ hc (by omega)).mono ?_
 rintro e w1 ⟨x, rfl, hx0, hx1, -, wn1⟩
 have hx1 := hx1 (by omega)
 obtain ⟨m, hm⟩ : ∃ m : Nat, 1 + x = (m : Int) := ⟨(1 + x).toNat, by omega⟩
 have h1 : 1 ≤ m := by omega
 have h4 : m ≤ 4 := by omega
 go_wp2_with fail
 refine (l10Draw_any C a0 l0 c0 z0 (m : Int) m _ wn1.cur rfl (by omega)).mono ?_
 rintro e w2 ⟨ao, cap, l, rfl, hl, -, o2, wt⟩
 have wn2 := wn1.trans wt
 have o2 := gown_lt o2 (base' := w.heap.size) wn1.grown.size
 clear wt wn1 hm hx0 hx1
 obtain ⟨g, rfl, hg, -⟩ := flat_addr o2 (by omega)
 obtain ⟨x1, t, rfl⟩ : ∃ x1 t, l = x1 :: t := by
  cases l with
  | nil => simp at hl; omega
  | cons y t => exact ⟨y, t, rfl⟩
 have HG := hide hg
 have hlen : ∀ y : PT, (y :: t).length = m := fun y => by simpa using hl
 have HLEN : Hid (∀ y : PT, (y :: t).length = m) := hide hlen
 have HM := hide hl
 clear hg hlen hl
 go_wp2_with fail
 refine (below_any C a0 l0 c0 z0 12 _ wn2.cur (by omega)).mono ?_
 rintro e w3 ⟨y, rfl, hy0, hy1, -, wt⟩
 have hy1 := hy1 (by omega)
 have wn3 := wn2.trans wt
 have o3 := gown_apart o2 wt.grown (fun b hb => by cases hb; exact hlt)
 clear wt wn2 o2
 have i0 : (0 : Int) < (m : Int) := by omega
 by_cases y0 : y = 0
 ·subst y0
  go_wp2_with fail
  refine (l7Any_any C a0 l0 c0 z0 _ wn3.cur).mono ?_
  rintro e w4 ⟨R, K, H, B, P, rfl, wt⟩
  have wn4 := wn3.trans wt
  have o4 := gown_apart o3 wt.grown (fun b hb => by cases hb; exact hlt)
  clear wt wn3 o3
  obtain ⟨⟨d0, d1, d2, d3, d4, d5, d6, d7⟩, f0, f1, f2, f3, f4, f5, f6, f7⟩ := pt_head o4
  have HO : Hid ((((((w4.setCell ⟨g, 3, none⟩ (.int .i64 R)).setCell ⟨g, 4, none⟩ (.int .i64 K)).setCell ⟨g, 5, none⟩ (.int .i64 H)).setCell ⟨g, 6, none⟩ (.int .i64 B)).setCell ⟨g, 7, none⟩ (.int .i64 P)).ownsRow w.heap.size 44 8 (.slice (some ⟨g, 0, none⟩) m cap) m (ptF.all ((⟨x1.up, x1.k, x1.has, ⟨R, K, H, B, P⟩⟩ : PT) :: t))) := hide (head_heard R K H B P o4)
  have HW := hide (wn4.madeAt (below_set (below_set (below_set (below_set (below_set (Below.refl w.heap.size w4) (g := g) HG.out 3 (.int .i64 R)) (g := g) HG.out 4 (.int .i64 K)) (g := g) HG.out 5 (.int .i64 H)) (g := g) HG.out 6 (.int .i64 B)) (g := g) HG.out 7 (.int .i64 P)) hlt (Nat.le_refl _))
  clear o4 wn4
  go_wp2
  go_ret
  exact ⟨_, cap, m, (⟨x1.up, x1.k, x1.has, ⟨R, K, H, B, P⟩⟩ : PT) :: t, rfl, h1, h4, HLEN.out _, HO.out, HW.out⟩
 by_cases y1 : y = 1
 ·subst y1
  go_wp2_with fail
  refine (pick_any C a0 l0 c0 z0 [0, 1000, 1001] _ _ w3 wn3.cur rfl rfl (by simp) (by simp)).mono ?_
  rintro e w4 ⟨K, -, rfl, wt⟩
  have wn4 := wn3.trans wt
  have o4 := gown_apart o3 wt.grown (fun b hb => by cases hb; exact hlt)
  clear wt wn3 o3
  obtain ⟨⟨d0, d1, d2, d3, d4, d5, d6, d7⟩, f0, f1, f2, f3, f4, f5, f6, f7⟩ := pt_head o4
  have HO : Hid ((w4.setCell ⟨g, 1, none⟩ (.int .i64 K)).ownsRow w.heap.size 44 8 (.slice (some ⟨g, 0, none⟩) m cap) m (ptF.all ((⟨x1.up, K, x1.has, x1.v⟩ : PT) :: t))) := hide (head_put (y := ⟨x1.up, K, x1.has, x1.v⟩) o4 1 _ (by decide) rfl)
  have HW := hide (wn4.madeAt (below_set (Below.refl w.heap.size w4) (g := g) HG.out 1 (.int .i64 K)) hlt (Nat.le_refl _))
  clear o4 wn4
  go_wp2
  go_ret
  exact ⟨_, cap, m, (⟨x1.up, K, x1.has, x1.v⟩ : PT) :: t, rfl, h1, h4, HLEN.out _, HO.out, HW.out⟩
 by_cases y2 : y = 2
 ·subst y2
  obtain ⟨⟨d0, d1, d2, d3, d4, d5, d6, d7⟩, f0, f1, f2, f3, f4, f5, f6, f7⟩ := pt_head o3
  have HO : Hid ((w3.setCell ⟨g, 0, none⟩ (.bool false)).ownsRow w.heap.size 44 8 (.slice (some ⟨g, 0, none⟩) m cap) m (ptF.all ((⟨false, x1.k, x1.has, x1.v⟩ : PT) :: t))) := hide (head_put (y := ⟨false, x1.k, x1.has, x1.v⟩) o3 0 _ (by decide) rfl)
  have HW := hide (wn3.madeAt (below_set (Below.refl w.heap.size w3) (g := g) HG.out 0 (.bool false)) hlt (Nat.le_refl _))
  clear o3 wn3
  go_wp2
  go_ret
  exact ⟨_, cap, m, (⟨false, x1.k, x1.has, x1.v⟩ : PT) :: t, rfl, h1, h4, HLEN.out _, HO.out, HW.out⟩
 have HO := hide o3
 have HW := hide wn3
 clear o3 wn3
 go_wp2
 go_ret
 exact ⟨_, cap, m, x1 :: t, rfl, h1, h4, HLEN.out _, HO.out, HW.out⟩

theorem role_one {id : Int} {l : List PT} (port : Int) : 1 ≤ roleOf id l port ∧ roleOf id l port ≤ 4 := by
 unfold roleOf
 split
 ·split
  ·unfold roleAt
   repeat' split
   all_goals omega
  ·omega
 ·omega

def sendsB (f : Nat → Bool) : Nat → Int
 | 0 => 0
 | k + 1 => if f k = true then bits .or .i64 (sendsB f k) (2 ^ k) else sendsB f k

theorem sends_is (id : Int) (l : List PT) : ∀ k, sendsTo id l k = sendsB (fun i => decide (roleOf id l (i : Int) ≤ 2)) k
 | 0 => rfl
 | k + 1 => by
  rw [sendsTo, sendsB, sends_is id l k]
  simp

theorem sendsB_cut (f g : Nat → Bool) : ∀ k, (∀ i, i < k → f i = g i) → sendsB f k = sendsB g k
 | 0, _ => rfl
 | k + 1, h => by
  rw [sendsB, sendsB, sendsB_cut f g k (fun i hi => h i (by omega)), h k (by omega)]

def six (b0 b1 b2 b3 b4 b5 : Bool) : Nat → Bool
 | 0 => b0
 | 1 => b1
 | 2 => b2
 | 3 => b3
 | 4 => b4
 | _ => b5

def oneMore (n : Int) : Int := if n ≥ 1000000 then n else n + 1

def flushTo (bits : Int) (l : List FE) : Nat → List FE
 | 0 => l
 | k + 1 => if bitOf bits (k : Int) = true then flushTo bits l k else flushF (flushTo bits l k) (k : Int)

def turned (b : BR) : BR := { b with vers := oneMore b.vers, f := flushTo (sendsOf b.id b.ports) b.f b.ports.length }

def thereB (b : BR) (port : Int) : Bool := bridgeOk b && (decide (0 ≤ port) && decide (port ≤ (b.ports.length : Int) - 1))

def hearB (b : BR) (port : Int) (v : VD) : BR :=
 if thereB b port = true then
  match b.ports[port.toNat]? with
  | some x => if (x.up && okVd v) = true then turned { b with ports := b.ports.set port.toNat ⟨x.up, x.k, true, v⟩ } else b
  | none => b
 else b

def linkB (b : BR) (port : Int) (up : Bool) : BR :=
 if thereB b port = true then
  match b.ports[port.toNat]? with
  | some x => turned { b with ports := b.ports.set port.toNat ⟨up, x.k, false, ⟨0, 0, 0, 0, 0⟩⟩ }
  | none => b
 else b

def tickB (b : BR) : BR := if bridgeOk b = true then turned { b with ticks := oneMore b.ticks, f := ageF b.f } else b

theorem in1m_iff (x : Int) : in1m x = true ↔ 0 ≤ x ∧ x ≤ 1000000 := by
 unfold in1m
 simp

theorem flushTo_sub (bits : Int) (l : List FE) : ∀ k, (flushTo bits l k).Sublist l
 | 0 => List.Sublist.refl _
 | k + 1 => by
  rw [flushTo]
  split
  ·exact flushTo_sub bits l k
  ·exact List.Sublist.trans List.filter_sublist (flushTo_sub bits l k)

theorem bridgeOk_parts {b : BR} (h : bridgeOk b = true) : b.ports.all ptOk = true ∧ in3 b.id 1 99 = true ∧ (b.name.size : Int) ≤ 10 ∧ in3 (b.ports.length : Int) 1 6 = true ∧ fdbOk b.f = true ∧ vtabOk b.v (b.ports.length : Int) = true ∧ in1m b.ticks = true ∧ in1m b.parse = true ∧ in1m b.word = true ∧ in1m b.drops = true ∧ in1m b.vers = true := by
 unfold bridgeOk countsOk at h
 simp only [Bool.and_eq_true, decide_eq_true_eq] at h
 obtain ⟨h1, h2, h3, h4, h5, h6, h7, h8, h9, h10, h11⟩ := h
 exact ⟨h1, h2, h3, h4, h5, h6, h7, h8, h9, h10, h11⟩

theorem there_ok {b : BR} {port : Int} (h : thereB b port = true) : bridgeOk b = true := by
 unfold thereB at h
 simp only [Bool.and_eq_true] at h
 exact h.1

set_option maxRecDepth 100000 in
set_option maxHeartbeats 400000 in
theorem numbersOf_any (R C H B P : Int) (w : World) :
  Calls Tryz.prog 90 #[.agg #[.int .i64 R, .int .i64 C, .int .i64 H, .int .i64 B, .int .i64 P]] w fun e w' => e = .returned (.agg #[.int .i64 R, .int .i64 C, .int .i64 H, .int .i64 B, .int .i64 P]) ∧ Below w.heap.size w w' := by
 go_enter Tryz.func90, Tryz.ntmps90
 go_wp2
 exact bodyPost_ret (v := .agg #[.int .i64 R, .int .i64 C, .int .i64 H, .int .i64 B, .int .i64 P]) (by simp [results, Tryz.results90, go_sem, *]) rfl ⟨rfl, below_two _ _ _⟩

set_option maxRecDepth 100000 in
set_option maxHeartbeats 400000 in
theorem numbersOf_at (R C H B P : Int) (w : World) :
  Calls Tryz.prog 90 #[.agg #[.int .i64 R, .int .i64 C, .int .i64 H, .int .i64 B, .int .i64 P]] w fun e w' => e = .returned (.agg #[.int .i64 R, .int .i64 C, .int .i64 H, .int .i64 B, .int .i64 P]) ∧
   w' = (w.alloc (.cells #[.int .i64 R, .int .i64 C, .int .i64 H, .int .i64 B, .int .i64 P] 35)).alloc (.cells #[.int .i64 R, .int .i64 C, .int .i64 H, .int .i64 B, .int .i64 P] 83) := by
 go_enter Tryz.func90, Tryz.ntmps90
 go_wp2
 exact bodyPost_ret (v := .agg #[.int .i64 R, .int .i64 C, .int .i64 H, .int .i64 B, .int .i64 P]) (by simp [results, Tryz.results90, go_sem, *]) rfl ⟨rfl, rfl⟩

set_option maxRecDepth 100000 in
set_option maxHeartbeats 400000 in
theorem vecOf_any (R C H B P : Int) (w : World) :
  Calls Tryz.prog 91 #[.agg #[.int .i64 R, .int .i64 C, .int .i64 H, .int .i64 B, .int .i64 P]] w fun e w' => e = .returned (.agg #[.int .i64 R, .int .i64 C, .int .i64 H, .int .i64 B, .int .i64 P]) ∧ Below w.heap.size w w' := by
 go_enter Tryz.func91, Tryz.ntmps91
 go_wp2
 exact bodyPost_ret (v := .agg #[.int .i64 R, .int .i64 C, .int .i64 H, .int .i64 B, .int .i64 P]) (by simp [results, Tryz.results91, go_sem, *]) rfl ⟨rfl, below_two _ _ _⟩

theorem index5_0 (R C H B P : Int) (w : World) : (Instr.index 83 (.agg #[.int .i64 R, .int .i64 C, .int .i64 H, .int .i64 B, .int .i64 P]) (.int .i64 0)).run Tryz.prog w = .ok (.int .i64 R) w := by kernel_rfl
theorem index5_1 (R C H B P : Int) (w : World) : (Instr.index 83 (.agg #[.int .i64 R, .int .i64 C, .int .i64 H, .int .i64 B, .int .i64 P]) (.int .i64 1)).run Tryz.prog w = .ok (.int .i64 C) w := by kernel_rfl
theorem index5_2 (R C H B P : Int) (w : World) : (Instr.index 83 (.agg #[.int .i64 R, .int .i64 C, .int .i64 H, .int .i64 B, .int .i64 P]) (.int .i64 2)).run Tryz.prog w = .ok (.int .i64 H) w := by kernel_rfl
theorem index5_3 (R C H B P : Int) (w : World) : (Instr.index 83 (.agg #[.int .i64 R, .int .i64 C, .int .i64 H, .int .i64 B, .int .i64 P]) (.int .i64 3)).run Tryz.prog w = .ok (.int .i64 B) w := by kernel_rfl
theorem index5_4 (R C H B P : Int) (w : World) : (Instr.index 83 (.agg #[.int .i64 R, .int .i64 C, .int .i64 H, .int .i64 B, .int .i64 P]) (.int .i64 4)).run Tryz.prog w = .ok (.int .i64 P) w := by kernel_rfl

end Go.Proofs.YtfknffdlmcckkaaGreat
