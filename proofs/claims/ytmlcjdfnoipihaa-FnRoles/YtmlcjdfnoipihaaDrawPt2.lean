/-
  What the laws of chapter 10 draw.
-/
import Derived.Test.YtmlcjdfnoipihaaDrawPt
import Derived.Test.YtmlcjdfnoipihaaPtHelp
namespace Go.Proofs.Ytmlcjdfnoipihaa
open Go.RowKit

/-- The first port of an owned row: its cells, none frozen. -/
theorem pt_head {w : World} {base g n cap : Nat} {x : PT} {t : List PT} (h : w.ownsRow base 33 8 (.slice (some ⟨g, 0, none⟩) n cap) n (ptF.all (x :: t))) :
    (w.cell? ⟨g, 0, none⟩ = some (.bool x.up) ∧ w.cell? ⟨g, 1, none⟩ = some (.int .i64 x.k) ∧ w.cell? ⟨g, 2, none⟩ = some (.bool x.has) ∧ w.cell? ⟨g, 3, none⟩ = some (.int .i64 x.v.r) ∧ w.cell? ⟨g, 4, none⟩ = some (.int .i64 x.v.c) ∧ w.cell? ⟨g, 5, none⟩ = some (.int .i64 x.v.h) ∧ w.cell? ⟨g, 6, none⟩ = some (.int .i64 x.v.b) ∧ w.cell? ⟨g, 7, none⟩ = some (.int .i64 x.v.p)) ∧
    (w.frozen? ⟨g, 0, none⟩ = false ∧ w.frozen? ⟨g, 1, none⟩ = false ∧ w.frozen? ⟨g, 2, none⟩ = false ∧ w.frozen? ⟨g, 3, none⟩ = false ∧ w.frozen? ⟨g, 4, none⟩ = false ∧ w.frozen? ⟨g, 5, none⟩ = false ∧ w.frozen? ⟨g, 6, none⟩ = false ∧ w.frozen? ⟨g, 7, none⟩ = false) := by
  have := pt_cells (i := 0) (x := x) h rfl
  simpa only [Nat.zero_mul, Nat.zero_add] using this

/-- One cell of the first port is written. -/
theorem head_put {w : World} {base g n cap : Nat} {x y : PT} {t : List PT} (h : w.ownsRow base 33 8 (.slice (some ⟨g, 0, none⟩) n cap) n (ptF.all (x :: t))) (j : Nat) (u : Value) (hj : j < 8) (hx : (ptF.cs x).set j u = ptF.cs y) :
    (w.setCell ⟨g, j, none⟩ u).ownsRow base 33 8 (.slice (some ⟨g, 0, none⟩) n cap) n (ptF.all (y :: t)) := by
  have := flat_stored (F := ptF) (pre := []) (x' := y) h j u hj hx
  simp only [List.length_nil, Nat.zero_mul, Nat.zero_add, List.nil_append] at this
  exact this

theorem head_heard {w : World} {base g n cap : Nat} {x : PT} {t : List PT} (R K H B P : Int) (h : w.ownsRow base 33 8 (.slice (some ⟨g, 0, none⟩) n cap) n (ptF.all (x :: t))) :
    (((((w.setCell ⟨g, 3, none⟩ (.int .i64 R)).setCell ⟨g, 4, none⟩ (.int .i64 K)).setCell ⟨g, 5, none⟩ (.int .i64 H)).setCell ⟨g, 6, none⟩ (.int .i64 B)).setCell ⟨g, 7, none⟩ (.int .i64 P)).ownsRow base 33 8 (.slice (some ⟨g, 0, none⟩) n cap) n (ptF.all (⟨x.up, x.k, x.has, ⟨R, K, H, B, P⟩⟩ :: t)) :=
  head_put (y := ⟨x.up, x.k, x.has, ⟨R, K, H, B, P⟩⟩) (head_put (y := ⟨x.up, x.k, x.has, ⟨R, K, H, B, x.v.p⟩⟩) (head_put (y := ⟨x.up, x.k, x.has, ⟨R, K, H, x.v.b, x.v.p⟩⟩) (head_put (y := ⟨x.up, x.k, x.has, ⟨R, K, x.v.h, x.v.b, x.v.p⟩⟩) (head_put (y := ⟨x.up, x.k, x.has, ⟨R, x.v.c, x.v.h, x.v.b, x.v.p⟩⟩) h 3 _ (by decide) rfl) 4 _ (by decide) rfl) 5 _ (by decide) rfl) 6 _ (by decide) rfl) 7 _ (by decide) rfl

set_option maxRecDepth 100000 in
set_option maxHeartbeats 4000000 in
theorem l10Any_any (C : Nat) (a0 : Option Addr) (l0 c0 : Nat) (z0 : List Int) (w : World) (hc : Cur w C a0 l0 c0 z0) :
    Calls Try.prog 40 #[.pointer (some ⟨C, 0, none⟩)] w fun e w' => ∃ (ao : Option Addr) (cap m : Nat) (l : List PT), e = .returned (.slice ao m cap) ∧ 1 ≤ m ∧ m ≤ 4 ∧ l.length = m ∧ w'.ownsRow w.heap.size 33 8 (.slice ao m cap) m (ptF.all l) ∧ Went w w' C a0 l0 c0 z0 := by
  have hlt := hc.lt
  go_enter Try.func40, Try.ntmps40
  go_wp2_with fail
  refine (below_any C a0 l0 c0 z0 4 _ hc (by omega)).mono ?_
  rintro e w1 ⟨x, rfl, hx0, hx1, -, wn1⟩
  have hx1 := hx1 (by omega)
  obtain ⟨m, hm⟩ : ∃ m : Nat, 1 + x = (m : Int) := ⟨(1 + x).toNat, by omega⟩
  have h1 : 1 ≤ m := by omega
  have h4 : m ≤ 4 := by omega
  go_wp2_with fail
  refine (l10Draw_any C a0 l0 c0 z0 (m : Int) m _ wn1.cur rfl (by omega)).mono ?_
  rintro e w2 ⟨ao, cap, l, rfl, hl, -, o2, wt⟩
  have wn2 := wn1.trans wt
  have o2 := gown_lt o2 (base' := w.heap.size) wn1.grown.size
  clear wt wn1 hm hx0 hx1
  obtain ⟨g, rfl, hg, -⟩ := flat_addr o2 (by omega)
  obtain ⟨x1, t, rfl⟩ : ∃ x1 t, l = x1 :: t := by
    cases l with
    | nil => simp at hl; omega
    | cons y t => exact ⟨y, t, rfl⟩
  have HG := hide hg
  have hlen : ∀ y : PT, (y :: t).length = m := fun y => by simpa using hl
  have HLEN : Hid (∀ y : PT, (y :: t).length = m) := hide hlen
  have HM := hide hl
  clear hg hlen hl
  go_wp2_with fail
  refine (below_any C a0 l0 c0 z0 12 _ wn2.cur (by omega)).mono ?_
  rintro e w3 ⟨y, rfl, hy0, hy1, -, wt⟩
  have hy1 := hy1 (by omega)
  have wn3 := wn2.trans wt
  have o3 := gown_apart o2 wt.grown (fun b hb => by cases hb; exact hlt)
  clear wt wn2 o2
  have i0 : (0 : Int) < (m : Int) := by omega
  by_cases y0 : y = 0
  · subst y0
    go_wp2_with fail
    refine (l7Any_any C a0 l0 c0 z0 _ wn3.cur).mono ?_
    rintro e w4 ⟨R, K, H, B, P, rfl, wt⟩
    have wn4 := wn3.trans wt
    have o4 := gown_apart o3 wt.grown (fun b hb => by cases hb; exact hlt)
    clear wt wn3 o3
    obtain ⟨⟨d0, d1, d2, d3, d4, d5, d6, d7⟩, f0, f1, f2, f3, f4, f5, f6, f7⟩ := pt_head o4
    have HO : Hid ((((((w4.setCell ⟨g, 3, none⟩ (.int .i64 R)).setCell ⟨g, 4, none⟩ (.int .i64 K)).setCell ⟨g, 5, none⟩ (.int .i64 H)).setCell ⟨g, 6, none⟩ (.int .i64 B)).setCell ⟨g, 7, none⟩ (.int .i64 P)).ownsRow w.heap.size 33 8 (.slice (some ⟨g, 0, none⟩) m cap) m (ptF.all ((⟨x1.up, x1.k, x1.has, ⟨R, K, H, B, P⟩⟩ : PT) :: t))) := hide (head_heard R K H B P o4)
    have HW := hide (wn4.madeAt (below_set (below_set (below_set (below_set (below_set (Below.refl w.heap.size w4) (g := g) HG.out 3 (.int .i64 R)) (g := g) HG.out 4 (.int .i64 K)) (g := g) HG.out 5 (.int .i64 H)) (g := g) HG.out 6 (.int .i64 B)) (g := g) HG.out 7 (.int .i64 P)) hlt (Nat.le_refl _))
    clear o4 wn4
    go_wp2
    go_ret
    exact ⟨_, cap, m, (⟨x1.up, x1.k, x1.has, ⟨R, K, H, B, P⟩⟩ : PT) :: t, rfl, h1, h4, HLEN.out _, HO.out, HW.out⟩

  by_cases y1 : y = 1
  · subst y1
    go_wp2_with fail
    refine (pick_any C a0 l0 c0 z0 [0, 1000, 1001] _ _ w3 wn3.cur rfl rfl (by simp) (by simp)).mono ?_
    rintro e w4 ⟨K, -, rfl, wt⟩
    have wn4 := wn3.trans wt
    have o4 := gown_apart o3 wt.grown (fun b hb => by cases hb; exact hlt)
    clear wt wn3 o3
    obtain ⟨⟨d0, d1, d2, d3, d4, d5, d6, d7⟩, f0, f1, f2, f3, f4, f5, f6, f7⟩ := pt_head o4
    have HO : Hid ((w4.setCell ⟨g, 1, none⟩ (.int .i64 K)).ownsRow w.heap.size 33 8 (.slice (some ⟨g, 0, none⟩) m cap) m (ptF.all ((⟨x1.up, K, x1.has, x1.v⟩ : PT) :: t))) := hide (head_put (y := ⟨x1.up, K, x1.has, x1.v⟩) o4 1 _ (by decide) rfl)
    have HW := hide (wn4.madeAt (below_set (Below.refl w.heap.size w4) (g := g) HG.out 1 (.int .i64 K)) hlt (Nat.le_refl _))
    clear o4 wn4
    go_wp2
    go_ret
    exact ⟨_, cap, m, (⟨x1.up, K, x1.has, x1.v⟩ : PT) :: t, rfl, h1, h4, HLEN.out _, HO.out, HW.out⟩

  by_cases y2 : y = 2
  · subst y2
    obtain ⟨⟨d0, d1, d2, d3, d4, d5, d6, d7⟩, f0, f1, f2, f3, f4, f5, f6, f7⟩ := pt_head o3
    have HO : Hid ((w3.setCell ⟨g, 0, none⟩ (.bool false)).ownsRow w.heap.size 33 8 (.slice (some ⟨g, 0, none⟩) m cap) m (ptF.all ((⟨false, x1.k, x1.has, x1.v⟩ : PT) :: t))) := hide (head_put (y := ⟨false, x1.k, x1.has, x1.v⟩) o3 0 _ (by decide) rfl)
    have HW := hide (wn3.madeAt (below_set (Below.refl w.heap.size w3) (g := g) HG.out 0 (.bool false)) hlt (Nat.le_refl _))
    clear o3 wn3
    go_wp2
    go_ret
    exact ⟨_, cap, m, (⟨false, x1.k, x1.has, x1.v⟩ : PT) :: t, rfl, h1, h4, HLEN.out _, HO.out, HW.out⟩

  have HO := hide o3
  have HW := hide wn3
  clear o3 wn3
  go_wp2
  go_ret
  exact ⟨_, cap, m, x1 :: t, rfl, h1, h4, HLEN.out _, HO.out, HW.out⟩

set_option maxRecDepth 100000 in
set_option maxHeartbeats 2000000 in
theorem drawPtOk_any (a0 : Option Addr) (l0 c0 : Nat) (z0 : List Int) (w : World) (h0 : Row w a0 l0 c0 z0) (hs : l0 ≤ 1048576) :
    Calls Try.prog 17 #[.slice a0 l0 c0] w fun e w' => ∃ x : PT, e = .returned (.agg #[.bool x.up, .int .i64 x.k, .bool x.has, .int .i64 x.v.r, .int .i64 x.v.c, .int .i64 x.v.h, .int .i64 x.v.b, .int .i64 x.v.p]) ∧ Below w.heap.size w w' := by
  generalize hw1 : w.alloc (Obj.cells #[.bool false, .int .i64 0, .bool false, .int .i64 0, .int .i64 0, .int .i64 0, .int .i64 0, .int .i64 0] 33) = w1
  have q1 : Below w.heap.size w w1 := by rw [← hw1]; exact below_one _ _
  have k1 : w1.heap[w.heap.size]? = some (.cells #[.bool false, .int .i64 0, .bool false, .int .i64 0, .int .i64 0, .int .i64 0, .int .i64 0, .int .i64 0] 33) := by rw [← hw1]; exact block_last _ _
  have hz : w.heap.size < w1.heap.size := by rw [← hw1]; simp
  have HZ := hide hz
  clear hz
  go_enter Try.func17, Try.ntmps17
  go_wp2_with fail
  refine (new_any a0 l0 c0 z0 _ (h0.below q1) hs).mono ?_
  rintro e w2 ⟨rfl, hc, hb2⟩
  have k2 := kept_block k1 hb2
  have hlt := hc.lt
  go_wp2_with fail
  refine (l10Any_any _ a0 l0 c0 z0 _ hc).mono ?_
  rintro e w3 ⟨ao, cap, m, l, rfl, h1, h4, hl, o3, wt⟩
  have k3 := kept_grown k2 wt.grown (fun i e => by cases e; have := HZ.out; omega)
  obtain ⟨g, rfl, hg, -⟩ := flat_addr o3 (by omega)
  obtain ⟨x1, t, rfl⟩ : ∃ x1 t, l = x1 :: t := by
    cases l with
    | nil => simp at hl; omega
    | cons y t => exact ⟨y, t, rfl⟩
  obtain ⟨⟨d0, d1, d2, d3, d4, d5, d6, d7⟩, -⟩ := pt_head o3
  obtain ⟨e0, e1, e2, e3, e4, e5, e6, e7⟩ := cells8 k3
  have fr : ∀ j, w3.frozen? ⟨w.heap.size, j, none⟩ = false := fun j => by simp [World.frozen?, k3]
  have f0 := fr 0
  have f1 := fr 1
  have f2 := fr 2
  have f3 := fr 3
  have f4 := fr 4
  have f5 := fr 5
  have f6 := fr 6
  have f7 := fr 7
  have ne1 : ¬ g = w.heap.size := by have := HZ.out; have := hb2.size; omega
  have ne2 : ¬ w.heap.size = g := fun e => ne1 e.symm
  have i0 : (0 : Int) < (m : Int) := by omega
  have hb3 : Below w.heap.size w w3 := gr_trans q1 (hb2.trans (below_of_grown wt.grown (Nat.le_refl _) (Nat.le_of_lt hlt)))
  have HB := hide (below_set (below_set (below_set (below_set (below_set (below_set (below_set (below_set (hb3) (g := w.heap.size) (Nat.le_refl _) 0 (.bool x1.up)) (g := w.heap.size) (Nat.le_refl _) 1 (.int .i64 x1.k)) (g := w.heap.size) (Nat.le_refl _) 2 (.bool x1.has)) (g := w.heap.size) (Nat.le_refl _) 3 (.int .i64 x1.v.r)) (g := w.heap.size) (Nat.le_refl _) 4 (.int .i64 x1.v.c)) (g := w.heap.size) (Nat.le_refl _) 5 (.int .i64 x1.v.h)) (g := w.heap.size) (Nat.le_refl _) 6 (.int .i64 x1.v.b)) (g := w.heap.size) (Nat.le_refl _) 7 (.int .i64 x1.v.p))
  clear fr k1 k2 k3 wt o3 hc hb2 hb3 q1 hlt hg
  go_wp2
  exact bodyPost_ret (v := .agg #[.bool x1.up, .int .i64 x1.k, .bool x1.has, .int .i64 x1.v.r, .int .i64 x1.v.c, .int .i64 x1.v.h, .int .i64 x1.v.b, .int .i64 x1.v.p]) (by simp [results, Try.results17, go_sem, *]) rfl ⟨x1, rfl, HB.out⟩

set_option maxRecDepth 100000 in
set_option maxHeartbeats 2000000 in
theorem drawBestVec_any (a0 : Option Addr) (l0 c0 : Nat) (z0 : List Int) (w : World) (h0 : Row w a0 l0 c0 z0) (hs : l0 ≤ 1048576) :
    Calls Try.prog 18 #[.slice a0 l0 c0] w fun e w' => ∃ (id : Int), ∃ (ao : Option Addr) (cap m : Nat) (l : List PT), e = .returned (.tuple #[.int .i64 id, .slice ao m cap]) ∧ 1 ≤ m ∧ m ≤ 4 ∧ l.length = m ∧ w'.ownsRow w.heap.size 33 8 (.slice ao m cap) m (ptF.all l) ∧ Below w.heap.size w w' := by
  go_enter Try.func18, Try.ntmps18
  go_wp2_with fail
  refine (new_any a0 l0 c0 z0 _ h0 hs).mono ?_
  rintro e w2 ⟨rfl, hc, hb2⟩
  have hlt := hc.lt
  go_wp2_with fail
  refine (pick_any w.heap.size a0 l0 c0 z0 [3, 1, 5, 99] _ _ w2 hc rfl rfl (by simp) (by simp)).mono ?_
  rintro e w3 ⟨id, -, rfl, wn3⟩
  go_wp2_with fail
  refine (l10Any_any w.heap.size a0 l0 c0 z0 _ wn3.cur).mono ?_
  rintro e w4 ⟨ao, cap, m, l, rfl, h1, h4, hl, o4, wt⟩
  have wn4 := wn3.trans wt
  have HB := hide (hb2.trans (below_of_grown wn4.grown (Nat.le_refl _) (Nat.le_of_lt hlt)))
  have HO := hide (gown_lt o4 (base' := w.heap.size) (Nat.le_trans hb2.size wn3.grown.size))
  clear wt wn3 wn4 hc hb2 o4 hlt
  go_wp2
  exact bodyPost_ret (v := .tuple #[.int .i64 id, .slice ao m cap]) (by simp [results, Try.results18, go_sem, *]) rfl ⟨id, ao, cap, m, l, rfl, h1, h4, hl, HO.out, HB.out⟩

set_option maxRecDepth 100000 in
set_option maxHeartbeats 2000000 in
theorem drawSayVec_any (a0 : Option Addr) (l0 c0 : Nat) (z0 : List Int) (w : World) (h0 : Row w a0 l0 c0 z0) (hs : l0 ≤ 1048576) :
    Calls Try.prog 20 #[.slice a0 l0 c0] w fun e w' => ∃ (id port : Int), ∃ (ao : Option Addr) (cap m : Nat) (l : List PT), e = .returned (.tuple #[.int .i64 id, .slice ao m cap, .int .i64 port]) ∧ 1 ≤ m ∧ m ≤ 4 ∧ l.length = m ∧ w'.ownsRow w.heap.size 33 8 (.slice ao m cap) m (ptF.all l) ∧ Below w.heap.size w w' := by
  go_enter Try.func20, Try.ntmps20
  go_wp2_with fail
  refine (new_any a0 l0 c0 z0 _ h0 hs).mono ?_
  rintro e w2 ⟨rfl, hc, hb2⟩
  have hlt := hc.lt
  go_wp2_with fail
  refine (pick_any w.heap.size a0 l0 c0 z0 [3, 1, 5] _ _ w2 hc rfl rfl (by simp) (by simp)).mono ?_
  rintro e w3 ⟨id, -, rfl, wn3⟩
  go_wp2_with fail
  refine (l10Any_any w.heap.size a0 l0 c0 z0 _ wn3.cur).mono ?_
  rintro e w4 ⟨ao, cap, m, l, rfl, h1, h4, hl, o4, wt⟩
  have wn4 := wn3.trans wt
  have o4 := gown_lt o4 (base' := w3.heap.size) (Nat.le_refl _)
  go_wp2_with fail
  refine (below_any w.heap.size a0 l0 c0 z0 4 _ wn4.cur (by omega)).mono ?_
  rintro e w5 ⟨port, rfl, -, -, -, wt5⟩
  have wn5 := wn4.trans wt5
  have o5 := gown_apart o4 wt5.grown (fun b hb => by cases hb; exact Nat.lt_of_lt_of_le hlt wn3.grown.size)
  have HB := hide (hb2.trans (below_of_grown wn5.grown (Nat.le_refl _) (Nat.le_of_lt hlt)))
  have HO := hide (gown_lt o5 (base' := w.heap.size) (Nat.le_trans hb2.size wn3.grown.size))
  clear wt wt5 wn3 wn4 wn5 hc hb2 o4 o5 hlt
  go_wp2
  exact bodyPost_ret (v := .tuple #[.int .i64 id, .slice ao m cap, .int .i64 port]) (by simp [results, Try.results20, go_sem, *]) rfl ⟨id, port, ao, cap, m, l, rfl, h1, h4, hl, HO.out, HB.out⟩

set_option maxRecDepth 100000 in
set_option maxHeartbeats 2000000 in
theorem drawPorts_any (a0 : Option Addr) (l0 c0 : Nat) (z0 : List Int) (w : World) (h0 : Row w a0 l0 c0 z0) (hs : l0 ≤ 1048576) :
    Calls Try.prog 10 #[.slice a0 l0 c0] w fun e w' => ∃ (id : Int) (ao : Option Addr) (cap m : Nat) (l : List PT), e = .returned (.tuple #[.int .i64 id, .slice ao m cap]) ∧ m ≤ 5 ∧ l.length = m ∧ w'.ownsRow w.heap.size 33 8 (.slice ao m cap) m (ptF.all l) ∧ Below w.heap.size w w' := by
  go_enter Try.func10, Try.ntmps10
  go_wp2_with fail
  refine (new_any a0 l0 c0 z0 _ h0 hs).mono ?_
  rintro e w2 ⟨rfl, hc, hb2⟩
  have hlt := hc.lt
  go_wp2_with fail
  refine (below_any w.heap.size a0 l0 c0 z0 6 _ hc (by omega)).mono ?_
  rintro e w3 ⟨id, rfl, hi0, hi1, -, wn3⟩
  have hi1 := hi1 (by omega)
  go_wp2_with fail
  refine (below_any w.heap.size a0 l0 c0 z0 5 _ wn3.cur (by omega)).mono ?_
  rintro e w4 ⟨x, rfl, hx0, hx1, -, wt⟩
  have hx1 := hx1 (by omega)
  have wn4 := wn3.trans wt
  clear wt wn3
  obtain ⟨m, hm⟩ : ∃ m : Nat, 1 + x = (m : Int) := ⟨(1 + x).toNat, by omega⟩
  have h5 : m ≤ 5 := by omega
  go_wp2_with fail
  refine (l10Draw_any w.heap.size a0 l0 c0 z0 (m : Int) m _ wn4.cur rfl (by omega)).mono ?_
  rintro e w5 ⟨ao, cap, l, rfl, hl, -, o5, wt⟩
  have wn5 := wn4.trans wt
  have HB := hide (hb2.trans (below_of_grown wn5.grown (Nat.le_refl _) (Nat.le_of_lt hlt)))
  have HO := hide (gown_lt o5 (base' := w.heap.size) (Nat.le_trans hb2.size wn4.grown.size))
  clear wt wn4 wn5 hc hb2 o5 hlt
  go_wp2
  exact bodyPost_ret (v := .tuple #[.int .i64 (1 + id), .slice ao m cap]) (by simp [results, Try.results10, go_sem, *]) rfl ⟨1 + id, ao, cap, m, l, rfl, h5, hl, HO.out, HB.out⟩

end Go.Proofs.Ytmlcjdfnoipihaa
