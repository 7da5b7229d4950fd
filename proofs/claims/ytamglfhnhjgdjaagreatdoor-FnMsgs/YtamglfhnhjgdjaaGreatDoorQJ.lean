/-
  A value that is drawn.
  Any value that is drawn, right or not.
  What is drawn for values: bytes and a value; the bytes of a value, bent, and a place; two values.
  Two values that are drawn.
-/
import Derived.Test.YtamglfhnhjgdjaaGreatDoorQI
import Derived.Test.YtamglfhnhjgdjaaGreatDoorQE
import Derived.Test.YtamglfhnhjgdjaaGreatDoorQF
import Derived.Deep.RegionHeld3
namespace Go.Proofs.YtamglfhnhjgdjaaGreatDoor
open Go.RowKit

/-- A value that was drawn, and its own list. -/
def DrawnV (w w' : World) (C : Nat) (a0 : Option Addr) (l0 c0 : Nat) (z0 : List Int) (e : Ending) : Prop :=
  ∃ (K N : Int) (S : ByteArray) (ao : Option Addr) (n cap : Nat) (zs : List Int), e = .returned (.agg #[.int .i64 K, .int .i64 N, .string S, .slice ao n cap]) ∧ S.size ≤ 30 ∧ n ≤ 11 ∧ zs.length = n ∧ I64s zs ∧ w'.ownsRow w.heap.size 3 1 (.slice ao n cap) n (cI zs) ∧ Went w w' C a0 l0 c0 z0

theorem i64s_nil : I64s [] := by intro z hz; cases hz

theorem clipI (n : Int) : -2147483648 ≤ clip n ∧ clip n ≤ 2147483647 := clip_bd n

set_option maxRecDepth 100000 in
set_option maxHeartbeats 400000 in
theorem l3Int_any (n : Int) (w : World) :
    Calls Tryz.prog 83 #[.int .i64 n] w fun e w' => e = .returned (.agg #[.int .i64 2, .int .i64 n, .string ⟨#[]⟩, .slice none 0 0]) ∧ Below w.heap.size w w' := by
  go_enter Tryz.func83, Tryz.ntmps83
  go_wp2
  exact bodyPost_ret (v := .agg #[.int .i64 2, .int .i64 n, .string ⟨#[]⟩, .slice none 0 0]) (by simp [results, Tryz.results83, go_sem]) rfl ⟨rfl, below_one _ _⟩

set_option maxRecDepth 100000 in
set_option maxHeartbeats 1000000 in
theorem l3Draw_any (C : Nat) (a0 : Option Addr) (l0 c0 : Nat) (z0 : List Int) (w : World) (hc : Cur w C a0 l0 c0 z0) :
    Calls Tryz.prog 60 #[.pointer (some ⟨C, 0, none⟩)] w fun e w' => DrawnV w w' C a0 l0 c0 z0 e := by
  have hlt := hc.lt
  have hst := Went.start hc (below_one w (.cells #[.int .i64 0, .int .i64 0, .string ⟨#[]⟩, .slice none 0 0] 77))
  go_enter Tryz.func60, Tryz.ntmps60
  go_wp2_with fail
  refine (below_any C a0 l0 c0 z0 6 _ hst.cur (by omega)).mono ?_
  rintro e w1 ⟨x, rfl, hx0, hx1, hx2, went1⟩
  have hx6 := hx1 (by omega)
  have k1 := kept_grown (block_last w (.cells #[.int .i64 0, .int .i64 0, .string ⟨#[]⟩, .slice none 0 0] 77)) went1.grown (fun k hk => by cases hk; omega)
  have wn1 := hst.trans went1
  have m1 : w.heap.size + 1 ≤ w1.heap.size := by have := went1.grown.size; simpa using this
  clear hx1 hx2 hst went1
  by_cases e0 : x = 0
  · subst e0
    obtain ⟨⟨x0, x1, x2, x3⟩, f0, f1, f2, f3⟩ := cells4 k1
    clear k1
    go_wp2
    exact bodyPost_ret (v := .agg #[.int .i64 5, .int .i64 0, .string ⟨#[]⟩, .slice none 0 0]) (by simp [results, Tryz.results60, go_sem, *]) rfl ⟨5, 0, ⟨#[]⟩, none, 0, 0, [], rfl, Nat.zero_le _, by omega, rfl, i64s_nil, World.ownsRow_nil _ _ _ _, wn1.madeAt (below_set4 (Below.refl _ _) (Nat.le_refl w.heap.size) _ _ _ _) hlt (Nat.le_refl _)⟩
  have t0 : (x == 0) = false := by simp [e0]
  by_cases e12 : x = 1 ∨ x = 2
  · rcases e12 with rfl | rfl
    all_goals
      go_wp2_with fail
      refine (num_any C a0 l0 c0 z0 _ wn1.cur).mono ?_
      rintro e w2 ⟨y, rfl, hy0, hy1, went2⟩
      have k2 := kept_grown k1 went2.grown (fun k hk => by cases hk; omega)
      have wn2 := wn1.trans went2
      clear k1 wn1 went2
      go_wp2_with fail
      refine (clip_any y _).mono ?_
      rintro e w3 ⟨rfl, rfl⟩
      generalize clip y = v at *
      go_wp2_with fail
      refine (l3Int_any v _).mono ?_
      rintro e w4 ⟨rfl, hb4⟩
      obtain ⟨⟨x0, x1, x2, x3⟩, f0, f1, f2, f3⟩ := cells4 (kept_block k2 hb4)
      have wn4 := wn2.made hb4
      clear k2 hb4 wn2
      go_wp2
      exact bodyPost_ret (v := .agg #[.int .i64 2, .int .i64 v, .string ⟨#[]⟩, .slice none 0 0]) (by simp [results, Tryz.results60, go_sem, *]) rfl ⟨2, v, ⟨#[]⟩, none, 0, 0, [], rfl, Nat.zero_le _, by omega, rfl, i64s_nil, World.ownsRow_nil _ _ _ _, wn4.madeAt (below_set4 (Below.refl _ _) (Nat.le_refl w.heap.size) _ _ _ _) hlt (Nat.le_refl _)⟩
  have t1 : (x == 1) = false := by simp; omega
  have t2 : (x == 2) = false := by simp; omega
  by_cases e3 : x = 3
  · subst e3
    go_wp2_with fail
    refine (pickS_any C a0 l0 c0 z0 _ _ _ w1 wn1.cur rfl ?h1a ?h2a ?h3a ?h4a).mono ?_
    case h1a => rfl
    case h2a => kernel_rfl
    case h3a => decide
    case h4a => decide
    rintro e w2 ⟨S, hS, rfl, went2⟩
    have k2 := kept_grown k1 went2.grown (fun k hk => by cases hk; omega)
    have wn2 := wn1.trans went2
    obtain ⟨⟨x0, x1, x2, x3⟩, f0, f1, f2, f3⟩ := cells4 k2
    clear k1 k2 wn1 went2
    go_wp2
    exact bodyPost_ret (v := .agg #[.int .i64 4, .int .i64 0, .string S, .slice none 0 0]) (by simp [results, Tryz.results60, go_sem, *]) rfl ⟨4, 0, S, none, 0, 0, [], rfl, hS, by omega, rfl, i64s_nil, World.ownsRow_nil _ _ _ _, wn2.madeAt (below_set4 (Below.refl _ _) (Nat.le_refl w.heap.size) _ _ _ _) hlt (Nat.le_refl _)⟩
  have t3 : (x == 3) = false := by simp [e3]
  by_cases e4 : x = 4
  · subst e4
    go_wp2_with fail
    refine (oidDraw_any C a0 l0 c0 z0 _ wn1.cur).mono ?_
    rintro e w2 ⟨ao, n, cap, zs, rfl, -, hn, hz, hok, how2, went2⟩
    have k2 := kept_grown k1 went2.grown (fun k hk => by cases hk; omega)
    have wn2 := wn1.trans went2
    obtain ⟨⟨x0, x1, x2, x3⟩, f0, f1, f2, f3⟩ := cells4 k2
    have HO := hide (own_lt how2 m1)
    clear k1 k2 wn1 went2 how2
    go_wp2
    have o4 := own_set4 HO.out (g := w.heap.size) (by omega) (.int .i64 6) (.int .i64 0) (.string ⟨#[]⟩) (.slice ao n cap)
    exact bodyPost_ret (v := .agg #[.int .i64 6, .int .i64 0, .string ⟨#[]⟩, .slice ao n cap]) (by simp [results, Tryz.results60, go_sem, *]) rfl ⟨6, 0, ⟨#[]⟩, ao, n, cap, zs, rfl, Nat.zero_le _, by omega, hz, hok.i64, own_lt o4 (by omega), wn2.madeAt (below_set4 (Below.refl _ _) (Nat.le_refl w.heap.size) _ _ _ _) hlt (Nat.le_refl _)⟩
  have t4 : (x == 4) = false := by simp [e4]
  go_wp2_with fail
  refine (pick_any C a0 l0 c0 z0 [128, 130] _ _ w1 wn1.cur rfl rfl (by simp) (by simp)).mono ?_
  rintro e w2 ⟨y, -, rfl, went2⟩
  have k2 := kept_grown k1 went2.grown (fun k hk => by cases hk; omega)
  have wn2 := wn1.trans went2
  obtain ⟨⟨x0, x1, x2, x3⟩, f0, f1, f2, f3⟩ := cells4 k2
  clear k1 k2 wn1 went2
  go_wp2
  exact bodyPost_ret (v := .agg #[.int .i64 y, .int .i64 0, .string ⟨#[]⟩, .slice none 0 0]) (by simp [results, Tryz.results60, go_sem, *]) rfl ⟨y, 0, ⟨#[]⟩, none, 0, 0, [], rfl, Nat.zero_le _, by omega, rfl, i64s_nil, World.ownsRow_nil _ _ _ _, wn2.madeAt (below_set4 (Below.refl _ _) (Nat.le_refl w.heap.size) _ _ _ _) hlt (Nat.le_refl _)⟩

/-- What the call owns stays while another block is written. -/
theorem own_other {w : World} {base : Nat} {e : TypeId} {v : Value} {n : Nat} {xs : List Value} (h : w.ownsRow base e 1 v n xs) {g j : Nat} {u : Value} (hne : ∀ k, v.ownBlock = some k → k ≠ g) : (w.setCell ⟨g, j, none⟩ u).ownsRow base e 1 v n xs := by
  refine h.kept (grown_setCell (World.grownBy.refl _ _) j u) ?_
  cases hv : v.ownBlock with
  | none => exact .inl rfl
  | some k => exact .inr (by intro h; cases h; exact hne _ hv rfl)

set_option maxRecDepth 100000 in
set_option maxHeartbeats 1000000 in
theorem l3Any_any (C : Nat) (a0 : Option Addr) (l0 c0 : Nat) (z0 : List Int) (w : World) (hc : Cur w C a0 l0 c0 z0) :
    Calls Tryz.prog 41 #[.pointer (some ⟨C, 0, none⟩)] w fun e w' => DrawnV w w' C a0 l0 c0 z0 e := by
  obtain ⟨i0, hii, hz0, hz1, hz2⟩ := info_parts Tryz.infoU8
  have hlt := hc.lt
  have hst := Went.start hc (below_one w (.cells #[.int .i64 0, .int .i64 0, .string ⟨#[]⟩, .slice none 0 0] 77))
  go_enter Tryz.func41, Tryz.ntmps41
  go_wp2_with fail
  refine (l3Draw_any C a0 l0 c0 z0 _ hst.cur).mono ?_
  rintro e w1 ⟨K, N, S, ao, n, cap, zs, rfl, hS, hn, hz, hi, how1, went1⟩
  have kz := kept_grown (block_last w (.cells #[.int .i64 0, .int .i64 0, .string ⟨#[]⟩, .slice none 0 0] 77)) went1.grown (fun k hk => by cases hk; omega)
  have wn1 := hst.trans went1
  have m1 : w.heap.size + 1 ≤ w1.heap.size := by have := went1.grown.size; simpa using this
  have how1 := own_lt how1 (base' := w.heap.size + 1) (by simp)
  have b1 := how1.lt
  have kz := kept_block kz (below_one w1 (.cells #[.int .i64 K, .int .i64 N, .string S, .slice ao n cap] 77))
  have kv := block_last w1 (.cells #[.int .i64 K, .int .i64 N, .string S, .slice ao n cap] 77)
  have wn1 := wn1.made (below_one w1 (.cells #[.int .i64 K, .int .i64 N, .string S, .slice ao n cap] 77))
  have o1 := own_below how1 (below_one w1 (.cells #[.int .i64 K, .int .i64 N, .string S, .slice ao n cap] 77))
  have m1' : w1.heap.size + 1 ≤ (w1.alloc (.cells #[.int .i64 K, .int .i64 N, .string S, .slice ao n cap] 77)).heap.size := by simp
  clear hst went1 how1
  go_wp2_with fail
  generalize w1.alloc (.cells #[.int .i64 K, .int .i64 N, .string S, .slice ao n cap] 77) = w1' at *
  refine (below_any C a0 l0 c0 z0 12 _ wn1.cur (by omega)).mono ?_
  rintro e w2 ⟨x, rfl, hx0, -, -, went2⟩
  have kz := kept_grown kz went2.grown (fun k hk => by cases hk; omega)
  have kv := kept_grown kv went2.grown (fun k hk => by cases hk; omega)
  have o2 := went2.ownI o1 (by omega)
  have wn2 := wn1.trans went2
  have m2 : w1.heap.size + 1 ≤ w2.heap.size := Nat.le_trans m1' went2.grown.size
  clear went2 wn1 o1 m1'
  by_cases e0 : x = 0
  · subst e0
    go_wp2_with fail
    refine (pick_any C a0 l0 c0 z0 [0, 1, 2, 4, 5, 6, 128, 129, 130] _ _ w2 wn2.cur rfl rfl (by simp) (by simp)).mono ?_
    rintro e w3 ⟨y, -, rfl, went3⟩
    obtain ⟨⟨x0, x1, x2, x3⟩, f0, f1, f2, f3⟩ := cells4 (kept_grown kv went3.grown (fun k hk => by cases hk; omega))
    obtain ⟨⟨y0, y1, y2, y3⟩, g0, g1, g2, g3⟩ := cells4 (kept_grown kz went3.grown (fun k hk => by cases hk; omega))
    have HO := hide (own_other (went3.ownI o2 (by omega)) (g := w1.heap.size) (j := 0) (u := .int .i64 y) (fun k hk => by have := (b1 k hk).2; omega))
    have wn3 := wn2.trans went3
    clear went3 wn2 kz kv o2 b1
    have ne1 : ¬ w1.heap.size = w.heap.size := by omega
    have ne2 : ¬ w.heap.size = w1.heap.size := by omega
    go_wp2
    have o9 := own_set4 (HO.out) (g := w.heap.size) (by omega) (.int .i64 y) (.int .i64 N) (.string S) (.slice ao n cap)
    exact bodyPost_ret (v := .agg #[.int .i64 y, .int .i64 N, .string S, .slice ao n cap]) (by simp [results, Tryz.results41, go_sem, *]) rfl ⟨y, N, S, ao, n, cap, zs, rfl, hS, hn, hz, hi, own_lt o9 (by omega), wn3.madeAt (below_set4 (below_set (Below.refl _ _) (g := w1.heap.size) (by omega) 0 (.int .i64 y)) (Nat.le_refl w.heap.size) _ _ _ _) hlt (Nat.le_refl _)⟩
  have t0 : (x == 0) = false := by simp [e0]
  by_cases e1 : x = 1
  · subst e1
    go_wp2_with fail
    refine (num_any C a0 l0 c0 z0 _ wn2.cur).mono ?_
    rintro e w3 ⟨y, rfl, -, -, went3⟩
    obtain ⟨⟨x0, x1, x2, x3⟩, f0, f1, f2, f3⟩ := cells4 (kept_grown kv went3.grown (fun k hk => by cases hk; omega))
    obtain ⟨⟨y0, y1, y2, y3⟩, g0, g1, g2, g3⟩ := cells4 (kept_grown kz went3.grown (fun k hk => by cases hk; omega))
    have HO := hide (own_other (went3.ownI o2 (by omega)) (g := w1.heap.size) (j := 1) (u := .int .i64 y) (fun k hk => by have := (b1 k hk).2; omega))
    have wn3 := wn2.trans went3
    clear went3 wn2 kz kv o2 b1
    have ne1 : ¬ w1.heap.size = w.heap.size := by omega
    have ne2 : ¬ w.heap.size = w1.heap.size := by omega
    go_wp2
    have o9 := own_set4 (HO.out) (g := w.heap.size) (by omega) (.int .i64 K) (.int .i64 y) (.string S) (.slice ao n cap)
    exact bodyPost_ret (v := .agg #[.int .i64 K, .int .i64 y, .string S, .slice ao n cap]) (by simp [results, Tryz.results41, go_sem, *]) rfl ⟨K, y, S, ao, n, cap, zs, rfl, hS, hn, hz, hi, own_lt o9 (by omega), wn3.madeAt (below_set4 (below_set (Below.refl _ _) (g := w1.heap.size) (by omega) 1 (.int .i64 y)) (Nat.le_refl w.heap.size) _ _ _ _) hlt (Nat.le_refl _)⟩
  have t1 : (x == 1) = false := by simp [e1]
  by_cases e2 : x = 2
  · subst e2
    go_wp2_with fail
    refine (below_any C a0 l0 c0 z0 2 _ wn2.cur (by omega)).mono ?_
    rintro e w3 ⟨y, rfl, hy0, hy1, -, went3⟩
    have hy1 := hy1 (by omega)
    have kv := kept_grown kv went3.grown (fun k hk => by cases hk; omega)
    have kz := kept_grown kz went3.grown (fun k hk => by cases hk; omega)
    have o3 := went3.ownI o2 (by omega)
    have wn3 := wn2.trans went3
    have m3 := went3.grown.size
    clear went3 wn2 o2
    have hy : y = 0 ∨ y = 1 := by omega
    rcases hy with rfl | rfl
    · clear hy0 hy1
      go_wp2_with (at_make; refine wpList_make_full _ rfl _ _ 22 rfl w3.heap.size 5 i0 (.int .u8 0) 1 Tryz.underlying22 hii hz0 hz1 .i64 .i64 _ _ 20 rfl rfl rfl rfl ?c1 ?c2 ?c3 ?_)
      case c1 => first | omega | (rw [hz2]; omega)
      case c2 => unfold maxLen; omega
      case c3 => exact Nat.le_refl _
      intro w4 hown hgrow
      have hb4 : Below w3.heap.size w3 w4 := (Below.refl _ _).grown hgrow (Nat.le_refl _) (by intro k hk; cases hk)
      have hown4 : w4.ownsRow w3.heap.size 5 1 (.slice (some ⟨w3.heap.size, 0, none⟩) 20 20) 20 (cB (List.replicate 20 0)) := by
        have e : cB (List.replicate 20 0) = (madeCells #[.int .u8 0] 20).toList := by rw [toList_madeCells_one]; simp [cB]
        rw [e]; simpa [Value.cells] using hown
      have hcv := conv_row 9 w4 _ 20 20 _ (row_own hown4 (byte_zeros 20)) Tryz.underlying9
      have hS' : (byB (List.replicate 20 0)).size ≤ 30 := by rw [byB_size, List.length_replicate]; omega
      generalize byB (List.replicate 20 0) = S' at hcv hS'
      obtain ⟨⟨x0, x1, x2, x3⟩, f0, f1, f2, f3⟩ := cells4 (kept_block kv hb4)
      obtain ⟨⟨y0, y1, y2, y3⟩, g0, g1, g2, g3⟩ := cells4 (kept_block kz hb4)
      have HO := hide (own_other (own_below o3 hb4) (g := w1.heap.size) (j := 2) (u := .string S') (fun k hk => by have := (b1 k hk).2; omega))
      have wn4 := wn3.made hb4
      clear hown hgrow hown4 hb4 kz kv o3 b1 wn3 hii hz0 hz1 hz2
      have ne1 : ¬ w1.heap.size = w.heap.size := by omega
      have ne2 : ¬ w.heap.size = w1.heap.size := by omega
      go_wp2
      have o9 := own_set4 (HO.out) (g := w.heap.size) (by omega) (.int .i64 K) (.int .i64 N) (.string S') (.slice ao n cap)
      exact bodyPost_ret (v := .agg #[.int .i64 K, .int .i64 N, .string S', .slice ao n cap]) (by simp [results, Tryz.results41, go_sem, *]) rfl ⟨K, N, S', ao, n, cap, zs, rfl, hS', hn, hz, hi, own_lt o9 (by omega), wn4.madeAt (below_set4 (below_set (Below.refl _ _) (g := w1.heap.size) (by omega) 2 (.string S')) (Nat.le_refl w.heap.size) _ _ _ _) hlt (Nat.le_refl _)⟩
    · clear hy0 hy1
      go_wp2_with (at_make; refine wpList_make_full _ rfl _ _ 22 rfl w3.heap.size 5 i0 (.int .u8 0) 1 Tryz.underlying22 hii hz0 hz1 .i64 .i64 _ _ 21 rfl rfl rfl rfl ?c1 ?c2 ?c3 ?_)
      case c1 => first | omega | (rw [hz2]; omega)
      case c2 => unfold maxLen; omega
      case c3 => exact Nat.le_refl _
      intro w4 hown hgrow
      have hb4 : Below w3.heap.size w3 w4 := (Below.refl _ _).grown hgrow (Nat.le_refl _) (by intro k hk; cases hk)
      have hown4 : w4.ownsRow w3.heap.size 5 1 (.slice (some ⟨w3.heap.size, 0, none⟩) 21 21) 21 (cB (List.replicate 21 0)) := by
        have e : cB (List.replicate 21 0) = (madeCells #[.int .u8 0] 21).toList := by rw [toList_madeCells_one]; simp [cB]
        rw [e]; simpa [Value.cells] using hown
      have hcv := conv_row 9 w4 _ 21 21 _ (row_own hown4 (byte_zeros 21)) Tryz.underlying9
      have hS' : (byB (List.replicate 21 0)).size ≤ 30 := by rw [byB_size, List.length_replicate]; omega
      generalize byB (List.replicate 21 0) = S' at hcv hS'
      obtain ⟨⟨x0, x1, x2, x3⟩, f0, f1, f2, f3⟩ := cells4 (kept_block kv hb4)
      obtain ⟨⟨y0, y1, y2, y3⟩, g0, g1, g2, g3⟩ := cells4 (kept_block kz hb4)
      have HO := hide (own_other (own_below o3 hb4) (g := w1.heap.size) (j := 2) (u := .string S') (fun k hk => by have := (b1 k hk).2; omega))
      have wn4 := wn3.made hb4
      clear hown hgrow hown4 hb4 kz kv o3 b1 wn3 hii hz0 hz1 hz2
      have ne1 : ¬ w1.heap.size = w.heap.size := by omega
      have ne2 : ¬ w.heap.size = w1.heap.size := by omega
      go_wp2
      have o9 := own_set4 (HO.out) (g := w.heap.size) (by omega) (.int .i64 K) (.int .i64 N) (.string S') (.slice ao n cap)
      exact bodyPost_ret (v := .agg #[.int .i64 K, .int .i64 N, .string S', .slice ao n cap]) (by simp [results, Tryz.results41, go_sem, *]) rfl ⟨K, N, S', ao, n, cap, zs, rfl, hS', hn, hz, hi, own_lt o9 (by omega), wn4.madeAt (below_set4 (below_set (Below.refl _ _) (g := w1.heap.size) (by omega) 2 (.string S')) (Nat.le_refl w.heap.size) _ _ _ _) hlt (Nat.le_refl _)⟩
  have t2 : (x == 2) = false := by simp [e2]
  by_cases e3 : x = 3
  · subst e3
    go_wp2_with fail
    refine (oidAny_any C a0 l0 c0 z0 _ wn2.cur).mono ?_
    rintro e w3 ⟨ao', n', cap', zs', rfl, -, hn', hz', hi', how3, went3⟩
    obtain ⟨⟨x0, x1, x2, x3⟩, f0, f1, f2, f3⟩ := cells4 (kept_grown kv went3.grown (fun k hk => by cases hk; omega))
    obtain ⟨⟨y0, y1, y2, y3⟩, g0, g1, g2, g3⟩ := cells4 (kept_grown kz went3.grown (fun k hk => by cases hk; omega))
    have HO := hide (own_lt (own_set how3 (g := w1.heap.size) (j := 3) (u := .slice ao' n' cap') (by omega)) (base' := w.heap.size + 1) (by omega))
    have wn3 := wn2.trans went3
    clear went3 wn2 kz kv o2 b1 how3
    have ne1 : ¬ w1.heap.size = w.heap.size := by omega
    have ne2 : ¬ w.heap.size = w1.heap.size := by omega
    go_wp2
    have o9 := own_set4 (HO.out) (g := w.heap.size) (by omega) (.int .i64 K) (.int .i64 N) (.string S) (.slice ao' n' cap')
    exact bodyPost_ret (v := .agg #[.int .i64 K, .int .i64 N, .string S, .slice ao' n' cap']) (by simp [results, Tryz.results41, go_sem, *]) rfl ⟨K, N, S, ao', n', cap', zs', rfl, hS, hn', hz', hi', own_lt o9 (by omega), wn3.madeAt (below_set4 (below_set (Below.refl _ _) (g := w1.heap.size) (by omega) 3 (.slice ao' n' cap')) (Nat.le_refl w.heap.size) _ _ _ _) hlt (Nat.le_refl _)⟩
  have t3 : (x == 3) = false := by simp [e3]
  obtain ⟨⟨x0, x1, x2, x3⟩, f0, f1, f2, f3⟩ := cells4 kv
  obtain ⟨⟨y0, y1, y2, y3⟩, g0, g1, g2, g3⟩ := cells4 kz
  have HO := hide o2
  clear o2 kz kv b1
  have ne1 : ¬ w1.heap.size = w.heap.size := by omega
  have ne2 : ¬ w.heap.size = w1.heap.size := by omega
  go_wp2
  have o9 := own_set4 (HO.out) (g := w.heap.size) (by omega) (.int .i64 K) (.int .i64 N) (.string S) (.slice ao n cap)
  exact bodyPost_ret (v := .agg #[.int .i64 K, .int .i64 N, .string S, .slice ao n cap]) (by simp [results, Tryz.results41, go_sem, *]) rfl ⟨K, N, S, ao, n, cap, zs, rfl, hS, hn, hz, hi, own_lt o9 (by omega), wn2.madeAt (below_set4 (Below.refl _ _) (Nat.le_refl w.heap.size) _ _ _ _) hlt (Nat.le_refl _)⟩

def DrawnBV (w w' : World) (e : Ending) : Prop :=
  ∃ (a1 : Option Addr) (n1 c1 : Nat) (z1 : List Int) (K N : Int) (S : ByteArray) (ao : Option Addr) (n cap : Nat) (zs : List Int), e = .returned (.tuple #[.slice a1 n1 c1, .agg #[.int .i64 K, .int .i64 N, .string S, .slice ao n cap]]) ∧ n1 ≤ 9 ∧ S.size ≤ 30 ∧ n ≤ 11 ∧ Row w' a1 n1 c1 z1 ∧ IRow w' ao n cap zs ∧ Below w.heap.size w w'

def DrawnVV (w w' : World) (e : Ending) : Prop :=
  ∃ (K N : Int) (S : ByteArray) (ao : Option Addr) (n cap : Nat) (zs : List Int) (K' N' : Int) (S' : ByteArray) (ao' : Option Addr) (n' cap' : Nat) (zs' : List Int), e = .returned (.tuple #[.agg #[.int .i64 K, .int .i64 N, .string S, .slice ao n cap], .agg #[.int .i64 K', .int .i64 N', .string S', .slice ao' n' cap']]) ∧ IRow w' ao n cap zs ∧ IRow w' ao' n' cap' zs' ∧ Below w.heap.size w w'

end Go.Proofs.YtamglfhnhjgdjaaGreatDoor
