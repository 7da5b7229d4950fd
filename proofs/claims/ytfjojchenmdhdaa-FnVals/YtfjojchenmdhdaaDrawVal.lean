/-
  A value that is drawn.
-/
import Derived.Test.YtfjojchenmdhdaaDrawStr
import Derived.Test.YtfjojchenmdhdaaDrawOid
import Derived.Test.YtfjojchenmdhdaaValPutMade
import Derived.Test.YtfjojchenmdhdaaValGet
namespace Go.Proofs.Ytfjojchenmdhdaa
open Go.RowKit

/-- A value that was drawn, and its own list. -/
def DrawnV (w w' : World) (C : Nat) (a0 : Option Addr) (l0 c0 : Nat) (z0 : List Int) (e : Ending) : Prop :=
  ∃ (K N : Int) (S : ByteArray) (ao : Option Addr) (n cap : Nat) (zs : List Int), e = .returned (.agg #[.int .i64 K, .int .i64 N, .string S, .slice ao n cap]) ∧ S.size ≤ 30 ∧ n ≤ 11 ∧ zs.length = n ∧ I64s zs ∧ w'.ownsRow w.heap.size 3 1 (.slice ao n cap) n (cI zs) ∧ Went w w' C a0 l0 c0 z0

theorem i64s_nil : I64s [] := by intro z hz; cases hz

theorem clipI (n : Int) : -2147483648 ≤ clip n ∧ clip n ≤ 2147483647 := clip_bd n

set_option maxRecDepth 100000 in
set_option maxHeartbeats 400000 in
theorem l3Int_any (n : Int) (w : World) :
    Calls Try.prog 69 #[.int .i64 n] w fun e w' => e = .returned (.agg #[.int .i64 2, .int .i64 n, .string ⟨#[]⟩, .slice none 0 0]) ∧ Below w.heap.size w w' := by
  go_enter Try.func69, Try.ntmps69
  go_wp2
  exact bodyPost_ret (v := .agg #[.int .i64 2, .int .i64 n, .string ⟨#[]⟩, .slice none 0 0]) (by simp [results, Try.results69, go_sem]) rfl ⟨rfl, below_one _ _⟩

set_option maxRecDepth 100000 in
set_option maxHeartbeats 1000000 in
theorem l3Draw_any (C : Nat) (a0 : Option Addr) (l0 c0 : Nat) (z0 : List Int) (w : World) (hc : Cur w C a0 l0 c0 z0) :
    Calls Try.prog 38 #[.pointer (some ⟨C, 0, none⟩)] w fun e w' => DrawnV w w' C a0 l0 c0 z0 e := by
  have hlt := hc.lt
  have hst := Went.start hc (below_one w (.cells #[.int .i64 0, .int .i64 0, .string ⟨#[]⟩, .slice none 0 0] 26))
  go_enter Try.func38, Try.ntmps38
  go_wp2_with fail
  refine (below_any C a0 l0 c0 z0 6 _ hst.cur (by omega)).mono ?_
  rintro e w1 ⟨x, rfl, hx0, hx1, hx2, went1⟩
  have hx6 := hx1 (by omega)
  have k1 := kept_grown (block_last w (.cells #[.int .i64 0, .int .i64 0, .string ⟨#[]⟩, .slice none 0 0] 26)) went1.grown (fun k hk => by cases hk; omega)
  have wn1 := hst.trans went1
  have m1 : w.heap.size + 1 ≤ w1.heap.size := by have := went1.grown.size; simpa using this
  clear hx1 hx2 hst went1
  by_cases e0 : x = 0
  · subst e0
    obtain ⟨⟨x0, x1, x2, x3⟩, f0, f1, f2, f3⟩ := cells4 k1
    clear k1
    go_wp2
    exact bodyPost_ret (v := .agg #[.int .i64 5, .int .i64 0, .string ⟨#[]⟩, .slice none 0 0]) (by simp [results, Try.results38, go_sem, *]) rfl ⟨5, 0, ⟨#[]⟩, none, 0, 0, [], rfl, Nat.zero_le _, by omega, rfl, i64s_nil, World.ownsRow_nil _ _ _ _, wn1.madeAt (below_set4 (Below.refl _ _) (Nat.le_refl w.heap.size) _ _ _ _) hlt (Nat.le_refl _)⟩
  have t0 : (x == 0) = false := by simp [e0]
  by_cases e12 : x = 1 ∨ x = 2
  · rcases e12 with rfl | rfl
    all_goals
      go_wp2_with fail
      refine (num_any C a0 l0 c0 z0 _ wn1.cur).mono ?_
      rintro e w2 ⟨y, rfl, hy0, hy1, went2⟩
      have k2 := kept_grown k1 went2.grown (fun k hk => by cases hk; omega)
      have wn2 := wn1.trans went2
      clear k1 wn1 went2
      go_wp2_with fail
      refine (clip_any y _).mono ?_
      rintro e w3 ⟨rfl, rfl⟩
      generalize clip y = v at *
      go_wp2_with fail
      refine (l3Int_any v _).mono ?_
      rintro e w4 ⟨rfl, hb4⟩
      obtain ⟨⟨x0, x1, x2, x3⟩, f0, f1, f2, f3⟩ := cells4 (kept_block k2 hb4)
      have wn4 := wn2.made hb4
      clear k2 hb4 wn2
      go_wp2
      exact bodyPost_ret (v := .agg #[.int .i64 2, .int .i64 v, .string ⟨#[]⟩, .slice none 0 0]) (by simp [results, Try.results38, go_sem, *]) rfl ⟨2, v, ⟨#[]⟩, none, 0, 0, [], rfl, Nat.zero_le _, by omega, rfl, i64s_nil, World.ownsRow_nil _ _ _ _, wn4.madeAt (below_set4 (Below.refl _ _) (Nat.le_refl w.heap.size) _ _ _ _) hlt (Nat.le_refl _)⟩
  have t1 : (x == 1) = false := by simp; omega
  have t2 : (x == 2) = false := by simp; omega
  by_cases e3 : x = 3
  · subst e3
    go_wp2_with fail
    refine (pickS_any C a0 l0 c0 z0 _ _ _ w1 wn1.cur rfl ?h1a ?h2a ?h3a ?h4a).mono ?_
    case h1a => rfl
    case h2a => kernel_rfl
    case h3a => decide
    case h4a => decide
    rintro e w2 ⟨S, hS, rfl, went2⟩
    have k2 := kept_grown k1 went2.grown (fun k hk => by cases hk; omega)
    have wn2 := wn1.trans went2
    obtain ⟨⟨x0, x1, x2, x3⟩, f0, f1, f2, f3⟩ := cells4 k2
    clear k1 k2 wn1 went2
    go_wp2
    exact bodyPost_ret (v := .agg #[.int .i64 4, .int .i64 0, .string S, .slice none 0 0]) (by simp [results, Try.results38, go_sem, *]) rfl ⟨4, 0, S, none, 0, 0, [], rfl, hS, by omega, rfl, i64s_nil, World.ownsRow_nil _ _ _ _, wn2.madeAt (below_set4 (Below.refl _ _) (Nat.le_refl w.heap.size) _ _ _ _) hlt (Nat.le_refl _)⟩
  have t3 : (x == 3) = false := by simp [e3]
  by_cases e4 : x = 4
  · subst e4
    go_wp2_with fail
    refine (oidDraw_any C a0 l0 c0 z0 _ wn1.cur).mono ?_
    rintro e w2 ⟨ao, n, cap, zs, rfl, -, hn, hz, hok, how2, went2⟩
    have k2 := kept_grown k1 went2.grown (fun k hk => by cases hk; omega)
    have wn2 := wn1.trans went2
    obtain ⟨⟨x0, x1, x2, x3⟩, f0, f1, f2, f3⟩ := cells4 k2
    have HO := hide (own_lt how2 m1)
    clear k1 k2 wn1 went2 how2
    go_wp2
    have o4 := own_set4 HO.out (g := w.heap.size) (by omega) (.int .i64 6) (.int .i64 0) (.string ⟨#[]⟩) (.slice ao n cap)
    exact bodyPost_ret (v := .agg #[.int .i64 6, .int .i64 0, .string ⟨#[]⟩, .slice ao n cap]) (by simp [results, Try.results38, go_sem, *]) rfl ⟨6, 0, ⟨#[]⟩, ao, n, cap, zs, rfl, Nat.zero_le _, by omega, hz, hok.i64, own_lt o4 (by omega), wn2.madeAt (below_set4 (Below.refl _ _) (Nat.le_refl w.heap.size) _ _ _ _) hlt (Nat.le_refl _)⟩
  have t4 : (x == 4) = false := by simp [e4]
  go_wp2_with fail
  refine (pick_any C a0 l0 c0 z0 [128, 130] _ _ w1 wn1.cur rfl rfl (by simp) (by simp)).mono ?_
  rintro e w2 ⟨y, -, rfl, went2⟩
  have k2 := kept_grown k1 went2.grown (fun k hk => by cases hk; omega)
  have wn2 := wn1.trans went2
  obtain ⟨⟨x0, x1, x2, x3⟩, f0, f1, f2, f3⟩ := cells4 k2
  clear k1 k2 wn1 went2
  go_wp2
  exact bodyPost_ret (v := .agg #[.int .i64 y, .int .i64 0, .string ⟨#[]⟩, .slice none 0 0]) (by simp [results, Try.results38, go_sem, *]) rfl ⟨y, 0, ⟨#[]⟩, none, 0, 0, [], rfl, Nat.zero_le _, by omega, rfl, i64s_nil, World.ownsRow_nil _ _ _ _, wn2.madeAt (below_set4 (Below.refl _ _) (Nat.le_refl w.heap.size) _ _ _ _) hlt (Nat.le_refl _)⟩

end Go.Proofs.Ytfjojchenmdhdaa
