/-
  Which of two vectors is less: the program's function, by Go's own cmp.Compare and cmp.Or.
-/
import Derived.Test.YtmlcjdfnoipihaaVecSpec
import Derived.Deep.RegionHeld3
namespace Go.Proofs.Ytmlcjdfnoipihaa
open Go.RowKit

/-- How two numbers stand to each other: -1, 0, 1. -/
def cmpI (a b : Int) : Int := if a < b then -1 else if b < a then 1 else 0

set_option maxRecDepth 100000 in
set_option maxHeartbeats 400000 in
theorem isNaN_any (a : Int) (w : World) : Calls Try.prog 53 #[.int .i64 a] w fun e w' => e = .returned (.bool false) ∧ w' = w := by
  go_enter Try.func53, Try.ntmps53
  go_wp2
  go_ret
  exact ⟨ret_bool (by simp), rfl⟩

set_option maxRecDepth 100000 in
set_option maxHeartbeats 1000000 in
theorem compareI_any (a b : Int) (w : World) : Calls Try.prog 50 #[.int .i64 a, .int .i64 b] w fun e w' => e = .returned (.int .i64 (cmpI a b)) ∧ w' = w := by
  by_cases h1 : a < b
  · rw [show cmpI a b = -1 from if_pos h1]
    go_enter Try.func50, Try.ntmps50
    go_wp2_with fail
    refine (isNaN_any a _).mono ?_
    rintro e w1 ⟨rfl, rfl⟩
    go_wp2_with fail
    refine (isNaN_any b _).mono ?_
    rintro e w2 ⟨rfl, rfl⟩
    go_wp2
    go_ret
    exact ⟨rfl, rfl⟩
  by_cases h2 : b < a
  · rw [show cmpI a b = 1 by unfold cmpI; rw [if_neg h1, if_pos h2]]
    go_enter Try.func50, Try.ntmps50
    go_wp2_with fail
    refine (isNaN_any a _).mono ?_
    rintro e w1 ⟨rfl, rfl⟩
    go_wp2_with fail
    refine (isNaN_any b _).mono ?_
    rintro e w2 ⟨rfl, rfl⟩
    go_wp2
    go_ret
    exact ⟨rfl, rfl⟩
  · rw [show cmpI a b = 0 by unfold cmpI; rw [if_neg h1, if_neg h2]]
    go_enter Try.func50, Try.ntmps50
    go_wp2_with fail
    refine (isNaN_any a _).mono ?_
    rintro e w1 ⟨rfl, rfl⟩
    go_wp2_with fail
    refine (isNaN_any b _).mono ?_
    rintro e w2 ⟨rfl, rfl⟩
    go_wp2
    go_ret
    exact ⟨rfl, rfl⟩

/-- The first of four that is not 0. -/
def or4 (a b c d : Int) : Int := if ¬ a = 0 then a else if ¬ b = 0 then b else if ¬ c = 0 then c else d

set_option maxRecDepth 100000 in
set_option maxHeartbeats 2000000 in
theorem or4_any (a b c d : Int) (g : Nat) (w : World) (hb : w.heap[g]? = some (.cells #[.int .i64 a, .int .i64 b, .int .i64 c, .int .i64 d] 3)) :
    Calls Try.prog 49 #[.slice (some ⟨g, 0, none⟩) 4 4] w fun e w' => e = .returned (.int .i64 (or4 a b c d)) ∧ w' = w := by
  obtain ⟨⟨x0, x1, x2, x3⟩, -⟩ := cells4 hb
  generalize ho : or4 a b c d = o
  have HO := hide ho
  clear ho hb
  go_enter Try.func49, Try.ntmps49
  go_wp2
  go_loop [8] (fun i => ∃ k : Nat, k ≤ 4 ∧ i = .int .i64 k ∧ (1 ≤ k → a = 0) ∧ (2 ≤ k → b = 0) ∧ (3 ≤ k → c = 0) ∧ (4 ≤ k → d = 0)) (fun i => 4 - (intOf i).toNat)
  case atStart => exact ⟨0, Nat.zero_le _, rfl, by omega, by omega, by omega, by omega⟩
  case round =>
    obtain ⟨k, hk, hi, e1, e2, e3, e4⟩ := hrel
    rcases (show k = 0 ∨ k = 1 ∨ k = 2 ∨ k = 3 ∨ k = 4 by omega) with rfl | rfl | rfl | rfl | rfl
    · have hi : _ = Value.int .i64 0 := hi
      subst hi
      clear e1 e2 e3 e4
      by_cases h0 : a = 0
      · have t0 : (a != 0) = false := by simp [h0]
        have H0 := hide h0
        clear h0
        go_wp2
        go_round
        case rel => exact ⟨1, by omega, by go_num, fun _ => H0.out, by omega, by omega, by omega⟩
        case measure => simp [intOf]
      · have t0 : (a != 0) = true := by simp [h0]
        have H0 := hide h0
        clear h0
        go_wp2
        go_ret
        have := HO.out
        unfold or4 at this
        rw [if_pos H0.out] at this
        exact ⟨(by rw [← this]; rfl), rfl⟩
    · have hi : _ = Value.int .i64 1 := hi
      subst hi
      have h1 := hide (e1 (by omega))
      clear e1 e2 e3 e4
      by_cases h0 : b = 0
      · have t0 : (b != 0) = false := by simp [h0]
        have H0 := hide h0
        clear h0
        go_wp2
        go_round
        case rel => exact ⟨2, by omega, by go_num, fun _ => h1.out, fun _ => H0.out, by omega, by omega⟩
        case measure => simp [intOf]
      · have t0 : (b != 0) = true := by simp [h0]
        have H0 := hide h0
        clear h0
        go_wp2
        go_ret
        have := HO.out
        unfold or4 at this
        rw [if_neg (fun h => h h1.out), if_pos H0.out] at this
        exact ⟨(by rw [← this]; rfl), rfl⟩
    · have hi : _ = Value.int .i64 2 := hi
      subst hi
      have h1 := hide (e1 (by omega))
      have h2 := hide (e2 (by omega))
      clear e1 e2 e3 e4
      by_cases h0 : c = 0
      · have t0 : (c != 0) = false := by simp [h0]
        have H0 := hide h0
        clear h0
        go_wp2
        go_round
        case rel => exact ⟨3, by omega, by go_num, fun _ => h1.out, fun _ => h2.out, fun _ => H0.out, by omega⟩
        case measure => simp [intOf]
      · have t0 : (c != 0) = true := by simp [h0]
        have H0 := hide h0
        clear h0
        go_wp2
        go_ret
        have := HO.out
        unfold or4 at this
        rw [if_neg (fun h => h h1.out), if_neg (fun h => h h2.out), if_pos H0.out] at this
        exact ⟨(by rw [← this]; rfl), rfl⟩
    · have hi : _ = Value.int .i64 3 := hi
      subst hi
      have h1 := hide (e1 (by omega))
      have h2 := hide (e2 (by omega))
      have h3 := hide (e3 (by omega))
      clear e1 e2 e3 e4
      by_cases h0 : d = 0
      · have t0 : (d != 0) = false := by simp [h0]
        have H0 := hide h0
        clear h0
        go_wp2
        go_round
        case rel => exact ⟨4, by omega, by go_num, fun _ => h1.out, fun _ => h2.out, fun _ => h3.out, fun _ => H0.out⟩
        case measure => simp [intOf]
      · have t0 : (d != 0) = true := by simp [h0]
        clear h0
        go_wp2
        go_ret
        have := HO.out
        unfold or4 at this
        rw [if_neg (fun h => h h1.out), if_neg (fun h => h h2.out), if_neg (fun h => h h3.out)] at this
        exact ⟨(by rw [← this]; rfl), rfl⟩
    · have hi : _ = Value.int .i64 4 := hi
      subst hi
      have h1 := hide (e1 (by omega))
      have h2 := hide (e2 (by omega))
      have h3 := hide (e3 (by omega))
      have h4 := hide (e4 (by omega))
      clear e1 e2 e3 e4
      go_wp2
      go_ret
      have := HO.out
      unfold or4 at this
      rw [if_neg (fun h => h h1.out), if_neg (fun h => h h2.out), if_neg (fun h => h h3.out), h4.out] at this
      exact ⟨(by rw [← this]; rfl), rfl⟩

theorem or4_less (R C B P R' C' B' P' : Int) : decide (or4 (cmpI R R') (cmpI C C') (cmpI B B') (cmpI P P') < 0) = lessVc R C B P R' C' B' P' := by
  have z : ∀ a b : Int, (cmpI a b = 0 ↔ a = b) ∧ (cmpI a b < 0 ↔ a < b) := by
    intro a b
    unfold cmpI
    constructor <;> split <;> (try split) <;> omega
  obtain ⟨a1, a2⟩ := z R R'
  obtain ⟨b1, b2⟩ := z C C'
  obtain ⟨c1, c2⟩ := z B B'
  obtain ⟨d1, d2⟩ := z P P'
  unfold or4 lessVc
  generalize cmpI R R' = x at *
  generalize cmpI C C' = y at *
  generalize cmpI B B' = u at *
  generalize cmpI P P' = v at *
  by_cases h1 : R = R'
  · have e1 : x = 0 := a1.2 h1
    have t1 : (R != R') = false := by simp [h1]
    rw [if_neg (by simp [e1] : ¬ ¬ x = 0), t1, if_neg Bool.false_ne_true]
    by_cases h2 : C = C'
    · have e2 : y = 0 := b1.2 h2
      have t2 : (C != C') = false := by simp [h2]
      rw [if_neg (by simp [e2] : ¬ ¬ y = 0), t2, if_neg Bool.false_ne_true]
      by_cases h3 : B = B'
      · have e3 : u = 0 := c1.2 h3
        have t3 : (B != B') = false := by simp [h3]
        rw [if_neg (by simp [e3] : ¬ ¬ u = 0), t3, if_neg Bool.false_ne_true]
        exact decide_eq_decide.2 d2
      · have e3 : ¬ u = 0 := fun h => h3 (c1.1 h)
        have t3 : (B != B') = true := by simp [h3]
        rw [if_pos e3, t3, if_pos rfl]
        exact decide_eq_decide.2 c2
    · have e2 : ¬ y = 0 := fun h => h2 (b1.1 h)
      have t2 : (C != C') = true := by simp [h2]
      rw [if_pos e2, t2, if_pos rfl]
      exact decide_eq_decide.2 b2
  · have e1 : ¬ x = 0 := fun h => h1 (a1.1 h)
    have t1 : (R != R') = true := by simp [h1]
    rw [if_pos e1, t1, if_pos rfl]
    exact decide_eq_decide.2 a2

set_option maxRecDepth 100000 in
set_option maxHeartbeats 2000000 in
theorem implLessVec_any (R C H B P R' C' H' B' P' : Int) (w : World) :
    Calls Try.prog 35 #[.agg #[.int .i64 R, .int .i64 C, .int .i64 H, .int .i64 B, .int .i64 P], .agg #[.int .i64 R', .int .i64 C', .int .i64 H', .int .i64 B', .int .i64 P']] w fun e w' => e = .returned (.bool (lessVc R C B P R' C' B' P')) ∧ Below w.heap.size w w' := by
  have q2 := below_two w (.cells #[.int .i64 R, .int .i64 C, .int .i64 H, .int .i64 B, .int .i64 P] 28) (.cells #[.int .i64 R', .int .i64 C', .int .i64 H', .int .i64 B', .int .i64 P'] 28)
  obtain ⟨k0, k1⟩ := kept_two (Below.refl _ ((w.alloc (.cells #[.int .i64 R, .int .i64 C, .int .i64 H, .int .i64 B, .int .i64 P] 28)).alloc (.cells #[.int .i64 R', .int .i64 C', .int .i64 H', .int .i64 B', .int .i64 P'] 28)))
  have HL := hide (or4_less R C B P R' C' B' P')
  generalize lessVc R C B P R' C' B' P' = L at *
  go_enter Try.func35, Try.ntmps35
  go_wp2_with fail
  generalize ((w.alloc (.cells #[.int .i64 R, .int .i64 C, .int .i64 H, .int .i64 B, .int .i64 P] 28)).alloc (.cells #[.int .i64 R', .int .i64 C', .int .i64 H', .int .i64 B', .int .i64 P'] 28)) = wb at *
  obtain ⟨⟨x0, x1, x2, x3, x4⟩, -⟩ := cells5 k0
  obtain ⟨⟨y0, y1, y2, y3, y4⟩, -⟩ := cells5 k1
  clear k0 k1
  go_region_held3 (fun W => (W.cell? ⟨w.heap.size, 0, none⟩ = some (.int .i64 R) ∧ W.cell? ⟨w.heap.size, 1, none⟩ = some (.int .i64 C) ∧ W.cell? ⟨w.heap.size, 3, none⟩ = some (.int .i64 B) ∧ W.cell? ⟨w.heap.size, 4, none⟩ = some (.int .i64 P)) ∧ (W.cell? ⟨w.heap.size + 1, 0, none⟩ = some (.int .i64 R') ∧ W.cell? ⟨w.heap.size + 1, 1, none⟩ = some (.int .i64 C') ∧ W.cell? ⟨w.heap.size + 1, 3, none⟩ = some (.int .i64 B') ∧ W.cell? ⟨w.heap.size + 1, 4, none⟩ = some (.int .i64 P'))) (first | assumption | go_keep) (first
    | (go_at_call 50; refine (compareI_any _ _ _).mono ?_; rintro e w1 ⟨rfl, rfl⟩)
    | (go_at_call 49; refine (or4_any (cmpI R R') (cmpI C C') (cmpI B B') (cmpI P P') wb.heap.size _ (drew_block (block_last wb _))).mono ?_; rintro e w2 ⟨rfl, rfl⟩))
  go_wp2
  go_ret
  exact ⟨ret_bool HL.out, gr_drew (gr_alloc q2 _)⟩

end Go.Proofs.Ytmlcjdfnoipihaa
