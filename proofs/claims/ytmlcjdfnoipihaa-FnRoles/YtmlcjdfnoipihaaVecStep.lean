/-
  A vector that goes a step further: the program's function.
-/
import Derived.Test.YtmlcjdfnoipihaaVecOk
import Derived.Test.YtmlcjdfnoipihaaImplIn
namespace Go.Proofs.Ytmlcjdfnoipihaa
open Go.RowKit

set_option maxRecDepth 100000 in
set_option maxHeartbeats 4000000 in
theorem implStepVec_any (R C H B P k : Int) (w : World) :
    Calls Try.prog 16 #[.agg #[.int .i64 R, .int .i64 C, .int .i64 H, .int .i64 B, .int .i64 P], .int .i64 k] w fun e w' => e = .returned (.tuple #[if stepOk R C H B P k = true then .agg #[.int .i64 R, .int .i64 (C + k), .int .i64 (H + 1), .int .i64 B, .int .i64 P] else .agg #[.int .i64 R, .int .i64 C, .int .i64 H, .int .i64 B, .int .i64 P], .bool (stepOk R C H B P k)]) ∧ Below w.heap.size w w' := by
  cases t1 : okVc R C H B P
  · have e : stepOk R C H B P k = false := by unfold stepOk; rw [t1]; rfl
    rw [e, if_neg (by simp)]
    have T1 := hide t1
    clear e t1
    go_enter Try.func16, Try.ntmps16
    go_wp2_with fail
    refine (implVecOk_any R C H B P _).mono ?_
    rintro e w1 ⟨rfl, hb1⟩
    rw [T1.out]
    have q3 := gr_trans (below_three w _ _ _) hb1
    obtain ⟨k0, k1, k2⟩ := kept_three hb1
    obtain ⟨⟨x0, x1, x2, x3, x4⟩, f0, f1, f2, f3, f4⟩ := cells5 k0
    obtain ⟨⟨y0, y1, y2, y3, y4⟩, g0, g1, g2, g3, g4⟩ := cells5 k1
    have HB := hide q3
    have K1 := hide k1
    have K2 := hide k2
    have K0 := hide k0
    clear hb1 k0 k1 k2 q3
    go_wp2
    exact bodyPost_ret (v := .tuple #[.agg #[.int .i64 R, .int .i64 C, .int .i64 H, .int .i64 B, .int .i64 P], .bool false]) (by simp [results, Try.results16, go_sem, *]) rfl ⟨rfl, below_set5 HB.out (by omega) _ _ _ _ _⟩
  cases t2 : (decide (1 ≤ k) && decide (k ≤ 1000))
  · have e : stepOk R C H B P k = false := by unfold stepOk; rw [t1, t2]; rfl
    rw [e, if_neg (by simp)]
    have T1 := hide t1
    have T2 := hide t2
    clear e t1 t2
    go_enter Try.func16, Try.ntmps16
    go_wp2_with fail
    refine (implVecOk_any R C H B P _).mono ?_
    rintro e w1 ⟨rfl, hb1⟩
    rw [T1.out]
    have q3 := gr_trans (below_three w _ _ _) hb1
    obtain ⟨k0, k1, k2⟩ := kept_three hb1
    obtain ⟨⟨x0, x1, x2, x3, x4⟩, f0, f1, f2, f3, f4⟩ := cells5 k0
    obtain ⟨⟨y0, y1, y2, y3, y4⟩, g0, g1, g2, g3, g4⟩ := cells5 k1
    have HB := hide q3
    have K1 := hide k1
    have K2 := hide k2
    have K0 := hide k0
    clear hb1 k0 k1 k2 q3
    go_wp2_with fail
    refine (implWithin_any k 1 1000 _).mono ?_
    rintro e w2 ⟨rfl, rfl⟩
    rw [T2.out]
    go_wp2
    exact bodyPost_ret (v := .tuple #[.agg #[.int .i64 R, .int .i64 C, .int .i64 H, .int .i64 B, .int .i64 P], .bool false]) (by simp [results, Try.results16, go_sem, *]) rfl ⟨rfl, below_set5 HB.out (by omega) _ _ _ _ _⟩
  obtain ⟨-, o2, o3, -, -⟩ := okVc_parts t1
  have hk : 1 ≤ k ∧ k ≤ 1000 := by simpa using t2
  have es : stepOk R C H B P k = okVc R (C + k) (H + 1) B P := by unfold stepOk; rw [t1, t2]; rfl
  rw [es]
  clear es
  cases t3 : okVc R (C + k) (H + 1) B P
  · rw [if_neg (by simp)]
    have T1 := hide t1
    have T2 := hide t2
    have T3 := hide t3
    clear t1 t2 t3
    go_enter Try.func16, Try.ntmps16
    go_wp2_with fail
    refine (implVecOk_any R C H B P _).mono ?_
    rintro e w1 ⟨rfl, hb1⟩
    rw [T1.out]
    have q3 := gr_trans (below_three w _ _ _) hb1
    obtain ⟨k0, k1, k2⟩ := kept_three hb1
    obtain ⟨⟨x0, x1, x2, x3, x4⟩, f0, f1, f2, f3, f4⟩ := cells5 k0
    obtain ⟨⟨y0, y1, y2, y3, y4⟩, g0, g1, g2, g3, g4⟩ := cells5 k1
    have HB := hide q3
    have K1 := hide k1
    have K2 := hide k2
    have K0 := hide k0
    clear hb1 k0 k1 k2 q3
    go_wp2_with fail
    refine (implWithin_any k 1 1000 _).mono ?_
    rintro e w2 ⟨rfl, rfl⟩
    rw [T2.out]
    obtain ⟨⟨z0, z1, z2, z3, z4⟩, -⟩ := cells5 K2.out
    go_wp2_with fail
    refine (implVecOk_any R (C + k) (H + 1) B P _).mono ?_
    rintro e w3 ⟨rfl, hb3⟩
    rw [T3.out]
    clear x0 x1 x2 x3 x4 f0 f1 f2 f3 f4 y0 y1 y2 y3 y4 g0 g1 g2 g3 g4 z0 z1 z2 z3 z4
    obtain ⟨⟨x0, x1, x2, x3, x4⟩, f0, f1, f2, f3, f4⟩ := cells5 (kept_block K0.out hb3)
    obtain ⟨⟨y0, y1, y2, y3, y4⟩, g0, g1, g2, g3, g4⟩ := cells5 (kept_block K1.out hb3)
    have HB := hide (gr_trans HB.out hb3)
    clear hb3
    go_wp2
    exact bodyPost_ret (v := .tuple #[.agg #[.int .i64 R, .int .i64 C, .int .i64 H, .int .i64 B, .int .i64 P], .bool false]) (by simp [results, Try.results16, go_sem, *]) rfl ⟨rfl, below_set5 HB.out (by omega) _ _ _ _ _⟩
  · rw [if_pos rfl]
    have T1 := hide t1
    have T2 := hide t2
    have T3 := hide t3
    clear t1 t2 t3
    go_enter Try.func16, Try.ntmps16
    go_wp2_with fail
    refine (implVecOk_any R C H B P _).mono ?_
    rintro e w1 ⟨rfl, hb1⟩
    rw [T1.out]
    have q3 := gr_trans (below_three w _ _ _) hb1
    obtain ⟨k0, k1, k2⟩ := kept_three hb1
    obtain ⟨⟨x0, x1, x2, x3, x4⟩, f0, f1, f2, f3, f4⟩ := cells5 k0
    obtain ⟨⟨y0, y1, y2, y3, y4⟩, g0, g1, g2, g3, g4⟩ := cells5 k1
    have HB := hide q3
    have K1 := hide k1
    have K2 := hide k2
    have K0 := hide k0
    clear hb1 k0 k1 k2 q3
    go_wp2_with fail
    refine (implWithin_any k 1 1000 _).mono ?_
    rintro e w2 ⟨rfl, rfl⟩
    rw [T2.out]
    obtain ⟨⟨z0, z1, z2, z3, z4⟩, -⟩ := cells5 K2.out
    go_wp2_with fail
    refine (implVecOk_any R (C + k) (H + 1) B P _).mono ?_
    rintro e w3 ⟨rfl, hb3⟩
    rw [T3.out]
    clear x0 x1 x2 x3 x4 f0 f1 f2 f3 f4 y0 y1 y2 y3 y4 g0 g1 g2 g3 g4 z0 z1 z2 z3 z4
    obtain ⟨⟨x0, x1, x2, x3, x4⟩, f0, f1, f2, f3, f4⟩ := cells5 (kept_block K2.out hb3)
    obtain ⟨⟨y0, y1, y2, y3, y4⟩, g0, g1, g2, g3, g4⟩ := cells5 (kept_block K1.out hb3)
    have HB := hide (gr_trans HB.out hb3)
    clear hb3
    go_wp2
    exact bodyPost_ret (v := .tuple #[.agg #[.int .i64 R, .int .i64 (C + k), .int .i64 (H + 1), .int .i64 B, .int .i64 P], .bool true]) (by simp [results, Try.results16, go_sem, *]) rfl ⟨rfl, below_set5 HB.out (by omega) _ _ _ _ _⟩

end Go.Proofs.Ytmlcjdfnoipihaa
