/-
  Vectors as the specification has them: whether one is right, which is less, one that goes a step further.
-/
import Derived.Test.YtmlcjdfnoipihaaVecHelp
import Derived.Test.YtmlcjdfnoipihaaVecMath
import Derived.Test.YtmlcjdfnoipihaaFrameHelp
namespace Go.Proofs.Ytmlcjdfnoipihaa
open Go.RowKit

theorem okVc_is (R C H B P : Int) : okVc R C H B P = ((decide (1 ≤ R) && decide (R ≤ 99)) && ((decide (0 ≤ C) && decide (C ≤ 100000)) && ((decide (0 ≤ H) && decide (H ≤ 10)) && ((decide (1 ≤ B) && decide (B ≤ 99)) && (decide (0 ≤ P) && decide (P ≤ 7)))))) := by
  unfold okVc
  have e1 : ∀ a x b : Int, decide (a ≤ x ∧ x ≤ b) = (decide (a ≤ x) && decide (x ≤ b)) := fun a x b => by rw [Bool.eq_iff_iff]; simp
  rw [e1, e1, e1, e1, e1]

set_option maxRecDepth 100000 in
set_option maxHeartbeats 2000000 in
theorem specVecOk_any (R C H B P : Int) (w : World) :
    Calls Try.prog 43 #[.agg #[.int .i64 R, .int .i64 C, .int .i64 H, .int .i64 B, .int .i64 P]] w fun e w' => e = .returned (.bool (okVc R C H B P)) ∧ Below w.heap.size w w' := by
  generalize hP : okVc R C H B P = Q
  rw [okVc_is] at hP
  cases t1 : (decide (1 ≤ R) && decide (R ≤ 99))
  · have e : Q = false := by rw [← hP, t1]; rfl
    subst e
    have T1 := hide t1
    clear hP t1
    go_enter Try.func43, Try.ntmps43
    go_wp2_with fail
    refine (within_any R 1 99 _).mono ?_
    rintro e w1 ⟨rfl, rfl⟩
    rw [T1.out]
    go_wp2
    go_ret
    exact ⟨rfl, below_one _ _⟩
  cases t2 : (decide (0 ≤ C) && decide (C ≤ 100000))
  · have e : Q = false := by rw [← hP, t1, t2]; rfl
    subst e
    have T1 := hide t1
    have T2 := hide t2
    clear hP t1 t2
    go_enter Try.func43, Try.ntmps43
    go_wp2_with fail
    refine (within_any R 1 99 _).mono ?_
    rintro e w1 ⟨rfl, rfl⟩
    rw [T1.out]
    go_wp2_with fail
    refine (within_any C 0 100000 _).mono ?_
    rintro e w2 ⟨rfl, rfl⟩
    rw [T2.out]
    go_wp2
    go_ret
    exact ⟨rfl, below_one _ _⟩
  cases t3 : (decide (0 ≤ H) && decide (H ≤ 10))
  · have e : Q = false := by rw [← hP, t1, t2, t3]; rfl
    subst e
    have T1 := hide t1
    have T2 := hide t2
    have T3 := hide t3
    clear hP t1 t2 t3
    go_enter Try.func43, Try.ntmps43
    go_wp2_with fail
    refine (within_any R 1 99 _).mono ?_
    rintro e w1 ⟨rfl, rfl⟩
    rw [T1.out]
    go_wp2_with fail
    refine (within_any C 0 100000 _).mono ?_
    rintro e w2 ⟨rfl, rfl⟩
    rw [T2.out]
    go_wp2_with fail
    refine (within_any H 0 10 _).mono ?_
    rintro e w3 ⟨rfl, rfl⟩
    rw [T3.out]
    go_wp2
    go_ret
    exact ⟨rfl, below_one _ _⟩
  cases t4 : (decide (1 ≤ B) && decide (B ≤ 99))
  · have e : Q = false := by rw [← hP, t1, t2, t3, t4]; rfl
    subst e
    have T1 := hide t1
    have T2 := hide t2
    have T3 := hide t3
    have T4 := hide t4
    clear hP t1 t2 t3 t4
    go_enter Try.func43, Try.ntmps43
    go_wp2_with fail
    refine (within_any R 1 99 _).mono ?_
    rintro e w1 ⟨rfl, rfl⟩
    rw [T1.out]
    go_wp2_with fail
    refine (within_any C 0 100000 _).mono ?_
    rintro e w2 ⟨rfl, rfl⟩
    rw [T2.out]
    go_wp2_with fail
    refine (within_any H 0 10 _).mono ?_
    rintro e w3 ⟨rfl, rfl⟩
    rw [T3.out]
    go_wp2_with fail
    refine (within_any B 1 99 _).mono ?_
    rintro e w4 ⟨rfl, rfl⟩
    rw [T4.out]
    go_wp2
    go_ret
    exact ⟨rfl, below_one _ _⟩
  cases t5 : (decide (0 ≤ P) && decide (P ≤ 7))
  · have e : Q = false := by rw [← hP, t1, t2, t3, t4, t5]; rfl
    subst e
    have T1 := hide t1
    have T2 := hide t2
    have T3 := hide t3
    have T4 := hide t4
    have T5 := hide t5
    clear hP t1 t2 t3 t4 t5
    go_enter Try.func43, Try.ntmps43
    go_wp2_with fail
    refine (within_any R 1 99 _).mono ?_
    rintro e w1 ⟨rfl, rfl⟩
    rw [T1.out]
    go_wp2_with fail
    refine (within_any C 0 100000 _).mono ?_
    rintro e w2 ⟨rfl, rfl⟩
    rw [T2.out]
    go_wp2_with fail
    refine (within_any H 0 10 _).mono ?_
    rintro e w3 ⟨rfl, rfl⟩
    rw [T3.out]
    go_wp2_with fail
    refine (within_any B 1 99 _).mono ?_
    rintro e w4 ⟨rfl, rfl⟩
    rw [T4.out]
    go_wp2_with fail
    refine (within_any P 0 7 _).mono ?_
    rintro e w5 ⟨rfl, rfl⟩
    rw [T5.out]
    go_wp2
    go_ret
    exact ⟨rfl, below_one _ _⟩
  have e : Q = true := by rw [← hP, t1, t2, t3, t4, t5]; rfl
  subst e
  have T1 := hide t1
  have T2 := hide t2
  have T3 := hide t3
  have T4 := hide t4
  have T5 := hide t5
  clear hP t1 t2 t3 t4 t5
  go_enter Try.func43, Try.ntmps43
  go_wp2_with fail
  refine (within_any R 1 99 _).mono ?_
  rintro e w1 ⟨rfl, rfl⟩
  rw [T1.out]
  go_wp2_with fail
  refine (within_any C 0 100000 _).mono ?_
  rintro e w2 ⟨rfl, rfl⟩
  rw [T2.out]
  go_wp2_with fail
  refine (within_any H 0 10 _).mono ?_
  rintro e w3 ⟨rfl, rfl⟩
  rw [T3.out]
  go_wp2_with fail
  refine (within_any B 1 99 _).mono ?_
  rintro e w4 ⟨rfl, rfl⟩
  rw [T4.out]
  go_wp2_with fail
  refine (within_any P 0 7 _).mono ?_
  rintro e w5 ⟨rfl, rfl⟩
  rw [T5.out]
  go_wp2
  go_ret
  exact ⟨rfl, below_one _ _⟩

/-- By Root, then Cost, then Bridge, then Port. -/
def lessVc (R C B P R' C' B' P' : Int) : Bool :=
  if (R != R') = true then decide (R < R') else if (C != C') = true then decide (C < C') else if (B != B') = true then decide (B < B') else decide (P < P')

set_option maxRecDepth 100000 in
set_option maxHeartbeats 2000000 in
theorem specLessVec_any (R C H B P R' C' H' B' P' : Int) (w : World) :
    Calls Try.prog 38 #[.agg #[.int .i64 R, .int .i64 C, .int .i64 H, .int .i64 B, .int .i64 P], .agg #[.int .i64 R', .int .i64 C', .int .i64 H', .int .i64 B', .int .i64 P']] w fun e w' => e = .returned (.bool (lessVc R C B P R' C' B' P')) ∧ Below w.heap.size w w' := by
  cases t1 : (R != R')
  · cases t2 : (C != C')
    · cases t3 : (B != B')
      · have e : lessVc R C B P R' C' B' P' = decide (P < P') := by unfold lessVc; rw [t1, t2, t3]; rfl
        rw [e]
        clear e
        go_enter Try.func38, Try.ntmps38
        go_wp2
        go_ret
        exact ⟨rfl, below_two _ _ _⟩
      · have e : lessVc R C B P R' C' B' P' = decide (B < B') := by unfold lessVc; rw [t1, t2, t3]; rfl
        rw [e]
        clear e
        go_enter Try.func38, Try.ntmps38
        go_wp2
        go_ret
        exact ⟨rfl, below_two _ _ _⟩
    · have e : lessVc R C B P R' C' B' P' = decide (C < C') := by unfold lessVc; rw [t1, t2]; rfl
      rw [e]
      clear e
      go_enter Try.func38, Try.ntmps38
      go_wp2
      go_ret
      exact ⟨rfl, below_two _ _ _⟩
  · have e : lessVc R C B P R' C' B' P' = decide (R < R') := by unfold lessVc; rw [t1]; rfl
    rw [e]
    clear e
    go_enter Try.func38, Try.ntmps38
    go_wp2
    go_ret
    exact ⟨rfl, below_two _ _ _⟩

/-- May a step of this cost be gone from this vector? -/
def stepOk (R C H B P k : Int) : Bool := okVc R C H B P && ((decide (1 ≤ k) && decide (k ≤ 1000)) && okVc R (C + k) (H + 1) B P)

set_option maxRecDepth 100000 in
set_option maxHeartbeats 4000000 in
theorem specStepVec_any (R C H B P k : Int) (w : World) :
    Calls Try.prog 42 #[.agg #[.int .i64 R, .int .i64 C, .int .i64 H, .int .i64 B, .int .i64 P], .int .i64 k] w fun e w' => e = .returned (.tuple #[if stepOk R C H B P k = true then .agg #[.int .i64 R, .int .i64 (C + k), .int .i64 (H + 1), .int .i64 B, .int .i64 P] else .agg #[.int .i64 R, .int .i64 C, .int .i64 H, .int .i64 B, .int .i64 P], .bool (stepOk R C H B P k)]) ∧ Below w.heap.size w w' := by
  have q2 := below_two w (.cells #[.int .i64 R, .int .i64 C, .int .i64 H, .int .i64 B, .int .i64 P] 28) (.cells #[.int .i64 0, .int .i64 0, .int .i64 0, .int .i64 0, .int .i64 0] 28)
  cases t1 : okVc R C H B P
  · have e : stepOk R C H B P k = false := by unfold stepOk; rw [t1]; rfl
    rw [e, if_neg (by simp)]
    have T1 := hide t1
    clear e t1
    go_enter Try.func42, Try.ntmps42
    go_wp2_with fail
    refine (specVecOk_any R C H B P _).mono ?_
    rintro e w1 ⟨rfl, hb1⟩
    rw [T1.out]
    obtain ⟨k0, k1⟩ := kept_two hb1
    obtain ⟨⟨x0, x1, x2, x3, x4⟩, f0, f1, f2, f3, f4⟩ := cells5 k0
    obtain ⟨⟨y0, y1, y2, y3, y4⟩, g0, g1, g2, g3, g4⟩ := cells5 k1
    have HB := hide (gr_trans q2 hb1)
    clear hb1 k0 k1
    go_wp2
    exact bodyPost_ret (v := .tuple #[.agg #[.int .i64 R, .int .i64 C, .int .i64 H, .int .i64 B, .int .i64 P], .bool false]) (by simp [results, Try.results42, go_sem, *]) rfl ⟨rfl, below_set5 HB.out (by omega) _ _ _ _ _⟩
  cases t2 : (decide (1 ≤ k) && decide (k ≤ 1000))
  · have e : stepOk R C H B P k = false := by unfold stepOk; rw [t1, t2]; rfl
    rw [e, if_neg (by simp)]
    have T1 := hide t1
    have T2 := hide t2
    clear e t1 t2
    go_enter Try.func42, Try.ntmps42
    go_wp2_with fail
    refine (specVecOk_any R C H B P _).mono ?_
    rintro e w1 ⟨rfl, hb1⟩
    rw [T1.out]
    obtain ⟨k0, k1⟩ := kept_two hb1
    obtain ⟨⟨x0, x1, x2, x3, x4⟩, f0, f1, f2, f3, f4⟩ := cells5 k0
    obtain ⟨⟨y0, y1, y2, y3, y4⟩, g0, g1, g2, g3, g4⟩ := cells5 k1
    have HB := hide (gr_trans q2 hb1)
    clear hb1 k0 k1
    go_wp2_with fail
    refine (within_any k 1 1000 _).mono ?_
    rintro e w2 ⟨rfl, rfl⟩
    rw [T2.out]
    go_wp2
    exact bodyPost_ret (v := .tuple #[.agg #[.int .i64 R, .int .i64 C, .int .i64 H, .int .i64 B, .int .i64 P], .bool false]) (by simp [results, Try.results42, go_sem, *]) rfl ⟨rfl, below_set5 HB.out (by omega) _ _ _ _ _⟩
  obtain ⟨-, o2, o3, -, -⟩ := okVc_parts t1
  have hk : 1 ≤ k ∧ k ≤ 1000 := by simpa using t2
  have es : stepOk R C H B P k = okVc R (C + k) (H + 1) B P := by unfold stepOk; rw [t1, t2]; rfl
  rw [es]
  clear es
  cases t3 : okVc R (C + k) (H + 1) B P
  · rw [if_neg (by simp)]
    have T1 := hide t1
    have T2 := hide t2
    have T3 := hide t3
    clear t1 t2 t3
    go_enter Try.func42, Try.ntmps42
    go_wp2_with fail
    refine (specVecOk_any R C H B P _).mono ?_
    rintro e w1 ⟨rfl, hb1⟩
    rw [T1.out]
    obtain ⟨k0, k1⟩ := kept_two hb1
    obtain ⟨⟨x0, x1, x2, x3, x4⟩, f0, f1, f2, f3, f4⟩ := cells5 k0
    have HB := hide (gr_trans q2 hb1)
    have K0 := hide k0
    have K1 := hide k1
    clear hb1 k0 k1
    go_wp2_with fail
    refine (within_any k 1 1000 _).mono ?_
    rintro e w2 ⟨rfl, rfl⟩
    rw [T2.out]
    have lt0 := (Array.getElem?_eq_some_iff.1 K0.out).1
    have ne1 : ¬ w.heap.size = w2.heap.size := by omega
    have ne2 : ¬ w2.heap.size = w.heap.size := by omega
    go_wp2_with fail
    refine (specVecOk_any R (C + k) (H + 1) B P _).mono ?_
    rintro e w3 ⟨rfl, hb3⟩
    rw [T3.out]
    clear x0 x1 x2 x3 x4 f0 f1 f2 f3 f4
    have b3 := gr_trans (below_one w2 _) hb3
    obtain ⟨⟨x0, x1, x2, x3, x4⟩, f0, f1, f2, f3, f4⟩ := cells5 (kept_block K0.out b3)
    obtain ⟨⟨y0, y1, y2, y3, y4⟩, g0, g1, g2, g3, g4⟩ := cells5 (kept_block K1.out b3)
    have HB3 := hide (gr_trans HB.out b3)
    clear hb3 b3
    go_wp2
    exact bodyPost_ret (v := .tuple #[.agg #[.int .i64 R, .int .i64 C, .int .i64 H, .int .i64 B, .int .i64 P], .bool false]) (by simp [results, Try.results42, go_sem, *]) rfl ⟨rfl, below_set5 HB3.out (by omega) _ _ _ _ _⟩
  · rw [if_pos rfl]
    have T1 := hide t1
    have T2 := hide t2
    have T3 := hide t3
    clear t1 t2 t3
    go_enter Try.func42, Try.ntmps42
    go_wp2_with fail
    refine (specVecOk_any R C H B P _).mono ?_
    rintro e w1 ⟨rfl, hb1⟩
    rw [T1.out]
    obtain ⟨k0, k1⟩ := kept_two hb1
    obtain ⟨⟨x0, x1, x2, x3, x4⟩, f0, f1, f2, f3, f4⟩ := cells5 k0
    have HB := hide (gr_trans q2 hb1)
    have K0 := hide k0
    have K1 := hide k1
    clear hb1 k0 k1
    go_wp2_with fail
    refine (within_any k 1 1000 _).mono ?_
    rintro e w2 ⟨rfl, rfl⟩
    rw [T2.out]
    have lt0 := (Array.getElem?_eq_some_iff.1 K0.out).1
    have ne1 : ¬ w.heap.size = w2.heap.size := by omega
    have ne2 : ¬ w2.heap.size = w.heap.size := by omega
    go_wp2_with fail
    refine (specVecOk_any R (C + k) (H + 1) B P _).mono ?_
    rintro e w3 ⟨rfl, hb3⟩
    rw [T3.out]
    clear x0 x1 x2 x3 x4 f0 f1 f2 f3 f4
    have b3 := gr_trans (below_one w2 _) hb3
    obtain ⟨⟨x0, x1, x2, x3, x4⟩, f0, f1, f2, f3, f4⟩ := cells5 (kept_block (block_last w2 _) hb3)
    obtain ⟨⟨y0, y1, y2, y3, y4⟩, g0, g1, g2, g3, g4⟩ := cells5 (kept_block K1.out b3)
    have HB3 := hide (gr_trans HB.out b3)
    clear hb3 b3
    go_wp2
    exact bodyPost_ret (v := .tuple #[.agg #[.int .i64 R, .int .i64 (C + k), .int .i64 (H + 1), .int .i64 B, .int .i64 P], .bool true]) (by simp [results, Try.results42, go_sem, *]) rfl ⟨rfl, below_set5 HB3.out (by omega) _ _ _ _ _⟩

end Go.Proofs.Ytmlcjdfnoipihaa
