/-
  Packed: VecOk VecStep PtOkI VecLess PtBestI PtRoleI PtSendsI.
-/
import Derived.Test.YtdmplbmfkliiiaaGreatPNKW
import Derived.Test.YtdmplbmfkliiiaaGreatPNK01
import Derived.Test.YtdmplbmfkliiiaaGreatPNK02
import Derived.Test.YtdmplbmfkliiiaaGreatPNK03
import Derived.Test.YtdmplbmfkliiiaaGreatPNK04
import Derived.Deep.RegionHeld3
namespace Go.Proofs.YtdmplbmfkliiiaaGreat
open Go.RowKit

theorem cl_same (n lo hi : Int) (h : lo ≤ hi) : (n == cl n lo hi) = (decide (lo ≤ n) && decide (n ≤ hi)) := by
 unfold cl
 rw [Bool.eq_iff_iff]
 simp
 omega

theorem okVc_near (R C H B P : Int) : ((R == cl R 1 99) && ((C == cl C 0 100000) && ((H == cl H 0 10) && ((B == cl B 1 99) && (P == cl P 0 7))))) = okVc R C H B P := by
 rw [okVc_is, cl_same _ _ _ (by omega), cl_same _ _ _ (by omega), cl_same _ _ _ (by omega), cl_same _ _ _ (by omega), cl_same _ _ _ (by omega)]

set_option maxRecDepth 100000 in
set_option maxHeartbeats 2000000 in
theorem implVecOk_any (R C H B P : Int) (w : World) :
  Calls Tryz.prog 86 #[.agg #[.int .i64 R, .int .i64 C, .int .i64 H, .int .i64 B, .int .i64 P]] w fun e w' => e = .returned (.bool (okVc R C H B P)) ∧ Below w.heap.size w w' := by
 have k0 := block_last w (.cells #[.int .i64 R, .int .i64 C, .int .i64 H, .int .i64 B, .int .i64 P] 82)
 have q0 := below_one w (.cells #[.int .i64 R, .int .i64 C, .int .i64 H, .int .i64 B, .int .i64 P] 82)
 have he : ∀ W, (binOp .eql 82 (.agg #[.int .i64 R, .int .i64 C, .int .i64 H, .int .i64 B, .int .i64 P]) (.agg #[.int .i64 (cl R 1 99), .int .i64 (cl C 0 100000), .int .i64 (cl H 0 10), .int .i64 (cl B 1 99), .int .i64 (cl P 0 7)])).run Tryz.prog W = .ok (.bool (okVc R C H B P)) W := fun W => by rw [vec_eql, okVc_near]
 have hgd : Tryz.prog.eqGuardType Tryz.prog.depth 82 = false := by kernel_rfl
 generalize okVc R C H B P = Q at *
 go_enter Tryz.func86, Tryz.ntmps86
 go_wp2_with fail
 generalize (w.alloc (.cells #[.int .i64 R, .int .i64 C, .int .i64 H, .int .i64 B, .int .i64 P] 82)) = wb at *
 obtain ⟨⟨x0, x1, x2, x3, x4⟩, -⟩ := cells5 k0
 have K0 := hide k0
 clear k0
 go_region_held3 (fun W => W.cell? ⟨w.heap.size, 0, none⟩ = some (.int .i64 R) ∧ W.cell? ⟨w.heap.size, 1, none⟩ = some (.int .i64 C) ∧ W.cell? ⟨w.heap.size, 2, none⟩ = some (.int .i64 H) ∧ W.cell? ⟨w.heap.size, 3, none⟩ = some (.int .i64 B) ∧ W.cell? ⟨w.heap.size, 4, none⟩ = some (.int .i64 P)) (first | assumption | exact (cells5 k1).1 | go_keep) (first
  | (go_at_call 126; refine (nearest_any R C H B P _).mono ?_; rintro e w1 ⟨rfl, hb1⟩; have k1 := kept_block K0.out (undrew hb1)))
 go_wp2
 go_ret
 exact ⟨rfl, gr_trans q0 (undrew hb1)⟩

set_option maxRecDepth 100000 in
set_option maxHeartbeats 4000000 in
theorem implStepVec_any (R C H B P k : Int) (w : World) :
  Calls Tryz.prog 207 #[.agg #[.int .i64 R, .int .i64 C, .int .i64 H, .int .i64 B, .int .i64 P], .int .i64 k] w fun e w' => e = .returned (.tuple #[if stepOk R C H B P k = true then .agg #[.int .i64 R, .int .i64 (C + k), .int .i64 (H + 1), .int .i64 B, .int .i64 P] else .agg #[.int .i64 R, .int .i64 C, .int .i64 H, .int .i64 B, .int .i64 P], .bool (stepOk R C H B P k)]) ∧ Below w.heap.size w w' := by
 cases t1 : okVc R C H B P
 ·have e : stepOk R C H B P k = false := by unfold stepOk; rw [t1]; rfl
  rw [e, if_neg (by simp)]
  have T1 := hide t1
  clear e t1
  go_enter Tryz.func207, Tryz.ntmps207
  go_wp2_with fail
  refine (implVecOk_any R C H B P _).mono ?_
  rintro e w1 ⟨rfl, hb1⟩
  rw [T1.out]
  have q3 := gr_trans (below_three w _ _ _) hb1
  obtain ⟨k0, k1, k2⟩ := kept_three hb1
  obtain ⟨⟨x0, x1, x2, x3, x4⟩, f0, f1, f2, f3, f4⟩ := cells5 k0
  obtain ⟨⟨y0, y1, y2, y3, y4⟩, g0, g1, g2, g3, g4⟩ := cells5 k1
  have HB := hide q3
  have K1 := hide k1
  have K2 := hide k2
  have K0 := hide k0
  clear hb1 k0 k1 k2 q3
  go_wp2
  exact bodyPost_ret (v := .tuple #[.agg #[.int .i64 R, .int .i64 C, .int .i64 H, .int .i64 B, .int .i64 P], .bool false]) (by simp [results, Tryz.results207, go_sem, *]) rfl ⟨rfl, below_set5 HB.out (by omega) _ _ _ _ _⟩
 cases t2 : (decide (1 ≤ k) && decide (k ≤ 1000))
 ·have e : stepOk R C H B P k = false := by unfold stepOk; rw [t1, t2]; rfl
  rw [e, if_neg (by simp)]
  have T1 := hide t1
  have T2 := hide t2
  clear e t1 t2
  go_enter Tryz.func207, Tryz.ntmps207
  go_wp2_with fail
  refine (implVecOk_any R C H B P _).mono ?_
  rintro e w1 ⟨rfl, hb1⟩
  rw [T1.out]
  have q3 := gr_trans (below_three w _ _ _) hb1
  obtain ⟨k0, k1, k2⟩ := kept_three hb1
  obtain ⟨⟨x0, x1, x2, x3, x4⟩, f0, f1, f2, f3, f4⟩ := cells5 k0
  obtain ⟨⟨y0, y1, y2, y3, y4⟩, g0, g1, g2, g3, g4⟩ := cells5 k1
  have HB := hide q3
  have K1 := hide k1
  have K2 := hide k2
  have K0 := hide k0
  clear hb1 k0 k1 k2 q3
  go_wp2_with fail
  refine (implWithin_any k 1 1000 _).mono ?_
  rintro e w2 ⟨rfl, rfl⟩
  rw [T2.out]
  go_wp2
  exact bodyPost_ret (v := .tuple #[.agg #[.int .i64 R, .int .i64 C, .int .i64 H, .int .i64 B, .int .i64 P], .bool false]) (by simp [results, Tryz.results207, go_sem, *]) rfl ⟨rfl, below_set5 HB.out (by omega) _ _ _ _ _⟩
 obtain ⟨-, o2, o3, -, -⟩ := okVc_parts t1
 have hk : 1 ≤ k ∧ k ≤ 1000 := by simpa using t2
 have es : stepOk R C H B P k = okVc R (C + k) (H + 1) B P := by unfold stepOk; rw [t1, t2]; rfl
 rw [es]
 clear es
 cases t3 : okVc R (C + k) (H + 1) B P
 ·rw [if_neg (by simp)]
  have T1 := hide t1
  have T2 := hide t2
  have T3 := hide t3
  clear t1 t2 t3
  go_enter Tryz.func207, Tryz.ntmps207
  go_wp2_with fail
  refine (implVecOk_any R C H B P _).mono ?_
  rintro e w1 ⟨rfl, hb1⟩
  rw [T1.out]
  have q3 := gr_trans (below_three w _ _ _) hb1
  obtain ⟨k0, k1, k2⟩ := kept_three hb1
  obtain ⟨⟨x0, x1, x2, x3, x4⟩, f0, f1, f2, f3, f4⟩ := cells5 k0
  obtain ⟨⟨y0, y1, y2, y3, y4⟩, g0, g1, g2, g3, g4⟩ := cells5 k1
  have HB := hide q3
  have K1 := hide k1
  have K2 := hide k2
  have K0 := hide k0
  clear hb1 k0 k1 k2 q3
  go_wp2_with fail
  refine (implWithin_any k 1 1000 _).mono ?_
  rintro e w2 ⟨rfl, rfl⟩
  rw [T2.out]
  obtain ⟨⟨z0, z1, z2, z3, z4⟩, -⟩ := cells5 K2.out
  go_wp2_with fail
  refine (implVecOk_any R (C + k) (H + 1) B P _).mono ?_
  rintro e w3 ⟨rfl, hb3⟩
  rw [T3.out]
  clear x0 x1 x2 x3 x4 f0 f1 f2 f3 f4 y0 y1 y2 y3 y4 g0 g1 g2 g3 g4 z0 z1 z2 z3 z4
  obtain ⟨⟨x0, x1, x2, x3, x4⟩, f0, f1, f2, f3, f4⟩ := cells5 (kept_block K0.out hb3)
  obtain ⟨⟨y0, y1, y2, y3, y4⟩, g0, g1, g2, g3, g4⟩ := cells5 (kept_block K1.out hb3)
  have HB := hide (gr_trans HB.out hb3)
  clear hb3
  go_wp2
  exact bodyPost_ret (v := .tuple #[.agg #[.int .i64 R, .int .i64 C, .int .i64 H, .int .i64 B, .int .i64 P], .bool false]) (by simp [results, Tryz.results207, go_sem, *]) rfl ⟨rfl, below_set5 HB.out (by omega) _ _ _ _ _⟩
 ·rw [if_pos rfl]
  have T1 := hide t1
  have T2 := hide t2
  have T3 := hide t3
  clear t1 t2 t3
  go_enter Tryz.func207, Tryz.ntmps207
  go_wp2_with fail
  refine (implVecOk_any R C H B P _).mono ?_
  rintro e w1 ⟨rfl, hb1⟩
  rw [T1.out]
  have q3 := gr_trans (below_three w _ _ _) hb1
  obtain ⟨k0, k1, k2⟩ := kept_three hb1
  obtain ⟨⟨x0, x1, x2, x3, x4⟩, f0, f1, f2, f3, f4⟩ := cells5 k0
  obtain ⟨⟨y0, y1, y2, y3, y4⟩, g0, g1, g2, g3, g4⟩ := cells5 k1
  have HB := hide q3
  have K1 := hide k1
  have K2 := hide k2
  have K0 := hide k0
  clear hb1 k0 k1 k2 q3
  go_wp2_with fail
  refine (implWithin_any k 1 1000 _).mono ?_
  rintro e w2 ⟨rfl, rfl⟩
  rw [T2.out]
  obtain ⟨⟨z0, z1, z2, z3, z4⟩, -⟩ := cells5 K2.out
  go_wp2_with fail
  refine (implVecOk_any R (C + k) (H + 1) B P _).mono ?_
  rintro e w3 ⟨rfl, hb3⟩
  rw [T3.out]
  clear x0 x1 x2 x3 x4 f0 f1 f2 f3 f4 y0 y1 y2 y3 y4 g0 g1 g2 g3 g4 z0 z1 z2 z3 z4
  obtain ⟨⟨x0, x1, x2, x3, x4⟩, f0, f1, f2, f3, f4⟩ := cells5 (kept_block K2.out hb3)
  obtain ⟨⟨y0, y1, y2, y3, y4⟩, g0, g1, g2, g3, g4⟩ := cells5 (kept_block K1.out hb3)
  have HB := hide (gr_trans HB.out hb3)
  clear hb3
  go_wp2
  exact bodyPost_ret (v := .tuple #[.agg #[.int .i64 R, .int .i64 (C + k), .int .i64 (H + 1), .int .i64 B, .int .i64 P], .bool true]) (by simp [results, Tryz.results207, go_sem, *]) rfl ⟨rfl, below_set5 HB.out (by omega) _ _ _ _ _⟩

set_option maxRecDepth 100000 in
set_option maxHeartbeats 2000000 in
theorem implPtOk_any (x : PT) (w : World) :
  Calls Tryz.prog 191 #[.agg #[.bool x.up, .int .i64 x.k, .bool x.has, .int .i64 x.v.r, .int .i64 x.v.c, .int .i64 x.v.h, .int .i64 x.v.b, .int .i64 x.v.p]] w fun e w' => e = .returned (.bool (ptOk x)) ∧ Below w.heap.size w w' := by
 have he : ∀ W, (binOp .eql 82 (.agg #[.int .i64 x.v.r, .int .i64 x.v.c, .int .i64 x.v.h, .int .i64 x.v.b, .int .i64 x.v.p]) (.agg #[.int .i64 0, .int .i64 0, .int .i64 0, .int .i64 0, .int .i64 0])).run Tryz.prog W = .ok (.bool (zeroVc x.v)) W := fun W => by rw [vec_eql]; rfl
 have hgd : Tryz.prog.eqGuardType Tryz.prog.depth 82 = false := by kernel_rfl
 obtain ⟨up, k, has, ⟨r, c, h, b, p⟩⟩ := x
 simp only at he ⊢
 generalize hw1 : w.alloc (.cells #[.bool up, .int .i64 k, .bool has, .int .i64 r, .int .i64 c, .int .i64 h, .int .i64 b, .int .i64 p] 89) = w1
 have q0 : Below w.heap.size w w1 := by subst hw1; exact below_one _ _
 obtain ⟨c0, c1, c2, c3, c4, c5, c6, c7⟩ := cells8 (by rw [← hw1]; exact block_last w _ : w1.heap[w.heap.size]? = _)
 cases t1 : (decide (1 ≤ k) && decide (k ≤ 1000))
 ·have T1 := hide t1
  rw [show ptOk ⟨up, k, has, ⟨r, c, h, b, p⟩⟩ = false by unfold ptOk; rw [t1]; rfl]
  clear t1
  go_enter Tryz.func191, Tryz.ntmps191
  go_wp2_with fail
  refine (implWithin_any k 1 1000 _).mono ?_
  rintro e w2 ⟨rfl, rfl⟩
  rw [T1.out]
  go_wp2
  go_ret
  exact ⟨rfl, q0⟩
 cases has
 ·rw [show ptOk ⟨up, k, false, ⟨r, c, h, b, p⟩⟩ = zeroVc ⟨r, c, h, b, p⟩ by unfold ptOk; rw [t1]; cases up <;> rfl]
  have T1 := hide t1
  generalize zeroVc ⟨r, c, h, b, p⟩ = Q at *
  clear t1
  go_enter Tryz.func191, Tryz.ntmps191
  go_wp2_with fail
  refine (implWithin_any k 1 1000 _).mono ?_
  rintro e w2 ⟨rfl, rfl⟩
  rw [T1.out]
  go_wp2
  go_ret
  exact ⟨rfl, q0⟩
 cases up
 ·rw [show ptOk ⟨false, k, true, ⟨r, c, h, b, p⟩⟩ = false by unfold ptOk; rw [t1]; rfl]
  have T1 := hide t1
  clear t1
  go_enter Tryz.func191, Tryz.ntmps191
  go_wp2_with fail
  refine (implWithin_any k 1 1000 _).mono ?_
  rintro e w2 ⟨rfl, rfl⟩
  rw [T1.out]
  go_wp2
  go_ret
  exact ⟨rfl, q0⟩
 ·rw [show ptOk ⟨true, k, true, ⟨r, c, h, b, p⟩⟩ = okVc r c h b p by unfold ptOk; rw [t1]; rfl]
  have T1 := hide t1
  clear t1
  go_enter Tryz.func191, Tryz.ntmps191
  go_wp2_with fail
  refine (implWithin_any k 1 1000 _).mono ?_
  rintro e w2 ⟨rfl, rfl⟩
  rw [T1.out]
  go_wp2_with fail
  refine (implVecOk_any r c h b p _).mono ?_
  rintro e w3 ⟨rfl, hb3⟩
  have HB := hide (gr_trans q0 hb3)
  clear hb3
  go_wp2
  go_ret
  exact ⟨rfl, HB.out⟩

def overB (x : PT) : Bool := x.up && (x.has && stepsV x.v x.k)
def overV (x : PT) : VD := if (x.up && x.has) = true then (if stepsV x.v x.k = true then stepV x.v x.k else x.v) else ⟨0, 0, 0, 0, 0⟩

theorem over_yes {x : PT} (h : overB x = true) : overV x = stepV x.v x.k := by
 unfold overB at h
 simp only [Bool.and_eq_true] at h
 unfold overV
 rw [h.1, h.2.1, h.2.2]
 rfl

theorem offers_over (id : Int) (x : PT) : offers id x = (overB x && decide ((overV x).r < id)) := by
 cases h : overB x
 ·unfold offers overB at *
  cases hu : x.up <;> cases hh : x.has <;> cases hs : stepsV x.v x.k <;> rw [hu, hh, hs] at h <;> simp_all
 ·rw [over_yes h]
  unfold overB at h
  simp only [Bool.and_eq_true] at h
  unfold offers
  rw [h.1, h.2.1, h.2.2]
  rfl

set_option maxRecDepth 100000 in
set_option maxHeartbeats 2000000 in
theorem overLink_any (x : PT) (w : World) :
  Calls Tryz.prog 204 #[.agg #[.bool x.up, .int .i64 x.k, .bool x.has, .int .i64 x.v.r, .int .i64 x.v.c, .int .i64 x.v.h, .int .i64 x.v.b, .int .i64 x.v.p]] w fun e w' => e = .returned (.tuple #[.agg #[.int .i64 (overV x).r, .int .i64 (overV x).c, .int .i64 (overV x).h, .int .i64 (overV x).b, .int .i64 (overV x).p], .bool (overB x)]) ∧ Below w.heap.size w w' := by
 by_cases hno : (x.up && x.has) = false
 ·rw [show overV x = ⟨0, 0, 0, 0, 0⟩ by unfold overV; rw [hno]; rfl, show overB x = false by unfold overB; cases hu : x.up <;> cases hh : x.has <;> simp_all]
  simp only
  cases hu : x.up
  ·clear hno
   go_enter Tryz.func204, Tryz.ntmps204
   go_wp2
   exact bodyPost_ret (v := .tuple #[.agg #[.int .i64 0, .int .i64 0, .int .i64 0, .int .i64 0, .int .i64 0], .bool false]) (by simp [results, Tryz.results204, go_sem, *]) rfl ⟨rfl, below_two _ _ _⟩
  ·have hh : x.has = false := by rw [hu] at hno; simpa using hno
   rw [hh]
   clear hno
   go_enter Tryz.func204, Tryz.ntmps204
   go_wp2
   exact bodyPost_ret (v := .tuple #[.agg #[.int .i64 0, .int .i64 0, .int .i64 0, .int .i64 0, .int .i64 0], .bool false]) (by simp [results, Tryz.results204, go_sem, *]) rfl ⟨rfl, below_two _ _ _⟩
 generalize hw1 : w.alloc (.cells #[.bool x.up, .int .i64 x.k, .bool x.has, .int .i64 x.v.r, .int .i64 x.v.c, .int .i64 x.v.h, .int .i64 x.v.b, .int .i64 x.v.p] 89) = w1
 generalize hw2 : w1.alloc (.cells #[.int .i64 0, .int .i64 0, .int .i64 0, .int .i64 0, .int .i64 0] 82) = w2
 have q1 : Below w.heap.size w w1 := by rw [← hw1]; exact below_one _ _
 have q2 : Below w1.heap.size w1 w2 := by rw [← hw2]; exact below_one _ _
 have k1 : w1.heap[w.heap.size]? = some (.cells #[.bool x.up, .int .i64 x.k, .bool x.has, .int .i64 x.v.r, .int .i64 x.v.c, .int .i64 x.v.h, .int .i64 x.v.b, .int .i64 x.v.p] 89) := by rw [← hw1]; exact block_last _ _
 have k2 : w2.heap[w1.heap.size]? = some (.cells #[.int .i64 0, .int .i64 0, .int .i64 0, .int .i64 0, .int .i64 0] 82) := by rw [← hw2]; exact block_last _ _
 have hs1 : w1.heap.size = w.heap.size + 1 := by rw [← hw1]; simp
 rw [hs1] at k2
 obtain ⟨c0, c1, c2, c3, c4, c5, c6, c7⟩ := cells8 (kept_block k1 q2)
 have HQ := hide (gr_trans q1 q2)
 have K2 := hide k2
 have hyes : (x.up && x.has) = true := by simpa using hno
 have hu : x.up = true := by simp only [Bool.and_eq_true] at hyes; exact hyes.1
 have hh : x.has = true := by simp only [Bool.and_eq_true] at hyes; exact hyes.2
 rw [hu] at c0
 rw [hh] at c2
 generalize hq : overB x = q
 generalize hu' : overV x = u
 have HST : Hid (stepOk x.v.r x.v.c x.v.h x.v.b x.v.p x.k = q) := hide (by rw [← hq]; unfold overB stepsV; rw [hu, hh]; rfl)
 have HUV : Hid ((if q = true then Value.agg #[.int .i64 x.v.r, .int .i64 (x.v.c + x.k), .int .i64 (x.v.h + 1), .int .i64 x.v.b, .int .i64 x.v.p] else Value.agg #[.int .i64 x.v.r, .int .i64 x.v.c, .int .i64 x.v.h, .int .i64 x.v.b, .int .i64 x.v.p]) = .agg #[.int .i64 u.r, .int .i64 u.c, .int .i64 u.h, .int .i64 u.b, .int .i64 u.p]) := hide (by
  rw [← hu']
  unfold overV
  rw [if_pos hyes]
  unfold stepsV
  rw [HST.out]
  cases q <;> rfl)
 clear hq hu' hu hh hyes hno q1 q2 k1 k2
 go_enter Tryz.func204, Tryz.ntmps204
 go_wp2_with fail
 refine (implStepVec_any x.v.r x.v.c x.v.h x.v.b x.v.p x.k _).mono ?_
 rintro e w3 ⟨rfl, hb3⟩
 rw [HST.out, HUV.out]
 obtain ⟨⟨r0, r1, r2, r3, r4⟩, z0, z1, z2, z3, z4⟩ := cells5 (kept_block K2.out hb3)
 have HS := hide (below_set5 (gr_trans HQ.out hb3) (g := w.heap.size + 1) (by omega) (.int .i64 u.r) (.int .i64 u.c) (.int .i64 u.h) (.int .i64 u.b) (.int .i64 u.p))
 clear hb3 c0 c1 c2 c3 c4 c5 c6 c7
 go_wp2
 exact bodyPost_ret (v := .tuple #[.agg #[.int .i64 u.r, .int .i64 u.c, .int .i64 u.h, .int .i64 u.b, .int .i64 u.p], .bool q]) (by simp [results, Tryz.results204, go_sem, *]) rfl ⟨rfl, HS.out⟩

def cmpI (a b : Int) : Int := if a < b then -1 else if b < a then 1 else 0

set_option maxRecDepth 100000 in
set_option maxHeartbeats 400000 in
theorem isNaN_any (a : Int) (w : World) : Calls Tryz.prog 208 #[.int .i64 a] w fun e w' => e = .returned (.bool false) ∧ w' = w := by
 go_enter Tryz.func208, Tryz.ntmps208
 go_wp2
 go_ret
 exact ⟨ret_bool (by simp), rfl⟩

set_option maxRecDepth 100000 in
set_option maxHeartbeats 1000000 in
theorem compareI_any (a b : Int) (w : World) : Calls Tryz.prog 206 #[.int .i64 a, .int .i64 b] w fun e w' => e = .returned (.int .i64 (cmpI a b)) ∧ w' = w := by
 by_cases h1 : a < b
 ·rw [show cmpI a b = -1 from if_pos h1]
  go_enter Tryz.func206, Tryz.ntmps206
  go_wp2_with fail
  refine (isNaN_any a _).mono ?_
  rintro e w1 ⟨rfl, rfl⟩
  go_wp2_with fail
  refine (isNaN_any b _).mono ?_
  rintro e w2 ⟨rfl, rfl⟩
  go_wp2
  go_ret
  exact ⟨rfl, rfl⟩
 by_cases h2 : b < a
 ·rw [show cmpI a b = 1 by unfold cmpI; rw [if_neg h1, if_pos h2]]
  go_enter Tryz.func206, Tryz.ntmps206
  go_wp2_with fail
  refine (isNaN_any a _).mono ?_
  rintro e w1 ⟨rfl, rfl⟩
  go_wp2_with fail
  refine (isNaN_any b _).mono ?_
  rintro e w2 ⟨rfl, rfl⟩
  go_wp2
  go_ret
  exact ⟨rfl, rfl⟩
 ·rw [show cmpI a b = 0 by unfold cmpI; rw [if_neg h1, if_neg h2]]
  go_enter Tryz.func206, Tryz.ntmps206
  go_wp2_with fail
  refine (isNaN_any a _).mono ?_
  rintro e w1 ⟨rfl, rfl⟩
  go_wp2_with fail
  refine (isNaN_any b _).mono ?_
  rintro e w2 ⟨rfl, rfl⟩
  go_wp2
  go_ret
  exact ⟨rfl, rfl⟩

def or4 (a b c d : Int) : Int := if ¬ a = 0 then a else if ¬ b = 0 then b else if ¬ c = 0 then c else d

set_option maxRecDepth 100000 in
set_option maxHeartbeats 2000000 in
theorem or4_any (a b c d : Int) (g : Nat) (w : World) (hb : w.heap[g]? = some (.cells #[.int .i64 a, .int .i64 b, .int .i64 c, .int .i64 d] 3)) :
  Calls Tryz.prog 205 #[.slice (some ⟨g, 0, none⟩) 4 4] w fun e w' => e = .returned (.int .i64 (or4 a b c d)) ∧ w' = w := by
 obtain ⟨⟨x0, x1, x2, x3⟩, -⟩ := cells4 hb
 generalize ho : or4 a b c d = o
 have HO := hide ho
 clear ho hb
 go_enter Tryz.func205, Tryz.ntmps205
 go_wp2
 go_loop [8] (fun i => ∃ k : Nat, k ≤ 4 ∧ i = .int .i64 k ∧ (1 ≤ k → a = 0) ∧ (2 ≤ k → b = 0) ∧ (3 ≤ k → c = 0) ∧ (4 ≤ k → d = 0)) (fun i => 4 - (intOf i).toNat)
 case atStart => exact ⟨0, Nat.zero_le _, rfl, by omega, by omega, by omega, by omega⟩
 case round =>
  obtain ⟨k, hk, hi, e1, e2, e3, e4⟩ := hrel
  rcases (show k = 0 ∨ k = 1 ∨ k = 2 ∨ k = 3 ∨ k = 4 by omega) with rfl | rfl | rfl | rfl | rfl
  ·have hi : _ = Value.int .i64 0 := hi
   subst hi
   clear e1 e2 e3 e4
   by_cases h0 : a = 0
   ·have t0 : (a != 0) = false := by simp [h0]
    have H0 := hide h0
    clear h0
    go_wp2
    go_round
    case rel => exact ⟨1, by omega, by go_num, fun _ => H0.out, by omega, by omega, by omega⟩
    case measure => simp [intOf]
   ·have t0 : (a != 0) = true := by simp [h0]
    have H0 := hide h0
    clear h0
    go_wp2
    go_ret
    have := HO.out
    unfold or4 at this
    rw [if_pos H0.out] at this
    exact ⟨(by rw [← this]; rfl), rfl⟩
  ·have hi : _ = Value.int .i64 1 := hi
   subst hi
   have h1 := hide (e1 (by omega))
   clear e1 e2 e3 e4
   by_cases h0 : b = 0
   ·have t0 : (b != 0) = false := by simp [h0]
    have H0 := hide h0
    clear h0
    go_wp2
    go_round
    case rel => exact ⟨2, by omega, by go_num, fun _ => h1.out, fun _ => H0.out, by omega, by omega⟩
    case measure => simp [intOf]
   ·have t0 : (b != 0) = true := by simp [h0]
    have H0 := hide h0
    clear h0
    go_wp2
    go_ret
    have := HO.out
    unfold or4 at this
    rw [if_neg (fun h => h h1.out), if_pos H0.out] at this
    exact ⟨(by rw [← this]; rfl), rfl⟩
  ·have hi : _ = Value.int .i64 2 := hi
   subst hi
   have h1 := hide (e1 (by omega))
   have h2 := hide (e2 (by omega))
   clear e1 e2 e3 e4
   by_cases h0 : c = 0
   ·have t0 : (c != 0) = false := by simp [h0]
    have H0 := hide h0
    clear h0
    go_wp2
    go_round
    case rel => exact ⟨3, by omega, by go_num, fun _ => h1.out, fun _ => h2.out, fun _ => H0.out, by omega⟩
    case measure => simp [intOf]
   ·have t0 : (c != 0) = true := by simp [h0]
    have H0 := hide h0
    clear h0
    go_wp2
    go_ret
    have := HO.out
    unfold or4 at this
    rw [if_neg (fun h => h h1.out), if_neg (fun h => h h2.out), if_pos H0.out] at this
    exact ⟨(by rw [← this]; rfl), rfl⟩
  ·have hi : _ = Value.int .i64 3 := hi
   subst hi
   have h1 := hide (e1 (by omega))
   have h2 := hide (e2 (by omega))
   have h3 := hide (e3 (by omega))
   clear e1 e2 e3 e4
   by_cases h0 : d = 0
   ·have t0 : (d != 0) = false := by simp [h0]
    have H0 := hide h0
    clear h0
    go_wp2
    go_round
    case rel => exact ⟨4, by omega, by go_num, fun _ => h1.out, fun _ => h2.out, fun _ => h3.out, fun _ => H0.out⟩
    case measure => simp [intOf]
   ·have t0 : (d != 0) = true := by simp [h0]
    clear h0
    go_wp2
    go_ret
    have := HO.out
    unfold or4 at this
    rw [if_neg (fun h => h h1.out), if_neg (fun h => h h2.out), if_neg (fun h => h h3.out)] at this
    exact ⟨(by rw [← this]; rfl), rfl⟩
  ·have hi : _ = Value.int .i64 4 := hi
   subst hi
   have h1 := hide (e1 (by omega))
   have h2 := hide (e2 (by omega))
   have h3 := hide (e3 (by omega))
   have h4 := hide (e4 (by omega))
   clear e1 e2 e3 e4
   go_wp2
   go_ret
   have := HO.out
   unfold or4 at this
   rw [if_neg (fun h => h h1.out), if_neg (fun h => h h2.out), if_neg (fun h => h h3.out), h4.out] at this
   exact ⟨(by rw [← this]; rfl), rfl⟩

theorem or4_less (R C B P R' C' B' P' : Int) : decide (or4 (cmpI R R') (cmpI C C') (cmpI B B') (cmpI P P') < 0) = lessVc R C B P R' C' B' P' := by
 have z : ∀ a b : Int, (cmpI a b = 0 ↔ a = b) ∧ (cmpI a b < 0 ↔ a < b) := by
  intro a b
  unfold cmpI
  constructor <;> split <;> (try split) <;> omega
 obtain ⟨a1, a2⟩ := z R R'
 obtain ⟨b1, b2⟩ := z C C'
 obtain ⟨c1, c2⟩ := z B B'
 obtain ⟨d1, d2⟩ := z P P'
 unfold or4 lessVc
 generalize cmpI R R' = x at *
 generalize cmpI C C' = y at *
 generalize cmpI B B' = u at *
 generalize cmpI P P' = v at *
 by_cases h1 : R = R'
 ·have e1 : x = 0 := a1.2 h1
  have t1 : (R != R') = false := by simp [h1]
  rw [if_neg (by simp [e1] : ¬ ¬ x = 0), t1, if_neg Bool.false_ne_true]
  by_cases h2 : C = C'
  ·have e2 : y = 0 := b1.2 h2
   have t2 : (C != C') = false := by simp [h2]
   rw [if_neg (by simp [e2] : ¬ ¬ y = 0), t2, if_neg Bool.false_ne_true]
   by_cases h3 : B = B'
   ·have e3 : u = 0 := c1.2 h3
    have t3 : (B != B') = false := by simp [h3]
    rw [if_neg (by simp [e3] : ¬ ¬ u = 0), t3, if_neg Bool.false_ne_true]
    exact decide_eq_decide.2 d2
   ·have e3 : ¬ u = 0 := fun h => h3 (c1.1 h)
    have t3 : (B != B') = true := by simp [h3]
    rw [if_pos e3, t3, if_pos rfl]
    exact decide_eq_decide.2 c2
  ·have e2 : ¬ y = 0 := fun h => h2 (b1.1 h)
   have t2 : (C != C') = true := by simp [h2]
   rw [if_pos e2, t2, if_pos rfl]
   exact decide_eq_decide.2 b2
 ·have e1 : ¬ x = 0 := fun h => h1 (a1.1 h)
  have t1 : (R != R') = true := by simp [h1]
  rw [if_pos e1, t1, if_pos rfl]
  exact decide_eq_decide.2 a2

set_option maxRecDepth 100000 in
set_option maxHeartbeats 2000000 in
theorem implLessVec_any (R C H B P R' C' H' B' P' : Int) (w : World) :
  Calls Tryz.prog 202 #[.agg #[.int .i64 R, .int .i64 C, .int .i64 H, .int .i64 B, .int .i64 P], .agg #[.int .i64 R', .int .i64 C', .int .i64 H', .int .i64 B', .int .i64 P']] w fun e w' => e = .returned (.bool (lessVc R C B P R' C' B' P')) ∧ Below w.heap.size w w' := by
 have q2 := below_two w (.cells #[.int .i64 R, .int .i64 C, .int .i64 H, .int .i64 B, .int .i64 P] 82) (.cells #[.int .i64 R', .int .i64 C', .int .i64 H', .int .i64 B', .int .i64 P'] 82)
 obtain ⟨k0, k1⟩ := kept_two (Below.refl _ ((w.alloc (.cells #[.int .i64 R, .int .i64 C, .int .i64 H, .int .i64 B, .int .i64 P] 82)).alloc (.cells #[.int .i64 R', .int .i64 C', .int .i64 H', .int .i64 B', .int .i64 P'] 82)))
 have HL := hide (or4_less R C B P R' C' B' P')
 generalize lessVc R C B P R' C' B' P' = L at *
 go_enter Tryz.func202, Tryz.ntmps202
 go_wp2_with fail
 generalize ((w.alloc (.cells #[.int .i64 R, .int .i64 C, .int .i64 H, .int .i64 B, .int .i64 P] 82)).alloc (.cells #[.int .i64 R', .int .i64 C', .int .i64 H', .int .i64 B', .int .i64 P'] 82)) = wb at *
 obtain ⟨⟨x0, x1, x2, x3, x4⟩, -⟩ := cells5 k0
 obtain ⟨⟨y0, y1, y2, y3, y4⟩, -⟩ := cells5 k1
 clear k0 k1
 go_region_held3 (fun W => (W.cell? ⟨w.heap.size, 0, none⟩ = some (.int .i64 R) ∧ W.cell? ⟨w.heap.size, 1, none⟩ = some (.int .i64 C) ∧ W.cell? ⟨w.heap.size, 3, none⟩ = some (.int .i64 B) ∧ W.cell? ⟨w.heap.size, 4, none⟩ = some (.int .i64 P)) ∧ (W.cell? ⟨w.heap.size + 1, 0, none⟩ = some (.int .i64 R') ∧ W.cell? ⟨w.heap.size + 1, 1, none⟩ = some (.int .i64 C') ∧ W.cell? ⟨w.heap.size + 1, 3, none⟩ = some (.int .i64 B') ∧ W.cell? ⟨w.heap.size + 1, 4, none⟩ = some (.int .i64 P'))) (first | assumption | go_keep) (first
  | (go_at_call 206; refine (compareI_any _ _ _).mono ?_; rintro e w1 ⟨rfl, rfl⟩)
  | (go_at_call 205; refine (or4_any (cmpI R R') (cmpI C C') (cmpI B B') (cmpI P P') wb.heap.size _ (drew_block (block_last wb _))).mono ?_; rintro e w2 ⟨rfl, rfl⟩))
 go_wp2
 go_ret
 exact ⟨ret_bool HL.out, gr_drew (gr_alloc q2 _)⟩

def heldV (id : Int) : Option (VD × Nat) → VD
 | none => ⟨id, 0, 0, 0, 0⟩
 | some (f, _) => f

structure BiSt (w W : World) (v : VD) : Prop where
 res : W.heap[w.heap.size]? = some (.cells #[.int .i64 0, .int .i64 0, .int .i64 0, .int .i64 0, .int .i64 0] 82)
 best : W.heap[w.heap.size + 1]? = some (.cells #[.int .i64 v.r, .int .i64 v.c, .int .i64 v.h, .int .i64 v.b, .int .i64 v.p] 82)
 below : Below w.heap.size w W

theorem BiSt.later {w W W' : World} {v : VD} (h : BiSt w W v) (hb : Below W.heap.size W W') : BiSt w W' v :=
 ⟨kept_block h.res hb, kept_block h.best hb, gr_trans h.below hb⟩

theorem BiSt.set {w W : World} {v : VD} (h : BiSt w W v) (u : VD) : BiSt w (((((W.setCell ⟨w.heap.size + 1, 0, none⟩ (.int .i64 u.r)).setCell ⟨w.heap.size + 1, 1, none⟩ (.int .i64 u.c)).setCell ⟨w.heap.size + 1, 2, none⟩ (.int .i64 u.h)).setCell ⟨w.heap.size + 1, 3, none⟩ (.int .i64 u.b)).setCell ⟨w.heap.size + 1, 4, none⟩ (.int .i64 u.p)) u :=
 ⟨kept_set5 h.res (by omega) _ _ _ _ _, box5_set h.best _ _ _ _ _, below_set5 h.below (by omega) _ _ _ _ _⟩

theorem less_held {id : Int} {u : VD} (h : u.r < id) : lessVc u.r u.c u.b u.p id 0 0 0 = true := by
 unfold lessVc
 have : (u.r != id) = true := by simp; omega
 rw [this]
 simp [h]

theorem best_round {id : Int} {s : Option (VD × Nat)} {i : Nat} {x : PT} (ho : offers id x = true) (hs : ∀ f j, s = some (f, j) → f.r < id) :
  bestStep id s i x = if lessV (overV x) (heldV id s) = true then some (overV x, i) else s := by
 have ho' := ho
 rw [offers_over] at ho'
 simp only [Bool.and_eq_true, decide_eq_true_eq] at ho'
 have e := over_yes ho'.1
 unfold bestStep
 rw [if_pos ho]
 cases s with
 | none =>
  rw [if_pos]
  ·rw [e]
  ·exact less_held ho'.2
 | some y =>
  obtain ⟨f, j⟩ := y
  simp only [heldV]
  rw [e]
  rfl

set_option maxRecDepth 100000 in
set_option maxHeartbeats 4000000 in
theorem implBestVec_any (id : Int) (a : Option Addr) (n c : Nat) (l : List PT) (w : World) (h : GRow ptF w a n c l) :
  Calls Tryz.prog 201 #[.int .i64 id, .slice a n c] w fun e w' => e = .returned (.tuple #[.agg #[.int .i64 (bestV id (bestOf id l)).r, .int .i64 (bestV id (bestOf id l)).c, .int .i64 (bestV id (bestOf id l)).h, .int .i64 (bestV id (bestOf id l)).b, .int .i64 (bestV id (bestOf id l)).p], .int .i64 (bestP (bestOf id l))]) ∧ Below w.heap.size w w' := by
 have hle := h.le
 have htop := h.top
 unfold maxLen at htop
 have hsz := hide h.size
 go_enter Tryz.func201, Tryz.ntmps201
 go_wp2_with fail
 generalize hw3 : (w.alloc (Obj.cells #[.int .i64 0, .int .i64 0, .int .i64 0, .int .i64 0, .int .i64 0] 82)).alloc (Obj.cells #[.int .i64 id, .int .i64 0, .int .i64 0, .int .i64 0, .int .i64 0] 82) = w3
 have st3 : BiSt w w3 (heldV id none) := by
  subst hw3
  obtain ⟨k0, k1⟩ := kept_two (Below.refl _ ((w.alloc (Obj.cells #[.int .i64 0, .int .i64 0, .int .i64 0, .int .i64 0, .int .i64 0] 82)).alloc (Obj.cells #[.int .i64 id, .int .i64 0, .int .i64 0, .int .i64 0, .int .i64 0] 82)))
  exact ⟨k0, k1, below_two _ _ _⟩
 clear hw3
 go_loopw [7, 16] (fun p i wr => ∃ (k : Nat) (s : Option (VD × Nat)), k ≤ n ∧ i = .int .i64 k ∧ p = .int .i64 (bestP s) ∧ (bestTo id l k = s ∧ ∀ f j, s = some (f, j) → f.r < id) ∧ BiSt w wr (heldV id s)) (fun _ i _ => n - (intOf i).toNat)
 case atStart => exact ⟨0, none, Nat.zero_le _, rfl, rfl, ⟨rfl, by intro f j e; cases e⟩, st3⟩
 case round =>
  obtain ⟨k, s, hk, rfl, rfl, ⟨hs, hrt⟩, st⟩ := hrel
  obtain ⟨hv, hhv⟩ : ∃ y, y = heldV id s := ⟨_, rfl⟩
  have BACK : Hid (∀ W, BiSt w W hv → BiSt w W (heldV id s)) := hide (by subst hhv; exact fun W h => h)
  rw [← hhv] at st
  have HHV := hide hhv
  have HRT := hide hrt
  clear hhv hrt
  by_cases hlt : k < n
  ·obtain ⟨x, b, off, hx, rfl, c0, c1, c2, c3, c4, c5, c6, c7⟩ := pt_at (h.below st.below) k hlt
   have hnx := bestTo_next (id := id) hx
   rw [hs] at hnx
   have i1 : (0 : Int) ≤ (k : Int) := by omega
   have i2 : (k : Int) < (n : Int) := by omega
   have NX := hide hnx
   have ST := hide st
   clear hs hnx hx st
   go_wp2_with fail
   refine (overLink_any x _).mono ?_
   rintro e w4 ⟨rfl, hb4⟩
   have st4 := (ST.out.later (below_one _ _)).later hb4
   clear hb4 c0 c1 c2 c3 c4 c5 c6 c7
   generalize hu : overV x = u
   generalize hq : overB x = q
   have HU := hide hu
   have HQ := hide hq
   clear hu hq
   go_upto_region 6 with fail
   generalize hw5 : w4.alloc (Obj.cells #[.int .i64 u.r, .int .i64 u.c, .int .i64 u.h, .int .i64 u.b, .int .i64 u.p] 82) = w5
   have st5 : BiSt w w5 hv := by rw [← hw5]; exact st4.later (below_one _ _)
   have kX : w5.heap[w4.heap.size]? = some (.cells #[.int .i64 u.r, .int .i64 u.c, .int .i64 u.h, .int .i64 u.b, .int .i64 u.p] 82) := by rw [← hw5]; exact block_last _ _
   have hl4 := (Array.getElem?_eq_some_iff.1 st4.best).1
   have ne1 : ¬ w4.heap.size = w.heap.size + 1 := by omega
   have ne2 : ¬ w.heap.size + 1 = w4.heap.size := by omega
   have HL4 := hide hl4
   obtain ⟨⟨x0, x1, x2, x3, x4⟩, -⟩ := cells5 kX
   obtain ⟨⟨z0, z1, z2, z3, z4⟩, v0, v1, v2, v3, v4⟩ := cells5 st5.best
   clear st4 hl4 hw5
   have ST5 := hide st5
   have KX := hide kX
   clear kX st5
   cases q
   ·have HE : Hid (bestTo id l (k + 1) = s) := hide (NX.out.trans (bestStep_no (by rw [offers_over, HQ.out]; rfl)))
    clear v0 v1 v2 v3 v4
    go_wp2
    go_roundw
    case rel => exact ⟨k + 1, s, by omega, by go_num, rfl, ⟨HE.out, HRT.out⟩, BACK.out _ ST5.out⟩
    case measure => simp [intOf]; omega
   cases hlr : decide (u.r < id)
   ·have HE : Hid (bestTo id l (k + 1) = s) := hide (NX.out.trans (bestStep_no (by rw [offers_over, HQ.out, HU.out, hlr]; rfl)))
    have hlr : ¬ u.r < id := by simpa using hlr
    clear v0 v1 v2 v3 v4
    go_wp2
    go_roundw
    case rel => exact ⟨k + 1, s, by omega, by go_num, rfl, ⟨HE.out, HRT.out⟩, BACK.out _ ST5.out⟩
    case measure => simp [intOf]; omega
   have HO : Hid (offers id x = true) := hide (by rw [offers_over, HQ.out, HU.out, hlr]; rfl)
   have hlr : u.r < id := by simpa using hlr
   have HLR := hide hlr
   have HSTEP : Hid (bestTo id l (k + 1) = if lessV u hv = true then some (u, k) else s) := hide (by rw [NX.out, best_round HO.out HRT.out, HU.out, HHV.out])
   cases hl : lessV u hv
   ·have HE : Hid (bestTo id l (k + 1) = s) := hide (by rw [HSTEP.out, hl]; rfl)
    have HL : Hid (lessVc u.r u.c u.b u.p hv.r hv.c hv.b hv.p = false) := hide hl
    clear hl v0 v1 v2 v3 v4
    go_wp2_with fail
    refine (implLessVec_any u.r u.c u.h u.b u.p hv.r hv.c hv.h hv.b hv.p _).mono ?_
    rintro e wl ⟨rfl, hbl⟩
    rw [HL.out]
    have SL := hide (ST5.out.later hbl)
    clear hbl x0 x1 x2 x3 x4 z0 z1 z2 z3 z4
    go_wp2
    go_roundw
    case rel => exact ⟨k + 1, s, by omega, by go_num, rfl, ⟨HE.out, HRT.out⟩, BACK.out _ SL.out⟩
    case measure => simp [intOf]; omega
   ·have HE : Hid (bestTo id l (k + 1) = some (u, k)) := hide (by rw [HSTEP.out, hl]; rfl)
    have HL : Hid (lessVc u.r u.c u.b u.p hv.r hv.c hv.b hv.p = true) := hide hl
    clear hl v0 v1 v2 v3 v4
    go_wp2_with fail
    refine (implLessVec_any u.r u.c u.h u.b u.p hv.r hv.c hv.h hv.b hv.p _).mono ?_
    rintro e wl ⟨rfl, hbl⟩
    rw [HL.out]
    have stl := ST5.out.later hbl
    have kX := kept_block KX.out hbl
    clear hbl x0 x1 x2 x3 x4 z0 z1 z2 z3 z4
    obtain ⟨⟨x0, x1, x2, x3, x4⟩, -⟩ := cells5 kX
    obtain ⟨⟨z0, z1, z2, z3, z4⟩, v0, v1, v2, v3, v4⟩ := cells5 stl.best
    have HSET : Hid (BiSt w _ u) := hide (stl.set u)
    clear stl kX
    go_wp2
    go_roundw
    case rel => exact ⟨k + 1, some (u, k), by omega, by go_num, rfl, ⟨HE.out, fun f j e => by cases e; exact HLR.out⟩, HSET.out⟩
    case measure => simp [intOf]; omega
  ·have hkn : k = n := by omega
   subst hkn
   have HB : Hid (bestOf id l = s) := hide (by unfold bestOf; rw [hsz.out]; exact hs)
   have HBV : Hid (bestV id s = ⟨hv.r, hv.c, hv.h, id, 0⟩) := hide (by rw [HHV.out]; cases s <;> rfl)
   obtain ⟨⟨x0, x1, x2, x3, x4⟩, y0, y1, y2, y3, y4⟩ := cells5 st.best
   obtain ⟨⟨r0, r1, r2, r3, r4⟩, z0, z1, z2, z3, z4⟩ := cells5 st.res
   have ne : ¬ w.heap.size = w.heap.size + 1 := by omega
   have hb := below_set5 (below_set (below_set st.below (g := w.heap.size + 1) (by omega) 3 (.int .i64 id)) (g := w.heap.size + 1) (by omega) 4 (.int .i64 0)) (Nat.le_refl w.heap.size) (.int .i64 hv.r) (.int .i64 hv.c) (.int .i64 hv.h) (.int .i64 id) (.int .i64 0)
   clear hs st
   go_wp2
   exact bodyPost_ret (v := .tuple #[.agg #[.int .i64 hv.r, .int .i64 hv.c, .int .i64 hv.h, .int .i64 id, .int .i64 0], .int .i64 (bestP s)]) (by simp [results, Tryz.results201, go_sem, *]) rfl ⟨(by rw [HB.out, HBV.out]), hb⟩

abbrev q286 : Oper := ⟨some 32, .move (.tmp 1), 65, "l10_role.go:54", #[], none⟩
abbrev q287 : Oper := ⟨some 33, .move (.tmp 2), 3, "l10_role.go:54", #[], none⟩
abbrev q288 : Oper := ⟨some 34, .indexAddr 65 (.tmp 32) (.tmp 33), 0, "l10_role.go:54", #[⟨0, .data⟩, ⟨1, .data⟩], none⟩
abbrev q289 : Oper := ⟨some 35, .fieldAddr 89 (.tmp 34) 2, 0, "l10_role.go:54", #[⟨2, .data⟩], none⟩
abbrev q290 : Oper := ⟨some 36, .load 4 (.tmp 35), 4, "l10_role.go:54", #[⟨3, .data⟩], none⟩
abbrev q291 : Oper := ⟨some 37, .unOp .not 4 (.tmp 36), 4, "l10_role.go:54", #[⟨4, .data⟩], none⟩
abbrev q292 : Oper := ⟨some 38, .move (.tmp 37), 4, "l10_role.go:54", #[⟨5, .data⟩], none⟩
abbrev q293 : Oper := ⟨some 39, .move (.tmp 0), 3, "l10_role.go:54", #[⟨6, .guard⟩], some (6, false)⟩
abbrev q294 : Oper := ⟨some 40, .move (.tmp 1), 65, "l10_role.go:54", #[⟨6, .guard⟩], some (6, false)⟩
abbrev q295 : Oper := ⟨some 41, .move (.tmp 2), 3, "l10_role.go:54", #[⟨6, .guard⟩], some (6, false)⟩
abbrev q296 : Oper := ⟨some 42, .call ⟨.value (.func 203), #[.tmp 39, .tmp 40, .tmp 41], #[3, 65, 3]⟩, 82, "l10_role.go:54", #[⟨7, .data⟩, ⟨8, .data⟩, ⟨9, .data⟩, ⟨6, .chain⟩, ⟨6, .guard⟩], some (6, false)⟩
abbrev q297 : Oper := ⟨some 43, .move (.tmp 1), 65, "l10_role.go:54", #[⟨6, .guard⟩], some (6, false)⟩
abbrev q298 : Oper := ⟨some 44, .move (.tmp 2), 3, "l10_role.go:54", #[⟨6, .guard⟩], some (6, false)⟩
abbrev q299 : Oper := ⟨some 45, .indexAddr 65 (.tmp 43) (.tmp 44), 0, "l10_role.go:54", #[⟨11, .data⟩, ⟨12, .data⟩, ⟨6, .guard⟩], some (6, false)⟩
abbrev q300 : Oper := ⟨some 46, .fieldAddr 89 (.tmp 45) 3, 0, "l10_role.go:54", #[⟨13, .data⟩, ⟨6, .guard⟩], some (6, false)⟩
abbrev q301 : Oper := ⟨some 47, .load 82 (.tmp 46), 82, "l10_role.go:54", #[⟨14, .data⟩, ⟨6, .guard⟩], some (6, false)⟩
abbrev q302 : Oper := ⟨some 48, .call ⟨.value (.func 202), #[.tmp 42, .tmp 47], #[82, 82]⟩, 4, "l10_role.go:54", #[⟨10, .data⟩, ⟨15, .data⟩, ⟨10, .chain⟩, ⟨6, .guard⟩], some (6, false)⟩
abbrev q303 : Oper := ⟨some 49, .pick (.tmp 38) (.const (.bool true)) (.tmp 48), 4, "l10_role.go:54", #[⟨6, .data⟩, ⟨16, .data⟩], none⟩

set_option maxRecDepth 100000 in
set_option maxHeartbeats 2000000 in
theorem implSayVec_any (id : Int) (a : Option Addr) (n c : Nat) (l : List PT) (port : Int) (w : World) (h : GRow ptF w a n c l) :
  Calls Tryz.prog 203 #[.int .i64 id, .slice a n c, .int .i64 port] w fun e w' => e = .returned (.agg #[.int .i64 (sayV id l port).r, .int .i64 (sayV id l port).c, .int .i64 (sayV id l port).h, .int .i64 (sayV id l port).b, .int .i64 (sayV id l port).p]) ∧ Below w.heap.size w w' := by
 generalize hw1 : w.alloc (Obj.cells #[.int .i64 0, .int .i64 0, .int .i64 0, .int .i64 0, .int .i64 0] 82) = w1
 have q1 : Below w.heap.size w w1 := by rw [← hw1]; exact below_one _ _
 have k1 : w1.heap[w.heap.size]? = some (.cells #[.int .i64 0, .int .i64 0, .int .i64 0, .int .i64 0, .int .i64 0] 82) := by rw [← hw1]; exact block_last _ _
 have hsb : (sayV id l port) = ⟨(bestV id (bestOf id l)).r, (bestV id (bestOf id l)).c, (bestV id (bestOf id l)).h, (bestV id (bestOf id l)).b, port⟩ := by
  unfold sayV
  cases bestOf id l <;> rfl
 rw [hsb]
 clear hsb
 go_enter Tryz.func203, Tryz.ntmps203
 go_wp2_with fail
 refine (implBestVec_any id a n c l _ (h.below q1)).mono ?_
 rintro e w2 ⟨rfl, hb2⟩
 generalize hv : bestV id (bestOf id l) = v
 have HV := hide hv
 clear hv
 generalize hw3 : w2.alloc (Obj.cells #[.int .i64 v.r, .int .i64 v.c, .int .i64 v.h, .int .i64 v.b, .int .i64 v.p] 82) = w3
 have hb3 : Below w2.heap.size w2 w3 := by rw [← hw3]; exact below_one _ _
 have k3 : w3.heap[w2.heap.size]? = some (.cells #[.int .i64 v.r, .int .i64 v.c, .int .i64 v.h, .int .i64 v.b, .int .i64 v.p] 82) := by rw [← hw3]; exact block_last _ _
 have k1 := kept_block (kept_block k1 hb2) hb3
 have lt1 := (Array.getElem?_eq_some_iff.1 (kept_block (by rw [← hw1]; exact block_last _ _ : w1.heap[w.heap.size]? = some (.cells #[.int .i64 0, .int .i64 0, .int .i64 0, .int .i64 0, .int .i64 0] 82)) hb2)).1
 have ne1 : ¬ w2.heap.size = w.heap.size := by omega
 have ne2 : ¬ w.heap.size = w2.heap.size := by omega
 have HB := hide (below_set5 (below_set (gr_trans (gr_trans q1 hb2) hb3) (g := w2.heap.size) (by omega) 4 (.int .i64 port)) (Nat.le_refl w.heap.size) (.int .i64 v.r) (.int .i64 v.c) (.int .i64 v.h) (.int .i64 v.b) (.int .i64 port))
 obtain ⟨⟨x0, x1, x2, x3, x4⟩, y0, y1, y2, y3, y4⟩ := cells5 k3
 obtain ⟨⟨r0, r1, r2, r3, r4⟩, z0, z1, z2, z3, z4⟩ := cells5 k1
 clear hb2 hb3 k1 k3 q1 lt1
 go_wp2
 exact bodyPost_ret (v := .agg #[.int .i64 v.r, .int .i64 v.c, .int .i64 v.h, .int .i64 v.b, .int .i64 port]) (by simp [results, Tryz.results203, go_sem, *]) rfl ⟨(by rw [HV.out]), HB.out⟩

set_option maxRecDepth 100000 in
set_option maxHeartbeats 4000000 in
theorem implRole_any (id : Int) (a : Option Addr) (n c : Nat) (l : List PT) (port : Int) (w : World) (h : GRow ptF w a n c l) :
  Calls Tryz.prog 194 #[.int .i64 id, .slice a n c, .int .i64 port] w fun e w' => e = .returned (.int .i64 (roleOf id l port)) ∧ Below w.heap.size w w' := by
 have hle := h.le
 have htop := h.top
 unfold maxLen at htop
 have hsz := hide h.size
 cases hin : (decide (0 ≤ port) && decide (port ≤ (n : Int) - 1))
 ·have HIN := hide hin
  have HR : Hid (roleOf id l port = 4) := hide (by unfold roleOf; rw [hsz.out, hin]; rfl)
  clear hin
  go_enter Tryz.func194, Tryz.ntmps194
  go_wp2_with fail
  refine (implWithin_any port 0 ((n : Int) - 1) _).mono ?_
  rintro e w1 ⟨rfl, ew⟩
  obtain rfl := ew.symm
  rw [HIN.out]
  go_wp2
  go_ret
  exact ⟨(by rw [HR.out]; rfl), Below.refl _ _⟩
 obtain ⟨k, rfl⟩ : ∃ k : Nat, port = (k : Int) := ⟨port.toNat, by simp at hin; omega⟩
 have hlt : k < n := by simp at hin; omega
 have HIN := hide hin
 have i1 : (0 : Int) ≤ (k : Int) := by omega
 have i2 : (k : Int) < (n : Int) := by omega
 obtain ⟨x, b, off, hx, rfl, c0, c1, c2, c3, c4, c5, c6, c7⟩ := pt_at h k hlt
 have hro : roleOf id l (k : Int) = roleAt id l k x := by
  unfold roleOf
  rw [hsz.out, hin]
  simp [hx]
 have HRO := hide hro
 clear hin hro
 cases hu : x.up
 ·rw [hu] at c0
  have HR : Hid (roleOf id l (k : Int) = 4) := hide (by rw [HRO.out]; unfold roleAt; rw [if_pos hu])
  clear hu c1 c2 c3 c4 c5 c6 c7 hx
  go_enter Tryz.func194, Tryz.ntmps194
  go_wp2_with fail
  refine (implWithin_any (k : Int) 0 ((n : Int) - 1) _).mono ?_
  rintro e w1 ⟨rfl, ew⟩
  obtain rfl := ew.symm
  rw [HIN.out]
  go_wp2
  go_ret
  exact ⟨(by rw [HR.out]; rfl), Below.refl _ _⟩
 rw [hu] at c0
 have HU := hide hu
 clear hu
 by_cases hp : bestP (bestOf id l) = (k : Int)
 ·have HR : Hid (roleOf id l (k : Int) = 1) := hide (by rw [HRO.out]; unfold roleAt; rw [if_neg (by rw [HU.out]; decide), if_pos hp])
  have HP := hide hp
  clear c1 c2 c3 c4 c5 c6 c7 hx hp
  go_enter Tryz.func194, Tryz.ntmps194
  go_wp2_with fail
  refine (implWithin_any (k : Int) 0 ((n : Int) - 1) _).mono ?_
  rintro e w1 ⟨rfl, ew⟩
  obtain rfl := ew.symm
  rw [HIN.out]
  go_wp2_with fail
  refine (implBestVec_any id (some ⟨b, off, none⟩) n c l _ h).mono ?_
  rintro e w2 ⟨rfl, hb2⟩
  rw [HP.out]
  have HB := hide (gr_trans hb2 (below_one _ (Obj.cells #[.int .i64 (bestV id (bestOf id l)).r, .int .i64 (bestV id (bestOf id l)).c, .int .i64 (bestV id (bestOf id l)).h, .int .i64 (bestV id (bestOf id l)).b, .int .i64 (bestV id (bestOf id l)).p] 82)))
  clear hb2 c0
  go_wp2
  go_ret
  exact ⟨(by rw [HR.out]; rfl), HB.out⟩
 go_enter Tryz.func194, Tryz.ntmps194
 go_wp2_with fail
 refine (implWithin_any (k : Int) 0 ((n : Int) - 1) _).mono ?_
 rintro e w1 ⟨rfl, ew⟩
 obtain rfl := ew.symm
 rw [HIN.out]
 go_wp2_with fail
 refine (implBestVec_any id (some ⟨b, off, none⟩) n c l _ h).mono ?_
 rintro e w2 ⟨rfl, hb2⟩
 generalize hw3 : w2.alloc (Obj.cells #[.int .i64 (bestV id (bestOf id l)).r, .int .i64 (bestV id (bestOf id l)).c, .int .i64 (bestV id (bestOf id l)).h, .int .i64 (bestV id (bestOf id l)).b, .int .i64 (bestV id (bestOf id l)).p] 82) = w3
 have HB : Hid (Below w.heap.size w w3) := hide (gr_trans hb2 (by rw [← hw3]; exact below_one _ _))
 clear hb2 c0 c1 c2 c3 c4 c5 c6 c7
 obtain ⟨x', b', off', hx', ha', c0, c1, c2, c3, c4, c5, c6, c7⟩ := pt_at (h.below HB.out) k hlt
 rw [hx] at hx'
 cases hx'
 cases ha'
 generalize hP : bestP (bestOf id l) = P at *
 have hPne : ((k : Int) == P) = false := by simp; exact fun e => hp e.symm
 have HX := hide hx
 have vv : Below w3.heap.size w3 w3.drew := gr_drew (Below.refl _ _)
 have HR0 : Hid (roleOf id l (k : Int) = (if (!x.has || lessV (sayV id l (k : Int)) x.v) = true then 2 else 3)) := hide (by rw [HRO.out]; unfold roleAt; rw [if_neg (by rw [HU.out]; decide), hP, if_neg hp])
 clear c0 c1 hx hP
 cases hh : x.has
 ·rw [hh] at c2
  have HR : Hid (roleOf id l (k : Int) = 2) := hide (by rw [HR0.out, hh]; rfl)
  have HSS : Hid (∀ W', Below w3.heap.size w3 W' → W'.cell? ⟨b, off + k * 8 + 2, none⟩ = some (.bool false) ∧ W'.cell? ⟨b, off + k * 8 + 3, none⟩ = some (.int .i64 x.v.r) ∧ W'.cell? ⟨b, off + k * 8 + 4, none⟩ = some (.int .i64 x.v.c) ∧ W'.cell? ⟨b, off + k * 8 + 5, none⟩ = some (.int .i64 x.v.h) ∧ W'.cell? ⟨b, off + k * 8 + 6, none⟩ = some (.int .i64 x.v.b) ∧ W'.cell? ⟨b, off + k * 8 + 7, none⟩ = some (.int .i64 x.v.p)) := hide (fun W' hb => ⟨(hb.cell (block_lt c2)).trans c2, (hb.cell (block_lt c3)).trans c3, (hb.cell (block_lt c4)).trans c4, (hb.cell (block_lt c5)).trans c5, (hb.cell (block_lt c6)).trans c6, (hb.cell (block_lt c7)).trans c7⟩)
  clear c2 c3 c4 c5 c6 c7 hh
  go_wp2_with fail
  refine wp_region_held_drew (S := (fun W => W.cell? ⟨b, off + k * 8 + 2, none⟩ = some (.bool false) ∧ W.cell? ⟨b, off + k * 8 + 3, none⟩ = some (.int .i64 x.v.r) ∧ W.cell? ⟨b, off + k * 8 + 4, none⟩ = some (.int .i64 x.v.c) ∧ W.cell? ⟨b, off + k * 8 + 5, none⟩ = some (.int .i64 x.v.h) ∧ W.cell? ⟨b, off + k * 8 + 6, none⟩ = some (.int .i64 x.v.b) ∧ W.cell? ⟨b, off + k * 8 + 7, none⟩ = some (.int .i64 x.v.p))) (by kernel_rfl) (HSS.out _ vv) (fun hHeld => ?_)
  refine kK 0 q286 ?_
  refine kK 1 q287 ?_
  refine kK 2 q288 ?_
  refine kK 3 q289 ?_
  refine kK 4 q290 ?_
  refine kK 5 q291 ?_
  refine kK 6 q292 ?_
  refine kN 7 q293 ?_
  refine kN 8 q294 ?_
  refine kN 9 q295 ?_
  refine kN 10 q296 ?_
  refine kN 11 q297 ?_
  refine kN 12 q298 ?_
  refine kN 13 q299 ?_
  refine kN 14 q300 ?_
  refine kN 15 q301 ?_
  refine kN 16 q302 ?_
  refine kK 17 q303 ?_
  refine wpAnyH_done (by kernel_rfl) ?_ _
  clear hHeld
  go_wp2
  go_ret
  exact ⟨(by rw [HR.out]; rfl), gr_trans HB.out vv⟩
 ·rw [hh] at c2
  have HSS : Hid (∀ W', Below w3.heap.size w3 W' → W'.cell? ⟨b, off + k * 8 + 2, none⟩ = some (.bool true) ∧ W'.cell? ⟨b, off + k * 8 + 3, none⟩ = some (.int .i64 x.v.r) ∧ W'.cell? ⟨b, off + k * 8 + 4, none⟩ = some (.int .i64 x.v.c) ∧ W'.cell? ⟨b, off + k * 8 + 5, none⟩ = some (.int .i64 x.v.h) ∧ W'.cell? ⟨b, off + k * 8 + 6, none⟩ = some (.int .i64 x.v.b) ∧ W'.cell? ⟨b, off + k * 8 + 7, none⟩ = some (.int .i64 x.v.p)) := hide (fun W' hb => ⟨(hb.cell (block_lt c2)).trans c2, (hb.cell (block_lt c3)).trans c3, (hb.cell (block_lt c4)).trans c4, (hb.cell (block_lt c5)).trans c5, (hb.cell (block_lt c6)).trans c6, (hb.cell (block_lt c7)).trans c7⟩)
  clear c2 c3 c4 c5 c6 c7
  cases hl : lessV (sayV id l (k : Int)) x.v
  ·have HR : Hid (roleOf id l (k : Int) = 3) := hide (by rw [HR0.out, hh, hl]; rfl)
   have HL : Hid (lessVc (sayV id l (k : Int)).r (sayV id l (k : Int)).c (sayV id l (k : Int)).b (sayV id l (k : Int)).p x.v.r x.v.c x.v.b x.v.p = false) := hide hl
   clear hh hl
   go_wp2_with fail
   refine wp_region_held_drew (S := (fun W => W.cell? ⟨b, off + k * 8 + 2, none⟩ = some (.bool true) ∧ W.cell? ⟨b, off + k * 8 + 3, none⟩ = some (.int .i64 x.v.r) ∧ W.cell? ⟨b, off + k * 8 + 4, none⟩ = some (.int .i64 x.v.c) ∧ W.cell? ⟨b, off + k * 8 + 5, none⟩ = some (.int .i64 x.v.h) ∧ W.cell? ⟨b, off + k * 8 + 6, none⟩ = some (.int .i64 x.v.b) ∧ W.cell? ⟨b, off + k * 8 + 7, none⟩ = some (.int .i64 x.v.p))) (by kernel_rfl) (HSS.out _ vv) (fun hHeld => ?_)
   refine kK 0 q286 ?_
   refine kK 1 q287 ?_
   refine kK 2 q288 ?_
   refine kK 3 q289 ?_
   refine kK 4 q290 ?_
   refine kK 5 q291 ?_
   refine kK 6 q292 ?_
   refine kK 7 q293 ?_
   refine kK 8 q294 ?_
   refine kK 9 q295 ?_
   refine kK 11 q297 ?_
   refine kK 12 q298 ?_
   refine kK 13 q299 ?_
   refine kK 14 q300 ?_
   refine kK 15 q301 ?_
   refine kR 10 q296 (fun K hK => ?_)
   go_simp
   refine (implSayVec_any id (some ⟨b, off, none⟩) n c l (k : Int) _ (h.below (gr_trans HB.out vv))).mono ?_
   rintro e wx ⟨rfl, hbx⟩
   have vv := gr_trans vv hbx
   clear hbx
   go_wp2_with fail
   refine hK.out _ _ (HSS.out _ vv) (fun hHeld => ?_)
   clear hK K
   try simp only [Act.put, lA, lB, lC]
   refine kR 16 q302 (fun K hK => ?_)
   go_simp
   refine (implLessVec_any (sayV id l (k : Int)).r (sayV id l (k : Int)).c (sayV id l (k : Int)).h (sayV id l (k : Int)).b (sayV id l (k : Int)).p x.v.r x.v.c x.v.h x.v.b x.v.p _).mono ?_
   rintro e wx ⟨rfl, hbx⟩
   rw [HL.out]
   have vv := gr_trans vv hbx
   clear hbx
   go_wp2_with fail
   refine hK.out _ _ (HSS.out _ vv) (fun hHeld => ?_)
   clear hK K
   try simp only [Act.put, lA, lB, lC]
   refine kK 17 q303 ?_
   refine wpAnyH_done (by kernel_rfl) ?_ _
   clear hHeld
   go_wp2
   go_ret
   exact ⟨(by rw [HR.out]; rfl), gr_trans HB.out vv⟩
  ·have HR : Hid (roleOf id l (k : Int) = 2) := hide (by rw [HR0.out, hh, hl]; rfl)
   have HL : Hid (lessVc (sayV id l (k : Int)).r (sayV id l (k : Int)).c (sayV id l (k : Int)).b (sayV id l (k : Int)).p x.v.r x.v.c x.v.b x.v.p = true) := hide hl
   clear hh hl
   go_wp2_with fail
   refine wp_region_held_drew (S := (fun W => W.cell? ⟨b, off + k * 8 + 2, none⟩ = some (.bool true) ∧ W.cell? ⟨b, off + k * 8 + 3, none⟩ = some (.int .i64 x.v.r) ∧ W.cell? ⟨b, off + k * 8 + 4, none⟩ = some (.int .i64 x.v.c) ∧ W.cell? ⟨b, off + k * 8 + 5, none⟩ = some (.int .i64 x.v.h) ∧ W.cell? ⟨b, off + k * 8 + 6, none⟩ = some (.int .i64 x.v.b) ∧ W.cell? ⟨b, off + k * 8 + 7, none⟩ = some (.int .i64 x.v.p))) (by kernel_rfl) (HSS.out _ vv) (fun hHeld => ?_)
   refine kK 0 q286 ?_
   refine kK 1 q287 ?_
   refine kK 2 q288 ?_
   refine kK 3 q289 ?_
   refine kK 4 q290 ?_
   refine kK 5 q291 ?_
   refine kK 6 q292 ?_
   refine kK 7 q293 ?_
   refine kK 8 q294 ?_
   refine kK 9 q295 ?_
   refine kK 11 q297 ?_
   refine kK 12 q298 ?_
   refine kK 13 q299 ?_
   refine kK 14 q300 ?_
   refine kK 15 q301 ?_
   refine kR 10 q296 (fun K hK => ?_)
   go_simp
   refine (implSayVec_any id (some ⟨b, off, none⟩) n c l (k : Int) _ (h.below (gr_trans HB.out vv))).mono ?_
   rintro e wx ⟨rfl, hbx⟩
   have vv := gr_trans vv hbx
   clear hbx
   go_wp2_with fail
   refine hK.out _ _ (HSS.out _ vv) (fun hHeld => ?_)
   clear hK K
   try simp only [Act.put, lA, lB, lC]
   refine kR 16 q302 (fun K hK => ?_)
   go_simp
   refine (implLessVec_any (sayV id l (k : Int)).r (sayV id l (k : Int)).c (sayV id l (k : Int)).h (sayV id l (k : Int)).b (sayV id l (k : Int)).p x.v.r x.v.c x.v.h x.v.b x.v.p _).mono ?_
   rintro e wx ⟨rfl, hbx⟩
   rw [HL.out]
   have vv := gr_trans vv hbx
   clear hbx
   go_wp2_with fail
   refine hK.out _ _ (HSS.out _ vv) (fun hHeld => ?_)
   clear hK K
   try simp only [Act.put, lA, lB, lC]
   refine kK 17 q303 ?_
   refine wpAnyH_done (by kernel_rfl) ?_ _
   clear hHeld
   go_wp2
   go_ret
   exact ⟨(by rw [HR.out]; rfl), gr_trans HB.out vv⟩

set_option maxRecDepth 100000 in
set_option maxHeartbeats 2000000 in
theorem implSends_any (id : Int) (a : Option Addr) (n c : Nat) (l : List PT) (w : World) (h : GRow ptF w a n c l) :
  Calls Tryz.prog 174 #[.int .i64 id, .slice a n c] w fun e w' => e = .returned (.int .i64 (sendsOf id l)) ∧ Below w.heap.size w w' := by
 have hle := h.le
 have htop := h.top
 unfold maxLen at htop
 have hsz := hide h.size
 go_enter Tryz.func174, Tryz.ntmps174
 go_wp2_with fail
 go_loopw [5, 10] (fun s i wr => ∃ k : Nat, k ≤ min n 6 ∧ i = .int .i64 k ∧ s = .int .i64 (sendsTo id l k) ∧ Below w.heap.size w wr) (fun _ i _ => 6 - (intOf i).toNat)
 case atStart => exact ⟨0, Nat.zero_le _, rfl, rfl, Below.refl _ _⟩
 case round =>
  obtain ⟨k, hk, rfl, rfl, hb⟩ := hrel
  have hk6 : k ≤ 6 := by omega
  generalize hS : sendsTo id l k = S
  have HS := hide hS
  clear hS
  by_cases hlt : k < min n 6
  ·have hkn : k < n := by omega
   have hk5 : k < 6 := by omega
   have i1 : (0 : Int) ≤ (k : Int) := by omega
   have i2 : (k : Int) < (n : Int) := by omega
   have i3 : (k : Int) < 6 := by omega
   have hmin : (if (n : Int) ≤ 6 then (n : Int) else 6) = ((min n 6 : Nat) : Int) := by split <;> omega
   have i4 : (k : Int) < ((min n 6 : Nat) : Int) := by omega
   have HB := hide hb
   clear hk hb
   go_wp2_with fail
   refine (implRole_any id a n c l (k : Int) _ (h.below HB.out)).mono ?_
   rintro e w2 ⟨rfl, hb2⟩
   have HB2 := hide (gr_trans HB.out hb2)
   have h14 := role_one (id := id) (l := l) (k : Int)
   clear hb2
   generalize hR : roleOf id l (k : Int) = R at *
   have HR := hide hR
   clear hR
   by_cases hr : R ≤ 2
   ·have HN : Hid (sendsTo id l (k + 1) = bits .or .i64 S (2 ^ k)) := hide (by rw [sendsTo, HR.out, if_pos hr, HS.out])
    have hw2 : wrap64 (2 ^ k) = 2 ^ k := by
     rcases (show k = 0 ∨ k = 1 ∨ k = 2 ∨ k = 3 ∨ k = 4 ∨ k = 5 by omega) with rfl | rfl | rfl | rfl | rfl | rfl <;> exact Go.IntWalk.wrap64_in _ (by decide)
    have HW2 := hide hw2
    clear hw2
    obtain rfl | rfl : R = 1 ∨ R = 2 := by omega
    ·go_wp2
     rw [HW2.out]
     go_roundw
     case rel => exact ⟨k + 1, by omega, by go_num, by rw [HN.out], HB2.out⟩
     case measure => simp [intOf]; omega
    ·go_wp2
     rw [HW2.out]
     go_roundw
     case rel => exact ⟨k + 1, by omega, by go_num, by rw [HN.out], HB2.out⟩
     case measure => simp [intOf]; omega
   ·have HN : Hid (sendsTo id l (k + 1) = S) := hide (by rw [sendsTo, HR.out, if_neg hr, HS.out])
    have hne1 : ¬ R = 1 := by omega
    have hne2 : ¬ R = 2 := by omega
    go_wp2
    go_roundw
    case rel => exact ⟨k + 1, by omega, by go_num, by rw [HN.out], HB2.out⟩
    case measure => simp [intOf]; omega
  ·have hkn : k = min n 6 := by omega
   have HK : Hid (sendsOf id l = S) := hide (by unfold sendsOf; rw [hsz.out, ← hkn]; exact HS.out)
   have hend : ¬ ((k : Int) < (n : Int) ∧ (k : Int) < 6) := by omega
   go_wp2
   all_goals go_ret
   all_goals exact ⟨(by rw [HK.out]; rfl), hb⟩

end Go.Proofs.YtdmplbmfkliiiaaGreat
