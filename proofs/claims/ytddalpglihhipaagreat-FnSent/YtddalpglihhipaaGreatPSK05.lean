/-
  Packed: VecNear VecOk ImplIn VecStep PtOkI VecLess PtBestI.
-/
import Derived.Test.YtddalpglihhipaaGreatPSK01
import Derived.Test.YtddalpglihhipaaGreatPSK02
import Derived.Test.YtddalpglihhipaaGreatPSK04
import Derived.Deep.CutRange
import Derived.Lib.MinMax
import Derived.Deep.RegionHeld3
namespace Go.Proofs.YtddalpglihhipaaGreat
open Go.RowKit

abbrev leastC : Array Value := #[.int .i64 1, .int .i64 0, .int .i64 0, .int .i64 1, .int .i64 0]
abbrev mostC : Array Value := #[.int .i64 99, .int .i64 100000, .int .i64 10, .int .i64 99, .int .i64 7]
abbrev endsC : Array Value := #[.int .i64 1, .int .i64 0, .int .i64 0, .int .i64 1, .int .i64 0, .int .i64 99, .int .i64 100000, .int .i64 10, .int .i64 99, .int .i64 7]

def cl (n lo hi : Int) : Int := min (max n lo) hi

def nearC (R C H B P : Int) (k : Nat) : Array Value :=
 #[.int .i64 (if 0 < k then cl R 1 99 else R), .int .i64 (if 1 < k then cl C 0 100000 else C), .int .i64 (if 2 < k then cl H 0 10 else H), .int .i64 (if 3 < k then cl B 1 99 else B), .int .i64 (if 4 < k then cl P 0 7 else P)]

theorem cells10 {w : World} {C : Nat} {t : TypeId} {c0 c1 c2 c3 c4 c5 c6 c7 c8 c9 : Value} (h : w.heap[C]? = some (.cells #[c0, c1, c2, c3, c4, c5, c6, c7, c8, c9] t)) :
  w.cell? ⟨C, 0, none⟩ = some c0 ∧ w.cell? ⟨C, 1, none⟩ = some c1 ∧ w.cell? ⟨C, 2, none⟩ = some c2 ∧ w.cell? ⟨C, 3, none⟩ = some c3 ∧ w.cell? ⟨C, 4, none⟩ = some c4 ∧ w.cell? ⟨C, 5, none⟩ = some c5 ∧ w.cell? ⟨C, 6, none⟩ = some c6 ∧ w.cell? ⟨C, 7, none⟩ = some c7 ∧ w.cell? ⟨C, 8, none⟩ = some c8 ∧ w.cell? ⟨C, 9, none⟩ = some c9 := by
 refine ⟨?_, ?_, ?_, ?_, ?_, ?_, ?_, ?_, ?_, ?_⟩ <;> simp [World.cell?, h]

set_option maxRecDepth 100000 in
set_option maxHeartbeats 4000000 in
theorem nearest_any (R C H B P : Int) (w : World) :
  Calls Tryz.prog 194 #[.agg #[.int .i64 R, .int .i64 C, .int .i64 H, .int .i64 B, .int .i64 P]] w fun e w' => e = .returned (.agg #[.int .i64 (cl R 1 99), .int .i64 (cl C 0 100000), .int .i64 (cl H 0 10), .int .i64 (cl B 1 99), .int .i64 (cl P 0 7)]) ∧ Below w.heap.size w w' := by
 have q3 := below_three w (.cells #[.int .i64 R, .int .i64 C, .int .i64 H, .int .i64 B, .int .i64 P] 93) (.cells #[.int .i64 0, .int .i64 0, .int .i64 0, .int .i64 0, .int .i64 0] 93) (.cells endsC 212)
 obtain ⟨k0, k1, k2⟩ := kept_three (Below.refl _ (((w.alloc (.cells #[.int .i64 R, .int .i64 C, .int .i64 H, .int .i64 B, .int .i64 P] 93)).alloc (.cells #[.int .i64 0, .int .i64 0, .int .i64 0, .int .i64 0, .int .i64 0] 93)).alloc (.cells endsC 212)))
 have hn : (((w.alloc (.cells #[.int .i64 R, .int .i64 C, .int .i64 H, .int .i64 B, .int .i64 P] 93)).alloc (.cells #[.int .i64 0, .int .i64 0, .int .i64 0, .int .i64 0, .int .i64 0] 93)).alloc (.cells endsC 212)).heap.size = w.heap.size + 3 := by simp
 have HQ := hide q3
 have HK0 := hide k0
 have HK1 := hide k1
 have HN := hide hn
 clear q3 k0 k1 hn
 go_enter Tryz.func194, Tryz.ntmps194
 go_upto_region 2 with fail
 generalize (((w.alloc (.cells #[.int .i64 R, .int .i64 C, .int .i64 H, .int .i64 B, .int .i64 P] 93)).alloc (.cells #[.int .i64 0, .int .i64 0, .int .i64 0, .int .i64 0, .int .i64 0] 93)).alloc (.cells endsC 212)) = w3 at *
 obtain ⟨x0, x1, x2, x3, x4, x5, x6, x7, x8, x9⟩ := cells10 k2
 have K2 := hide k2
 clear k2
 go_cut [4, 5] from 9 to 38 (fun s t wc => ∃ p4 p5 : Nat, s = .pointer (some ⟨p4, 0, none⟩) ∧ t = .pointer (some ⟨p5, 0, none⟩) ∧ wc.heap[p4]? = some (.cells leastC 102) ∧ wc.heap[p5]? = some (.cells mostC 102) ∧ ¬ p4 = p5 ∧ w3.heap.size ≤ p4 ∧ w3.heap.size ≤ p5 ∧ Below w3.heap.size w3 wc)
 case first =>
  go_region_held3 (fun W => W.cell? ⟨w.heap.size + 1 + 1, 0, none⟩ = some (.int .i64 1) ∧ W.cell? ⟨w.heap.size + 1 + 1, 1, none⟩ = some (.int .i64 0) ∧ W.cell? ⟨w.heap.size + 1 + 1, 2, none⟩ = some (.int .i64 0) ∧ W.cell? ⟨w.heap.size + 1 + 1, 3, none⟩ = some (.int .i64 1) ∧ W.cell? ⟨w.heap.size + 1 + 1, 4, none⟩ = some (.int .i64 0) ∧ W.cell? ⟨w.heap.size + 1 + 1, 5, none⟩ = some (.int .i64 99) ∧ W.cell? ⟨w.heap.size + 1 + 1, 6, none⟩ = some (.int .i64 100000) ∧ W.cell? ⟨w.heap.size + 1 + 1, 7, none⟩ = some (.int .i64 10) ∧ W.cell? ⟨w.heap.size + 1 + 1, 8, none⟩ = some (.int .i64 99) ∧ W.cell? ⟨w.heap.size + 1 + 1, 9, none⟩ = some (.int .i64 7))
   (first | assumption | exact cells10 (kept_block K2.out (by repeat (first | exact Below.refl _ _ | refine gr_drew ?_ | refine gr_alloc ?_ _))) | go_keep) (first
   | (go_at_call 196; refine (numbersOf_at _ _ _ _ _ _).mono ?_; rintro e wx ⟨rfl, rfl⟩))
  all_goals
   go_wp2_with fail
   go_meet
   refine ⟨_, _, rfl, rfl, by repeat (first | (refine block_at ?_; simp; done) | refine kept_block ?_ (below_one _ _) | refine drew_block ?_), by repeat (first | (refine block_at ?_; simp; done) | refine kept_block ?_ (below_one _ _) | refine drew_block ?_), by omega, by omega, by omega, by repeat (first | exact Below.refl _ _ | refine gr_drew ?_ | refine gr_alloc ?_ _)⟩
 case rest =>
  obtain ⟨p4, p5, rfl, rfl, h4, h5, hne, hp4, hp5, hbc⟩ := hcut
  have hn := HN.out
  have hsz := hbc.size
  obtain ⟨⟨v0, v1, v2, v3, v4⟩, -⟩ := cells5 (kept_block HK0.out hbc)
  clear x0 x1 x2 x3 x4 x5 x6 x7 x8 x9
  go_wp2_with fail
  refine (numbersOf_any R C H B P _).mono ?_
  rintro e w6 ⟨rfl, hb6⟩
  have hs6 := hb6.size
  have q6 := gr_trans hbc hb6
  have k4 := kept_block (kept_block h4 hb6) (below_one w6 (.cells #[.int .i64 R, .int .i64 C, .int .i64 H, .int .i64 B, .int .i64 P] 102))
  have k5 := kept_block (kept_block h5 hb6) (below_one w6 (.cells #[.int .i64 R, .int .i64 C, .int .i64 H, .int .i64 B, .int .i64 P] 102))
  have k6 := block_last w6 (.cells #[.int .i64 R, .int .i64 C, .int .i64 H, .int .i64 B, .int .i64 P] 102)
  have k1 := kept_block (kept_block HK1.out q6) (below_one w6 (.cells #[.int .i64 R, .int .i64 C, .int .i64 H, .int .i64 B, .int .i64 P] 102))
  have hq := HQ.out
  have lt4 : p4 < w6.heap.size := (Array.getElem?_eq_some_iff.1 (kept_block h4 hb6)).1
  have lt5 : p5 < w6.heap.size := (Array.getElem?_eq_some_iff.1 (kept_block h5 hb6)).1
  clear v0 v1 v2 v3 v4 hb6
  go_wp2_with fail
  go_loopw [21] (fun i wr => ∃ k : Nat, k ≤ 5 ∧ i = .int .i64 k ∧ wr.heap[w6.heap.size]? = some (.cells (nearC R C H B P k) 102) ∧ (w6.alloc (.cells #[.int .i64 R, .int .i64 C, .int .i64 H, .int .i64 B, .int .i64 P] 102)).grownBy wr (some w6.heap.size)) (fun i _ => 5 - (intOf i).toNat)
  case atStart => exact ⟨0, Nat.zero_le _, rfl, k6, World.grownBy.refl _ _⟩
  case round =>
   obtain ⟨k, hk, hi, hc6, hg⟩ := hrel
   have c4 := kept_grown k4 hg (by intro j e; cases e; omega)
   have c5 := kept_grown k5 hg (by intro j e; cases e; omega)
   have c1 := kept_grown k1 hg (by intro j e; cases e; omega)
   have HG := hide hg
   obtain ⟨⟨y0, y1, y2, y3, y4⟩, -⟩ := cells5 c4
   obtain ⟨⟨z0, z1, z2, z3, z4⟩, -⟩ := cells5 c5
   have H6 := hide hc6
   have H1 := hide c1
   clear c4 c5 k4 k5 k6 k1 h4 h5 hg c1 hc6
   rcases (show k = 0 ∨ k = 1 ∨ k = 2 ∨ k = 3 ∨ k = 4 ∨ k = 5 by omega) with rfl | rfl | rfl | rfl | rfl | rfl
   ·have hi : _ = Value.int .i64 0 := hi
    subst hi
    have h6 : wr.heap[w6.heap.size]? = some (.cells #[.int .i64 R, .int .i64 C, .int .i64 H, .int .i64 B, .int .i64 P] 102) := H6.out
    obtain ⟨⟨u0, u1, u2, u3, u4⟩, f0, f1, f2, f3, f4⟩ := cells5 h6
    clear h6
    have ix := index5_0 R C H B P wr
    go_wp2_with fail
    go_region
    go_wp2
    go_roundw
    case rel =>
     refine ⟨0 + 1, by omega, by go_num, ?_, grownTr (grownTr HG.out (grown_set _ _)) (grownOf (gr_drew (Below.refl _ _)))⟩
     have := set_block5 (j := 0) H6.out (.int .i64 (cl R 1 99))
     exact drew_block this
    case measure => simp [intOf]
   ·have hi : _ = Value.int .i64 1 := hi
    subst hi
    have h6 : wr.heap[w6.heap.size]? = some (.cells #[.int .i64 (cl R 1 99), .int .i64 C, .int .i64 H, .int .i64 B, .int .i64 P] 102) := H6.out
    obtain ⟨⟨u0, u1, u2, u3, u4⟩, f0, f1, f2, f3, f4⟩ := cells5 h6
    clear h6
    have ix := index5_1 R C H B P wr
    go_wp2_with fail
    go_region
    go_wp2
    go_roundw
    case rel =>
     refine ⟨1 + 1, by omega, by go_num, ?_, grownTr (grownTr HG.out (grown_set _ _)) (grownOf (gr_drew (Below.refl _ _)))⟩
     have := set_block5 (j := 1) H6.out (.int .i64 (cl C 0 100000))
     exact drew_block this
    case measure => simp [intOf]
   ·have hi : _ = Value.int .i64 2 := hi
    subst hi
    have h6 : wr.heap[w6.heap.size]? = some (.cells #[.int .i64 (cl R 1 99), .int .i64 (cl C 0 100000), .int .i64 H, .int .i64 B, .int .i64 P] 102) := H6.out
    obtain ⟨⟨u0, u1, u2, u3, u4⟩, f0, f1, f2, f3, f4⟩ := cells5 h6
    clear h6
    have ix := index5_2 R C H B P wr
    go_wp2_with fail
    go_region
    go_wp2
    go_roundw
    case rel =>
     refine ⟨2 + 1, by omega, by go_num, ?_, grownTr (grownTr HG.out (grown_set _ _)) (grownOf (gr_drew (Below.refl _ _)))⟩
     have := set_block5 (j := 2) H6.out (.int .i64 (cl H 0 10))
     exact drew_block this
    case measure => simp [intOf]
   ·have hi : _ = Value.int .i64 3 := hi
    subst hi
    have h6 : wr.heap[w6.heap.size]? = some (.cells #[.int .i64 (cl R 1 99), .int .i64 (cl C 0 100000), .int .i64 (cl H 0 10), .int .i64 B, .int .i64 P] 102) := H6.out
    obtain ⟨⟨u0, u1, u2, u3, u4⟩, f0, f1, f2, f3, f4⟩ := cells5 h6
    clear h6
    have ix := index5_3 R C H B P wr
    go_wp2_with fail
    go_region
    go_wp2
    go_roundw
    case rel =>
     refine ⟨3 + 1, by omega, by go_num, ?_, grownTr (grownTr HG.out (grown_set _ _)) (grownOf (gr_drew (Below.refl _ _)))⟩
     have := set_block5 (j := 3) H6.out (.int .i64 (cl B 1 99))
     exact drew_block this
    case measure => simp [intOf]
   ·have hi : _ = Value.int .i64 4 := hi
    subst hi
    have h6 : wr.heap[w6.heap.size]? = some (.cells #[.int .i64 (cl R 1 99), .int .i64 (cl C 0 100000), .int .i64 (cl H 0 10), .int .i64 (cl B 1 99), .int .i64 P] 102) := H6.out
    obtain ⟨⟨u0, u1, u2, u3, u4⟩, f0, f1, f2, f3, f4⟩ := cells5 h6
    clear h6
    have ix := index5_4 R C H B P wr
    go_wp2_with fail
    go_region
    go_wp2
    go_roundw
    case rel =>
     refine ⟨4 + 1, by omega, by go_num, ?_, grownTr (grownTr HG.out (grown_set _ _)) (grownOf (gr_drew (Below.refl _ _)))⟩
     have := set_block5 (j := 4) H6.out (.int .i64 (cl P 0 7))
     exact drew_block this
    case measure => simp [intOf]
   ·have hi : _ = Value.int .i64 5 := hi
    subst hi
    have h6 : wr.heap[w6.heap.size]? = some (.cells #[.int .i64 (cl R 1 99), .int .i64 (cl C 0 100000), .int .i64 (cl H 0 10), .int .i64 (cl B 1 99), .int .i64 (cl P 0 7)] 102) := H6.out
    obtain ⟨⟨u0, u1, u2, u3, u4⟩, f0, f1, f2, f3, f4⟩ := cells5 h6
    clear h6
    go_wp2_with fail
    refine (vecOf_any (cl R 1 99) (cl C 0 100000) (cl H 0 10) (cl B 1 99) (cl P 0 7) _).mono ?_
    rintro e w9 ⟨rfl, hb9⟩
    obtain ⟨⟨t0, t1, t2, t3, t4⟩, g0, g1, g2, g3, g4⟩ := cells5 (kept_block H1.out hb9)
    have b9 := gr_trans hq (gr_trans q6 (gr_trans (belowGr (below_one w6 _) HG.out (Nat.le_refl _)) hb9))
    have HB := hide b9
    clear u0 u1 u2 u3 u4 f0 f1 f2 f3 f4 hb9 b9
    go_wp2
    exact bodyPost_ret (v := .agg #[.int .i64 (cl R 1 99), .int .i64 (cl C 0 100000), .int .i64 (cl H 0 10), .int .i64 (cl B 1 99), .int .i64 (cl P 0 7)]) (by simp [results, Tryz.results194, go_sem, *]) rfl ⟨rfl, below_set5 HB.out (by omega) _ _ _ _ _⟩

theorem cl_same (n lo hi : Int) (h : lo ≤ hi) : (n == cl n lo hi) = (decide (lo ≤ n) && decide (n ≤ hi)) := by
 unfold cl
 rw [Bool.eq_iff_iff]
 simp
 omega

theorem okVc_near (R C H B P : Int) : ((R == cl R 1 99) && ((C == cl C 0 100000) && ((H == cl H 0 10) && ((B == cl B 1 99) && (P == cl P 0 7))))) = okVc R C H B P := by
 rw [okVc_is, cl_same _ _ _ (by omega), cl_same _ _ _ (by omega), cl_same _ _ _ (by omega), cl_same _ _ _ (by omega), cl_same _ _ _ (by omega)]

set_option maxRecDepth 100000 in
set_option maxHeartbeats 2000000 in
theorem implVecOk_any (R C H B P : Int) (w : World) :
  Calls Tryz.prog 190 #[.agg #[.int .i64 R, .int .i64 C, .int .i64 H, .int .i64 B, .int .i64 P]] w fun e w' => e = .returned (.bool (okVc R C H B P)) ∧ Below w.heap.size w w' := by
 have k0 := block_last w (.cells #[.int .i64 R, .int .i64 C, .int .i64 H, .int .i64 B, .int .i64 P] 93)
 have q0 := below_one w (.cells #[.int .i64 R, .int .i64 C, .int .i64 H, .int .i64 B, .int .i64 P] 93)
 have he : ∀ W, (binOp .eql 93 (.agg #[.int .i64 R, .int .i64 C, .int .i64 H, .int .i64 B, .int .i64 P]) (.agg #[.int .i64 (cl R 1 99), .int .i64 (cl C 0 100000), .int .i64 (cl H 0 10), .int .i64 (cl B 1 99), .int .i64 (cl P 0 7)])).run Tryz.prog W = .ok (.bool (okVc R C H B P)) W := fun W => by rw [vec_eql, okVc_near]
 have hgd : Tryz.prog.eqGuardType Tryz.prog.depth 93 = false := by kernel_rfl
 generalize okVc R C H B P = Q at *
 go_enter Tryz.func190, Tryz.ntmps190
 go_wp2_with fail
 generalize (w.alloc (.cells #[.int .i64 R, .int .i64 C, .int .i64 H, .int .i64 B, .int .i64 P] 93)) = wb at *
 obtain ⟨⟨x0, x1, x2, x3, x4⟩, -⟩ := cells5 k0
 have K0 := hide k0
 clear k0
 go_region_held3 (fun W => W.cell? ⟨w.heap.size, 0, none⟩ = some (.int .i64 R) ∧ W.cell? ⟨w.heap.size, 1, none⟩ = some (.int .i64 C) ∧ W.cell? ⟨w.heap.size, 2, none⟩ = some (.int .i64 H) ∧ W.cell? ⟨w.heap.size, 3, none⟩ = some (.int .i64 B) ∧ W.cell? ⟨w.heap.size, 4, none⟩ = some (.int .i64 P)) (first | assumption | exact (cells5 k1).1 | go_keep) (first
  | (go_at_call 194; refine (nearest_any R C H B P _).mono ?_; rintro e w1 ⟨rfl, hb1⟩; have k1 := kept_block K0.out (undrew hb1)))
 go_wp2
 go_ret
 exact ⟨rfl, gr_trans q0 (undrew hb1)⟩

set_option maxRecDepth 100000 in
set_option maxHeartbeats 400000 in
theorem implWithin_any (n lo hi : Int) (w : World) : Calls Tryz.prog 65 #[.int .i64 n, .int .i64 lo, .int .i64 hi] w fun e w' => e = .returned (.bool (decide (lo ≤ n) && decide (n ≤ hi))) ∧ w' = w := by
 by_cases h1 : lo ≤ n
 ·by_cases h2 : n ≤ hi
  ·rw [decide_eq_true h1, decide_eq_true h2]
   go_enter Tryz.func65, Tryz.ntmps65
   go_wp2
   go_ret
   exact ⟨rfl, rfl⟩
  ·rw [decide_eq_true h1, decide_eq_false h2]
   go_enter Tryz.func65, Tryz.ntmps65
   go_wp2
   go_ret
   exact ⟨rfl, rfl⟩
 ·rw [decide_eq_false h1, Bool.false_and]
  go_enter Tryz.func65, Tryz.ntmps65
  go_wp2
  go_ret
  exact ⟨rfl, rfl⟩

set_option maxRecDepth 100000 in
set_option maxHeartbeats 4000000 in
theorem implStepVec_any (R C H B P k : Int) (w : World) :
  Calls Tryz.prog 191 #[.agg #[.int .i64 R, .int .i64 C, .int .i64 H, .int .i64 B, .int .i64 P], .int .i64 k] w fun e w' => e = .returned (.tuple #[if stepOk R C H B P k = true then .agg #[.int .i64 R, .int .i64 (C + k), .int .i64 (H + 1), .int .i64 B, .int .i64 P] else .agg #[.int .i64 R, .int .i64 C, .int .i64 H, .int .i64 B, .int .i64 P], .bool (stepOk R C H B P k)]) ∧ Below w.heap.size w w' := by
 cases t1 : okVc R C H B P
 ·have e : stepOk R C H B P k = false := by unfold stepOk; rw [t1]; rfl
  rw [e, if_neg (by simp)]
  have T1 := hide t1
  clear e t1
  go_enter Tryz.func191, Tryz.ntmps191
  go_wp2_with fail
  refine (implVecOk_any R C H B P _).mono ?_
  rintro e w1 ⟨rfl, hb1⟩
  rw [T1.out]
  have q3 := gr_trans (below_three w _ _ _) hb1
  obtain ⟨k0, k1, k2⟩ := kept_three hb1
  obtain ⟨⟨x0, x1, x2, x3, x4⟩, f0, f1, f2, f3, f4⟩ := cells5 k0
  obtain ⟨⟨y0, y1, y2, y3, y4⟩, g0, g1, g2, g3, g4⟩ := cells5 k1
  have HB := hide q3
  have K1 := hide k1
  have K2 := hide k2
  have K0 := hide k0
  clear hb1 k0 k1 k2 q3
  go_wp2
  exact bodyPost_ret (v := .tuple #[.agg #[.int .i64 R, .int .i64 C, .int .i64 H, .int .i64 B, .int .i64 P], .bool false]) (by simp [results, Tryz.results191, go_sem, *]) rfl ⟨rfl, below_set5 HB.out (by omega) _ _ _ _ _⟩
 cases t2 : (decide (1 ≤ k) && decide (k ≤ 1000))
 ·have e : stepOk R C H B P k = false := by unfold stepOk; rw [t1, t2]; rfl
  rw [e, if_neg (by simp)]
  have T1 := hide t1
  have T2 := hide t2
  clear e t1 t2
  go_enter Tryz.func191, Tryz.ntmps191
  go_wp2_with fail
  refine (implVecOk_any R C H B P _).mono ?_
  rintro e w1 ⟨rfl, hb1⟩
  rw [T1.out]
  have q3 := gr_trans (below_three w _ _ _) hb1
  obtain ⟨k0, k1, k2⟩ := kept_three hb1
  obtain ⟨⟨x0, x1, x2, x3, x4⟩, f0, f1, f2, f3, f4⟩ := cells5 k0
  obtain ⟨⟨y0, y1, y2, y3, y4⟩, g0, g1, g2, g3, g4⟩ := cells5 k1
  have HB := hide q3
  have K1 := hide k1
  have K2 := hide k2
  have K0 := hide k0
  clear hb1 k0 k1 k2 q3
  go_wp2_with fail
  refine (implWithin_any k 1 1000 _).mono ?_
  rintro e w2 ⟨rfl, rfl⟩
  rw [T2.out]
  go_wp2
  exact bodyPost_ret (v := .tuple #[.agg #[.int .i64 R, .int .i64 C, .int .i64 H, .int .i64 B, .int .i64 P], .bool false]) (by simp [results, Tryz.results191, go_sem, *]) rfl ⟨rfl, below_set5 HB.out (by omega) _ _ _ _ _⟩
 obtain ⟨-, o2, o3, -, -⟩ := okVc_parts t1
 have hk : 1 ≤ k ∧ k ≤ 1000 := by simpa using t2
 have es : stepOk R C H B P k = okVc R (C + k) (H + 1) B P := by unfold stepOk; rw [t1, t2]; rfl
 rw [es]
 clear es
 cases t3 : okVc R (C + k) (H + 1) B P
 ·rw [if_neg (by simp)]
  have T1 := hide t1
  have T2 := hide t2
  have T3 := hide t3
  clear t1 t2 t3
  go_enter Tryz.func191, Tryz.ntmps191
  go_wp2_with fail
  refine (implVecOk_any R C H B P _).mono ?_
  rintro e w1 ⟨rfl, hb1⟩
  rw [T1.out]
  have q3 := gr_trans (below_three w _ _ _) hb1
  obtain ⟨k0, k1, k2⟩ := kept_three hb1
  obtain ⟨⟨x0, x1, x2, x3, x4⟩, f0, f1, f2, f3, f4⟩ := cells5 k0
  obtain ⟨⟨y0, y1, y2, y3, y4⟩, g0, g1, g2, g3, g4⟩ := cells5 k1
  have HB := hide q3
  have K1 := hide k1
  have K2 := hide k2
  have K0 := hide k0
  clear hb1 k0 k1 k2 q3
  go_wp2_with fail
  refine (implWithin_any k 1 1000 _).mono ?_
  rintro e w2 ⟨rfl, rfl⟩
  rw [T2.out]
  obtain ⟨⟨z0, z1, z2, z3, z4⟩, -⟩ := cells5 K2.out
  go_wp2_with fail
  refine (implVecOk_any R (C + k) (H + 1) B P _).mono ?_
  rintro e w3 ⟨rfl, hb3⟩
  rw [T3.out]
  clear x0 x1 x2 x3 x4 f0 f1 f2 f3 f4 y0 y1 y2 y3 y4 g0 g1 g2 g3 g4 z0 z1 z2 z3 z4
  obtain ⟨⟨x0, x1, x2, x3, x4⟩, f0, f1, f2, f3, f4⟩ := cells5 (kept_block K0.out hb3)
  obtain ⟨⟨y0, y1, y2, y3, y4⟩, g0, g1, g2, g3, g4⟩ := cells5 (kept_block K1.out hb3)
  have HB := hide (gr_trans HB.out hb3)
  clear hb3
  go_wp2
  exact bodyPost_ret (v := .tuple #[.agg #[.int .i64 R, .int .i64 C, .int .i64 H, .int .i64 B, .int .i64 P], .bool false]) (by simp [results, Tryz.results191, go_sem, *]) rfl ⟨rfl, below_set5 HB.out (by omega) _ _ _ _ _⟩
 ·rw [if_pos rfl]
  have T1 := hide t1
  have T2 := hide t2
  have T3 := hide t3
  clear t1 t2 t3
  go_enter Tryz.func191, Tryz.ntmps191
  go_wp2_with fail
  refine (implVecOk_any R C H B P _).mono ?_
  rintro e w1 ⟨rfl, hb1⟩
  rw [T1.out]
  have q3 := gr_trans (below_three w _ _ _) hb1
  obtain ⟨k0, k1, k2⟩ := kept_three hb1
  obtain ⟨⟨x0, x1, x2, x3, x4⟩, f0, f1, f2, f3, f4⟩ := cells5 k0
  obtain ⟨⟨y0, y1, y2, y3, y4⟩, g0, g1, g2, g3, g4⟩ := cells5 k1
  have HB := hide q3
  have K1 := hide k1
  have K2 := hide k2
  have K0 := hide k0
  clear hb1 k0 k1 k2 q3
  go_wp2_with fail
  refine (implWithin_any k 1 1000 _).mono ?_
  rintro e w2 ⟨rfl, rfl⟩
  rw [T2.out]
  obtain ⟨⟨z0, z1, z2, z3, z4⟩, -⟩ := cells5 K2.out
  go_wp2_with fail
  refine (implVecOk_any R (C + k) (H + 1) B P _).mono ?_
  rintro e w3 ⟨rfl, hb3⟩
  rw [T3.out]
  clear x0 x1 x2 x3 x4 f0 f1 f2 f3 f4 y0 y1 y2 y3 y4 g0 g1 g2 g3 g4 z0 z1 z2 z3 z4
  obtain ⟨⟨x0, x1, x2, x3, x4⟩, f0, f1, f2, f3, f4⟩ := cells5 (kept_block K2.out hb3)
  obtain ⟨⟨y0, y1, y2, y3, y4⟩, g0, g1, g2, g3, g4⟩ := cells5 (kept_block K1.out hb3)
  have HB := hide (gr_trans HB.out hb3)
  clear hb3
  go_wp2
  exact bodyPost_ret (v := .tuple #[.agg #[.int .i64 R, .int .i64 (C + k), .int .i64 (H + 1), .int .i64 B, .int .i64 P], .bool true]) (by simp [results, Tryz.results191, go_sem, *]) rfl ⟨rfl, below_set5 HB.out (by omega) _ _ _ _ _⟩

set_option maxRecDepth 100000 in
set_option maxHeartbeats 2000000 in
theorem implPtOk_any (x : PT) (w : World) :
  Calls Tryz.prog 173 #[.agg #[.bool x.up, .int .i64 x.k, .bool x.has, .int .i64 x.v.r, .int .i64 x.v.c, .int .i64 x.v.h, .int .i64 x.v.b, .int .i64 x.v.p]] w fun e w' => e = .returned (.bool (ptOk x)) ∧ Below w.heap.size w w' := by
 have he : ∀ W, (binOp .eql 93 (.agg #[.int .i64 x.v.r, .int .i64 x.v.c, .int .i64 x.v.h, .int .i64 x.v.b, .int .i64 x.v.p]) (.agg #[.int .i64 0, .int .i64 0, .int .i64 0, .int .i64 0, .int .i64 0])).run Tryz.prog W = .ok (.bool (zeroVc x.v)) W := fun W => by rw [vec_eql]; rfl
 have hgd : Tryz.prog.eqGuardType Tryz.prog.depth 93 = false := by kernel_rfl
 obtain ⟨up, k, has, ⟨r, c, h, b, p⟩⟩ := x
 simp only at he ⊢
 generalize hw1 : w.alloc (.cells #[.bool up, .int .i64 k, .bool has, .int .i64 r, .int .i64 c, .int .i64 h, .int .i64 b, .int .i64 p] 95) = w1
 have q0 : Below w.heap.size w w1 := by subst hw1; exact below_one _ _
 obtain ⟨c0, c1, c2, c3, c4, c5, c6, c7⟩ := cells8 (by rw [← hw1]; exact block_last w _ : w1.heap[w.heap.size]? = _)
 cases t1 : (decide (1 ≤ k) && decide (k ≤ 1000))
 ·have T1 := hide t1
  rw [show ptOk ⟨up, k, has, ⟨r, c, h, b, p⟩⟩ = false by unfold ptOk; rw [t1]; rfl]
  clear t1
  go_enter Tryz.func173, Tryz.ntmps173
  go_wp2_with fail
  refine (implWithin_any k 1 1000 _).mono ?_
  rintro e w2 ⟨rfl, rfl⟩
  rw [T1.out]
  go_wp2
  go_ret
  exact ⟨rfl, q0⟩
 cases has
 ·rw [show ptOk ⟨up, k, false, ⟨r, c, h, b, p⟩⟩ = zeroVc ⟨r, c, h, b, p⟩ by unfold ptOk; rw [t1]; cases up <;> rfl]
  have T1 := hide t1
  generalize zeroVc ⟨r, c, h, b, p⟩ = Q at *
  clear t1
  go_enter Tryz.func173, Tryz.ntmps173
  go_wp2_with fail
  refine (implWithin_any k 1 1000 _).mono ?_
  rintro e w2 ⟨rfl, rfl⟩
  rw [T1.out]
  go_wp2
  go_ret
  exact ⟨rfl, q0⟩
 cases up
 ·rw [show ptOk ⟨false, k, true, ⟨r, c, h, b, p⟩⟩ = false by unfold ptOk; rw [t1]; rfl]
  have T1 := hide t1
  clear t1
  go_enter Tryz.func173, Tryz.ntmps173
  go_wp2_with fail
  refine (implWithin_any k 1 1000 _).mono ?_
  rintro e w2 ⟨rfl, rfl⟩
  rw [T1.out]
  go_wp2
  go_ret
  exact ⟨rfl, q0⟩
 ·rw [show ptOk ⟨true, k, true, ⟨r, c, h, b, p⟩⟩ = okVc r c h b p by unfold ptOk; rw [t1]; rfl]
  have T1 := hide t1
  clear t1
  go_enter Tryz.func173, Tryz.ntmps173
  go_wp2_with fail
  refine (implWithin_any k 1 1000 _).mono ?_
  rintro e w2 ⟨rfl, rfl⟩
  rw [T1.out]
  go_wp2_with fail
  refine (implVecOk_any r c h b p _).mono ?_
  rintro e w3 ⟨rfl, hb3⟩
  have HB := hide (gr_trans q0 hb3)
  clear hb3
  go_wp2
  go_ret
  exact ⟨rfl, HB.out⟩

def overB (x : PT) : Bool := x.up && (x.has && stepsV x.v x.k)
def overV (x : PT) : VD := if (x.up && x.has) = true then (if stepsV x.v x.k = true then stepV x.v x.k else x.v) else ⟨0, 0, 0, 0, 0⟩

theorem over_yes {x : PT} (h : overB x = true) : overV x = stepV x.v x.k := by
 unfold overB at h
 simp only [Bool.and_eq_true] at h
 unfold overV
 rw [h.1, h.2.1, h.2.2]
 rfl

theorem offers_over (id : Int) (x : PT) : offers id x = (overB x && decide ((overV x).r < id)) := by
 cases h : overB x
 ·unfold offers overB at *
  cases hu : x.up <;> cases hh : x.has <;> cases hs : stepsV x.v x.k <;> rw [hu, hh, hs] at h <;> simp_all
 ·rw [over_yes h]
  unfold overB at h
  simp only [Bool.and_eq_true] at h
  unfold offers
  rw [h.1, h.2.1, h.2.2]
  rfl

set_option maxRecDepth 100000 in
set_option maxHeartbeats 2000000 in
theorem overLink_any (x : PT) (w : World) :
  Calls Tryz.prog 175 #[.agg #[.bool x.up, .int .i64 x.k, .bool x.has, .int .i64 x.v.r, .int .i64 x.v.c, .int .i64 x.v.h, .int .i64 x.v.b, .int .i64 x.v.p]] w fun e w' => e = .returned (.tuple #[.agg #[.int .i64 (overV x).r, .int .i64 (overV x).c, .int .i64 (overV x).h, .int .i64 (overV x).b, .int .i64 (overV x).p], .bool (overB x)]) ∧ Below w.heap.size w w' := by
 by_cases hno : (x.up && x.has) = false
 ·rw [show overV x = ⟨0, 0, 0, 0, 0⟩ by unfold overV; rw [hno]; rfl, show overB x = false by unfold overB; cases hu : x.up <;> cases hh : x.has <;> simp_all]
  simp only
  cases hu : x.up
  ·clear hno
   go_enter Tryz.func175, Tryz.ntmps175
   go_wp2
   exact bodyPost_ret (v := .tuple #[.agg #[.int .i64 0, .int .i64 0, .int .i64 0, .int .i64 0, .int .i64 0], .bool false]) (by simp [results, Tryz.results175, go_sem, *]) rfl ⟨rfl, below_two _ _ _⟩
  ·have hh : x.has = false := by rw [hu] at hno; simpa using hno
   rw [hh]
   clear hno
   go_enter Tryz.func175, Tryz.ntmps175
   go_wp2
   exact bodyPost_ret (v := .tuple #[.agg #[.int .i64 0, .int .i64 0, .int .i64 0, .int .i64 0, .int .i64 0], .bool false]) (by simp [results, Tryz.results175, go_sem, *]) rfl ⟨rfl, below_two _ _ _⟩
 generalize hw1 : w.alloc (.cells #[.bool x.up, .int .i64 x.k, .bool x.has, .int .i64 x.v.r, .int .i64 x.v.c, .int .i64 x.v.h, .int .i64 x.v.b, .int .i64 x.v.p] 95) = w1
 generalize hw2 : w1.alloc (.cells #[.int .i64 0, .int .i64 0, .int .i64 0, .int .i64 0, .int .i64 0] 93) = w2
 have q1 : Below w.heap.size w w1 := by rw [← hw1]; exact below_one _ _
 have q2 : Below w1.heap.size w1 w2 := by rw [← hw2]; exact below_one _ _
 have k1 : w1.heap[w.heap.size]? = some (.cells #[.bool x.up, .int .i64 x.k, .bool x.has, .int .i64 x.v.r, .int .i64 x.v.c, .int .i64 x.v.h, .int .i64 x.v.b, .int .i64 x.v.p] 95) := by rw [← hw1]; exact block_last _ _
 have k2 : w2.heap[w1.heap.size]? = some (.cells #[.int .i64 0, .int .i64 0, .int .i64 0, .int .i64 0, .int .i64 0] 93) := by rw [← hw2]; exact block_last _ _
 have hs1 : w1.heap.size = w.heap.size + 1 := by rw [← hw1]; simp
 rw [hs1] at k2
 obtain ⟨c0, c1, c2, c3, c4, c5, c6, c7⟩ := cells8 (kept_block k1 q2)
 have HQ := hide (gr_trans q1 q2)
 have K2 := hide k2
 have hyes : (x.up && x.has) = true := by simpa using hno
 have hu : x.up = true := by simp only [Bool.and_eq_true] at hyes; exact hyes.1
 have hh : x.has = true := by simp only [Bool.and_eq_true] at hyes; exact hyes.2
 rw [hu] at c0
 rw [hh] at c2
 generalize hq : overB x = q
 generalize hu' : overV x = u
 have HST : Hid (stepOk x.v.r x.v.c x.v.h x.v.b x.v.p x.k = q) := hide (by rw [← hq]; unfold overB stepsV; rw [hu, hh]; rfl)
 have HUV : Hid ((if q = true then Value.agg #[.int .i64 x.v.r, .int .i64 (x.v.c + x.k), .int .i64 (x.v.h + 1), .int .i64 x.v.b, .int .i64 x.v.p] else Value.agg #[.int .i64 x.v.r, .int .i64 x.v.c, .int .i64 x.v.h, .int .i64 x.v.b, .int .i64 x.v.p]) = .agg #[.int .i64 u.r, .int .i64 u.c, .int .i64 u.h, .int .i64 u.b, .int .i64 u.p]) := hide (by
  rw [← hu']
  unfold overV
  rw [if_pos hyes]
  unfold stepsV
  rw [HST.out]
  cases q <;> rfl)
 clear hq hu' hu hh hyes hno q1 q2 k1 k2
 go_enter Tryz.func175, Tryz.ntmps175
 go_wp2_with fail
 refine (implStepVec_any x.v.r x.v.c x.v.h x.v.b x.v.p x.k _).mono ?_
 rintro e w3 ⟨rfl, hb3⟩
 rw [HST.out, HUV.out]
 obtain ⟨⟨r0, r1, r2, r3, r4⟩, z0, z1, z2, z3, z4⟩ := cells5 (kept_block K2.out hb3)
 have HS := hide (below_set5 (gr_trans HQ.out hb3) (g := w.heap.size + 1) (by omega) (.int .i64 u.r) (.int .i64 u.c) (.int .i64 u.h) (.int .i64 u.b) (.int .i64 u.p))
 clear hb3 c0 c1 c2 c3 c4 c5 c6 c7
 go_wp2
 exact bodyPost_ret (v := .tuple #[.agg #[.int .i64 u.r, .int .i64 u.c, .int .i64 u.h, .int .i64 u.b, .int .i64 u.p], .bool q]) (by simp [results, Tryz.results175, go_sem, *]) rfl ⟨rfl, HS.out⟩

def cmpI (a b : Int) : Int := if a < b then -1 else if b < a then 1 else 0

set_option maxRecDepth 100000 in
set_option maxHeartbeats 400000 in
theorem isNaN_any (a : Int) (w : World) : Calls Tryz.prog 192 #[.int .i64 a] w fun e w' => e = .returned (.bool false) ∧ w' = w := by
 go_enter Tryz.func192, Tryz.ntmps192
 go_wp2
 go_ret
 exact ⟨ret_bool (by simp), rfl⟩

set_option maxRecDepth 100000 in
set_option maxHeartbeats 1000000 in
theorem compareI_any (a b : Int) (w : World) : Calls Tryz.prog 177 #[.int .i64 a, .int .i64 b] w fun e w' => e = .returned (.int .i64 (cmpI a b)) ∧ w' = w := by
 by_cases h1 : a < b
 ·rw [show cmpI a b = -1 from if_pos h1]
  go_enter Tryz.func177, Tryz.ntmps177
  go_wp2_with fail
  refine (isNaN_any a _).mono ?_
  rintro e w1 ⟨rfl, rfl⟩
  go_wp2_with fail
  refine (isNaN_any b _).mono ?_
  rintro e w2 ⟨rfl, rfl⟩
  go_wp2
  go_ret
  exact ⟨rfl, rfl⟩
 by_cases h2 : b < a
 ·rw [show cmpI a b = 1 by unfold cmpI; rw [if_neg h1, if_pos h2]]
  go_enter Tryz.func177, Tryz.ntmps177
  go_wp2_with fail
  refine (isNaN_any a _).mono ?_
  rintro e w1 ⟨rfl, rfl⟩
  go_wp2_with fail
  refine (isNaN_any b _).mono ?_
  rintro e w2 ⟨rfl, rfl⟩
  go_wp2
  go_ret
  exact ⟨rfl, rfl⟩
 ·rw [show cmpI a b = 0 by unfold cmpI; rw [if_neg h1, if_neg h2]]
  go_enter Tryz.func177, Tryz.ntmps177
  go_wp2_with fail
  refine (isNaN_any a _).mono ?_
  rintro e w1 ⟨rfl, rfl⟩
  go_wp2_with fail
  refine (isNaN_any b _).mono ?_
  rintro e w2 ⟨rfl, rfl⟩
  go_wp2
  go_ret
  exact ⟨rfl, rfl⟩

def or4 (a b c d : Int) : Int := if ¬ a = 0 then a else if ¬ b = 0 then b else if ¬ c = 0 then c else d

set_option maxRecDepth 100000 in
set_option maxHeartbeats 2000000 in
theorem or4_any (a b c d : Int) (g : Nat) (w : World) (hb : w.heap[g]? = some (.cells #[.int .i64 a, .int .i64 b, .int .i64 c, .int .i64 d] 3)) :
  Calls Tryz.prog 176 #[.slice (some ⟨g, 0, none⟩) 4 4] w fun e w' => e = .returned (.int .i64 (or4 a b c d)) ∧ w' = w := by
 obtain ⟨⟨x0, x1, x2, x3⟩, -⟩ := cells4 hb
 generalize ho : or4 a b c d = o
 have HO := hide ho
 clear ho hb
 go_enter Tryz.func176, Tryz.ntmps176
 go_wp2
 go_loop [8] (fun i => ∃ k : Nat, k ≤ 4 ∧ i = .int .i64 k ∧ (1 ≤ k → a = 0) ∧ (2 ≤ k → b = 0) ∧ (3 ≤ k → c = 0) ∧ (4 ≤ k → d = 0)) (fun i => 4 - (intOf i).toNat)
 case atStart => exact ⟨0, Nat.zero_le _, rfl, by omega, by omega, by omega, by omega⟩
 case round =>
  obtain ⟨k, hk, hi, e1, e2, e3, e4⟩ := hrel
  rcases (show k = 0 ∨ k = 1 ∨ k = 2 ∨ k = 3 ∨ k = 4 by omega) with rfl | rfl | rfl | rfl | rfl
  ·have hi : _ = Value.int .i64 0 := hi
   subst hi
   clear e1 e2 e3 e4
   by_cases h0 : a = 0
   ·have t0 : (a != 0) = false := by simp [h0]
    have H0 := hide h0
    clear h0
    go_wp2
    go_round
    case rel => exact ⟨1, by omega, by go_num, fun _ => H0.out, by omega, by omega, by omega⟩
    case measure => simp [intOf]
   ·have t0 : (a != 0) = true := by simp [h0]
    have H0 := hide h0
    clear h0
    go_wp2
    go_ret
    have := HO.out
    unfold or4 at this
    rw [if_pos H0.out] at this
    exact ⟨(by rw [← this]; rfl), rfl⟩
  ·have hi : _ = Value.int .i64 1 := hi
   subst hi
   have h1 := hide (e1 (by omega))
   clear e1 e2 e3 e4
   by_cases h0 : b = 0
   ·have t0 : (b != 0) = false := by simp [h0]
    have H0 := hide h0
    clear h0
    go_wp2
    go_round
    case rel => exact ⟨2, by omega, by go_num, fun _ => h1.out, fun _ => H0.out, by omega, by omega⟩
    case measure => simp [intOf]
   ·have t0 : (b != 0) = true := by simp [h0]
    have H0 := hide h0
    clear h0
    go_wp2
    go_ret
    have := HO.out
    unfold or4 at this
    rw [if_neg (fun h => h h1.out), if_pos H0.out] at this
    exact ⟨(by rw [← this]; rfl), rfl⟩
  ·have hi : _ = Value.int .i64 2 := hi
   subst hi
   have h1 := hide (e1 (by omega))
   have h2 := hide (e2 (by omega))
   clear e1 e2 e3 e4
   by_cases h0 : c = 0
   ·have t0 : (c != 0) = false := by simp [h0]
    have H0 := hide h0
    clear h0
    go_wp2
    go_round
    case rel => exact ⟨3, by omega, by go_num, fun _ => h1.out, fun _ => h2.out, fun _ => H0.out, by omega⟩
    case measure => simp [intOf]
   ·have t0 : (c != 0) = true := by simp [h0]
    have H0 := hide h0
    clear h0
    go_wp2
    go_ret
    have := HO.out
    unfold or4 at this
    rw [if_neg (fun h => h h1.out), if_neg (fun h => h h2.out), if_pos H0.out] at this
    exact ⟨(by rw [← this]; rfl), rfl⟩
  ·have hi : _ = Value.int .i64 3 := hi
   subst hi
   have h1 := hide (e1 (by omega))
   have h2 := hide (e2 (by omega))
   have h3 := hide (e3 (by omega))
   clear e1 e2 e3 e4
   by_cases h0 : d = 0
   ·have t0 : (d != 0) = false := by simp [h0]
    have H0 := hide h0
    clear h0
    go_wp2
    go_round
    case rel => exact ⟨4, by omega, by go_num, fun _ => h1.out, fun _ => h2.out, fun _ => h3.out, fun _ => H0.out⟩
    case measure => simp [intOf]
   ·have t0 : (d != 0) = true := by simp [h0]
    clear h0
    go_wp2
    go_ret
    have := HO.out
    unfold or4 at this
    rw [if_neg (fun h => h h1.out), if_neg (fun h => h h2.out), if_neg (fun h => h h3.out)] at this
    exact ⟨(by rw [← this]; rfl), rfl⟩
  ·have hi : _ = Value.int .i64 4 := hi
   subst hi
   have h1 := hide (e1 (by omega))
   have h2 := hide (e2 (by omega))
   have h3 := hide (e3 (by omega))
   have h4 := hide (e4 (by omega))
   clear e1 e2 e3 e4
   go_wp2
   go_ret
   have := HO.out
   unfold or4 at this
   rw [if_neg (fun h => h h1.out), if_neg (fun h => h h2.out), if_neg (fun h => h h3.out), h4.out] at this
   exact ⟨(by rw [← this]; rfl), rfl⟩

theorem or4_less (R C B P R' C' B' P' : Int) : decide (or4 (cmpI R R') (cmpI C C') (cmpI B B') (cmpI P P') < 0) = lessVc R C B P R' C' B' P' := by
 have z : ∀ a b : Int, (cmpI a b = 0 ↔ a = b) ∧ (cmpI a b < 0 ↔ a < b) := by
  intro a b
  unfold cmpI
  constructor <;> split <;> (try split) <;> omega
 obtain ⟨a1, a2⟩ := z R R'
 obtain ⟨b1, b2⟩ := z C C'
 obtain ⟨c1, c2⟩ := z B B'
 obtain ⟨d1, d2⟩ := z P P'
 unfold or4 lessVc
 generalize cmpI R R' = x at *
 generalize cmpI C C' = y at *
 generalize cmpI B B' = u at *
 generalize cmpI P P' = v at *
 by_cases h1 : R = R'
 ·have e1 : x = 0 := a1.2 h1
  have t1 : (R != R') = false := by simp [h1]
  rw [if_neg (by simp [e1] : ¬ ¬ x = 0), t1, if_neg Bool.false_ne_true]
  by_cases h2 : C = C'
  ·have e2 : y = 0 := b1.2 h2
   have t2 : (C != C') = false := by simp [h2]
   rw [if_neg (by simp [e2] : ¬ ¬ y = 0), t2, if_neg Bool.false_ne_true]
   by_cases h3 : B = B'
   ·have e3 : u = 0 := c1.2 h3
    have t3 : (B != B') = false := by simp [h3]
    rw [if_neg (by simp [e3] : ¬ ¬ u = 0), t3, if_neg Bool.false_ne_true]
    exact decide_eq_decide.2 d2
   ·have e3 : ¬ u = 0 := fun h => h3 (c1.1 h)
    have t3 : (B != B') = true := by simp [h3]
    rw [if_pos e3, t3, if_pos rfl]
    exact decide_eq_decide.2 c2
  ·have e2 : ¬ y = 0 := fun h => h2 (b1.1 h)
   have t2 : (C != C') = true := by simp [h2]
   rw [if_pos e2, t2, if_pos rfl]
   exact decide_eq_decide.2 b2
 ·have e1 : ¬ x = 0 := fun h => h1 (a1.1 h)
  have t1 : (R != R') = true := by simp [h1]
  rw [if_pos e1, t1, if_pos rfl]
  exact decide_eq_decide.2 a2

set_option maxRecDepth 100000 in
set_option maxHeartbeats 2000000 in
theorem implLessVec_any (R C H B P R' C' H' B' P' : Int) (w : World) :
  Calls Tryz.prog 134 #[.agg #[.int .i64 R, .int .i64 C, .int .i64 H, .int .i64 B, .int .i64 P], .agg #[.int .i64 R', .int .i64 C', .int .i64 H', .int .i64 B', .int .i64 P']] w fun e w' => e = .returned (.bool (lessVc R C B P R' C' B' P')) ∧ Below w.heap.size w w' := by
 have q2 := below_two w (.cells #[.int .i64 R, .int .i64 C, .int .i64 H, .int .i64 B, .int .i64 P] 93) (.cells #[.int .i64 R', .int .i64 C', .int .i64 H', .int .i64 B', .int .i64 P'] 93)
 obtain ⟨k0, k1⟩ := kept_two (Below.refl _ ((w.alloc (.cells #[.int .i64 R, .int .i64 C, .int .i64 H, .int .i64 B, .int .i64 P] 93)).alloc (.cells #[.int .i64 R', .int .i64 C', .int .i64 H', .int .i64 B', .int .i64 P'] 93)))
 have HL := hide (or4_less R C B P R' C' B' P')
 generalize lessVc R C B P R' C' B' P' = L at *
 go_enter Tryz.func134, Tryz.ntmps134
 go_wp2_with fail
 generalize ((w.alloc (.cells #[.int .i64 R, .int .i64 C, .int .i64 H, .int .i64 B, .int .i64 P] 93)).alloc (.cells #[.int .i64 R', .int .i64 C', .int .i64 H', .int .i64 B', .int .i64 P'] 93)) = wb at *
 obtain ⟨⟨x0, x1, x2, x3, x4⟩, -⟩ := cells5 k0
 obtain ⟨⟨y0, y1, y2, y3, y4⟩, -⟩ := cells5 k1
 clear k0 k1
 go_region_held3 (fun W => (W.cell? ⟨w.heap.size, 0, none⟩ = some (.int .i64 R) ∧ W.cell? ⟨w.heap.size, 1, none⟩ = some (.int .i64 C) ∧ W.cell? ⟨w.heap.size, 3, none⟩ = some (.int .i64 B) ∧ W.cell? ⟨w.heap.size, 4, none⟩ = some (.int .i64 P)) ∧ (W.cell? ⟨w.heap.size + 1, 0, none⟩ = some (.int .i64 R') ∧ W.cell? ⟨w.heap.size + 1, 1, none⟩ = some (.int .i64 C') ∧ W.cell? ⟨w.heap.size + 1, 3, none⟩ = some (.int .i64 B') ∧ W.cell? ⟨w.heap.size + 1, 4, none⟩ = some (.int .i64 P'))) (first | assumption | go_keep) (first
  | (go_at_call 177; refine (compareI_any _ _ _).mono ?_; rintro e w1 ⟨rfl, rfl⟩)
  | (go_at_call 176; refine (or4_any (cmpI R R') (cmpI C C') (cmpI B B') (cmpI P P') wb.heap.size _ (drew_block (block_last wb _))).mono ?_; rintro e w2 ⟨rfl, rfl⟩))
 go_wp2
 go_ret
 exact ⟨ret_bool HL.out, gr_drew (gr_alloc q2 _)⟩

def heldV (id : Int) : Option (VD × Nat) → VD
 | none => ⟨id, 0, 0, 0, 0⟩
 | some (f, _) => f

structure BiSt (w W : World) (v : VD) : Prop where
 res : W.heap[w.heap.size]? = some (.cells #[.int .i64 0, .int .i64 0, .int .i64 0, .int .i64 0, .int .i64 0] 93)
 best : W.heap[w.heap.size + 1]? = some (.cells #[.int .i64 v.r, .int .i64 v.c, .int .i64 v.h, .int .i64 v.b, .int .i64 v.p] 93)
 below : Below w.heap.size w W

theorem BiSt.later {w W W' : World} {v : VD} (h : BiSt w W v) (hb : Below W.heap.size W W') : BiSt w W' v :=
 ⟨kept_block h.res hb, kept_block h.best hb, gr_trans h.below hb⟩

theorem BiSt.set {w W : World} {v : VD} (h : BiSt w W v) (u : VD) : BiSt w (((((W.setCell ⟨w.heap.size + 1, 0, none⟩ (.int .i64 u.r)).setCell ⟨w.heap.size + 1, 1, none⟩ (.int .i64 u.c)).setCell ⟨w.heap.size + 1, 2, none⟩ (.int .i64 u.h)).setCell ⟨w.heap.size + 1, 3, none⟩ (.int .i64 u.b)).setCell ⟨w.heap.size + 1, 4, none⟩ (.int .i64 u.p)) u :=
 ⟨kept_set5 h.res (by omega) _ _ _ _ _, box5_set h.best _ _ _ _ _, below_set5 h.below (by omega) _ _ _ _ _⟩

theorem less_held {id : Int} {u : VD} (h : u.r < id) : lessVc u.r u.c u.b u.p id 0 0 0 = true := by
 unfold lessVc
 have : (u.r != id) = true := by simp; omega
 rw [this]
 simp [h]

theorem best_round {id : Int} {s : Option (VD × Nat)} {i : Nat} {x : PT} (ho : offers id x = true) (hs : ∀ f j, s = some (f, j) → f.r < id) :
  bestStep id s i x = if lessV (overV x) (heldV id s) = true then some (overV x, i) else s := by
 have ho' := ho
 rw [offers_over] at ho'
 simp only [Bool.and_eq_true, decide_eq_true_eq] at ho'
 have e := over_yes ho'.1
 unfold bestStep
 rw [if_pos ho]
 cases s with
 | none =>
  rw [if_pos]
  ·rw [e]
  ·exact less_held ho'.2
 | some y =>
  obtain ⟨f, j⟩ := y
  simp only [heldV]
  rw [e]
  rfl

set_option maxRecDepth 100000 in
set_option maxHeartbeats 4000000 in
theorem implBestVec_any (id : Int) (a : Option Addr) (n c : Nat) (l : List PT) (w : World) (h : GRow ptF w a n c l) :
  Calls Tryz.prog 133 #[.int .i64 id, .slice a n c] w fun e w' => e = .returned (.tuple #[.agg #[.int .i64 (bestV id (bestOf id l)).r, .int .i64 (bestV id (bestOf id l)).c, .int .i64 (bestV id (bestOf id l)).h, .int .i64 (bestV id (bestOf id l)).b, .int .i64 (bestV id (bestOf id l)).p], .int .i64 (bestP (bestOf id l))]) ∧ Below w.heap.size w w' := by
 have hle := h.le
 have htop := h.top
 unfold maxLen at htop
 have hsz := hide h.size
 go_enter Tryz.func133, Tryz.ntmps133
 go_wp2_with fail
 generalize hw3 : (w.alloc (Obj.cells #[.int .i64 0, .int .i64 0, .int .i64 0, .int .i64 0, .int .i64 0] 93)).alloc (Obj.cells #[.int .i64 id, .int .i64 0, .int .i64 0, .int .i64 0, .int .i64 0] 93) = w3
 have st3 : BiSt w w3 (heldV id none) := by
  subst hw3
  obtain ⟨k0, k1⟩ := kept_two (Below.refl _ ((w.alloc (Obj.cells #[.int .i64 0, .int .i64 0, .int .i64 0, .int .i64 0, .int .i64 0] 93)).alloc (Obj.cells #[.int .i64 id, .int .i64 0, .int .i64 0, .int .i64 0, .int .i64 0] 93)))
  exact ⟨k0, k1, below_two _ _ _⟩
 clear hw3
 go_loopw [7, 16] (fun p i wr => ∃ (k : Nat) (s : Option (VD × Nat)), k ≤ n ∧ i = .int .i64 k ∧ p = .int .i64 (bestP s) ∧ (bestTo id l k = s ∧ ∀ f j, s = some (f, j) → f.r < id) ∧ BiSt w wr (heldV id s)) (fun _ i _ => n - (intOf i).toNat)
 case atStart => exact ⟨0, none, Nat.zero_le _, rfl, rfl, ⟨rfl, by intro f j e; cases e⟩, st3⟩
 case round =>
  obtain ⟨k, s, hk, rfl, rfl, ⟨hs, hrt⟩, st⟩ := hrel
  obtain ⟨hv, hhv⟩ : ∃ y, y = heldV id s := ⟨_, rfl⟩
  have BACK : Hid (∀ W, BiSt w W hv → BiSt w W (heldV id s)) := hide (by subst hhv; exact fun W h => h)
  rw [← hhv] at st
  have HHV := hide hhv
  have HRT := hide hrt
  clear hhv hrt
  by_cases hlt : k < n
  ·obtain ⟨x, b, off, hx, rfl, c0, c1, c2, c3, c4, c5, c6, c7⟩ := pt_at (h.below st.below) k hlt
   have hnx := bestTo_next (id := id) hx
   rw [hs] at hnx
   have i1 : (0 : Int) ≤ (k : Int) := by omega
   have i2 : (k : Int) < (n : Int) := by omega
   have NX := hide hnx
   have ST := hide st
   clear hs hnx hx st
   go_wp2_with fail
   refine (overLink_any x _).mono ?_
   rintro e w4 ⟨rfl, hb4⟩
   have st4 := (ST.out.later (below_one _ _)).later hb4
   clear hb4 c0 c1 c2 c3 c4 c5 c6 c7
   generalize hu : overV x = u
   generalize hq : overB x = q
   have HU := hide hu
   have HQ := hide hq
   clear hu hq
   go_upto_region 6 with fail
   generalize hw5 : w4.alloc (Obj.cells #[.int .i64 u.r, .int .i64 u.c, .int .i64 u.h, .int .i64 u.b, .int .i64 u.p] 93) = w5
   have st5 : BiSt w w5 hv := by rw [← hw5]; exact st4.later (below_one _ _)
   have kX : w5.heap[w4.heap.size]? = some (.cells #[.int .i64 u.r, .int .i64 u.c, .int .i64 u.h, .int .i64 u.b, .int .i64 u.p] 93) := by rw [← hw5]; exact block_last _ _
   have hl4 := (Array.getElem?_eq_some_iff.1 st4.best).1
   have ne1 : ¬ w4.heap.size = w.heap.size + 1 := by omega
   have ne2 : ¬ w.heap.size + 1 = w4.heap.size := by omega
   have HL4 := hide hl4
   obtain ⟨⟨x0, x1, x2, x3, x4⟩, -⟩ := cells5 kX
   obtain ⟨⟨z0, z1, z2, z3, z4⟩, v0, v1, v2, v3, v4⟩ := cells5 st5.best
   clear st4 hl4 hw5
   have ST5 := hide st5
   have KX := hide kX
   clear kX st5
   cases q
   ·have HE : Hid (bestTo id l (k + 1) = s) := hide (NX.out.trans (bestStep_no (by rw [offers_over, HQ.out]; rfl)))
    clear v0 v1 v2 v3 v4
    go_wp2
    go_roundw
    case rel => exact ⟨k + 1, s, by omega, by go_num, rfl, ⟨HE.out, HRT.out⟩, BACK.out _ ST5.out⟩
    case measure => simp [intOf]; omega
   cases hlr : decide (u.r < id)
   ·have HE : Hid (bestTo id l (k + 1) = s) := hide (NX.out.trans (bestStep_no (by rw [offers_over, HQ.out, HU.out, hlr]; rfl)))
    have hlr : ¬ u.r < id := by simpa using hlr
    clear v0 v1 v2 v3 v4
    go_wp2
    go_roundw
    case rel => exact ⟨k + 1, s, by omega, by go_num, rfl, ⟨HE.out, HRT.out⟩, BACK.out _ ST5.out⟩
    case measure => simp [intOf]; omega
   have HO : Hid (offers id x = true) := hide (by rw [offers_over, HQ.out, HU.out, hlr]; rfl)
   have hlr : u.r < id := by simpa using hlr
   have HLR := hide hlr
   have HSTEP : Hid (bestTo id l (k + 1) = if lessV u hv = true then some (u, k) else s) := hide (by rw [NX.out, best_round HO.out HRT.out, HU.out, HHV.out])
   cases hl : lessV u hv
   ·have HE : Hid (bestTo id l (k + 1) = s) := hide (by rw [HSTEP.out, hl]; rfl)
    have HL : Hid (lessVc u.r u.c u.b u.p hv.r hv.c hv.b hv.p = false) := hide hl
    clear hl v0 v1 v2 v3 v4
    go_wp2_with fail
    refine (implLessVec_any u.r u.c u.h u.b u.p hv.r hv.c hv.h hv.b hv.p _).mono ?_
    rintro e wl ⟨rfl, hbl⟩
    rw [HL.out]
    have SL := hide (ST5.out.later hbl)
    clear hbl x0 x1 x2 x3 x4 z0 z1 z2 z3 z4
    go_wp2
    go_roundw
    case rel => exact ⟨k + 1, s, by omega, by go_num, rfl, ⟨HE.out, HRT.out⟩, BACK.out _ SL.out⟩
    case measure => simp [intOf]; omega
   ·have HE : Hid (bestTo id l (k + 1) = some (u, k)) := hide (by rw [HSTEP.out, hl]; rfl)
    have HL : Hid (lessVc u.r u.c u.b u.p hv.r hv.c hv.b hv.p = true) := hide hl
    clear hl v0 v1 v2 v3 v4
    go_wp2_with fail
    refine (implLessVec_any u.r u.c u.h u.b u.p hv.r hv.c hv.h hv.b hv.p _).mono ?_
    rintro e wl ⟨rfl, hbl⟩
    rw [HL.out]
    have stl := ST5.out.later hbl
    have kX := kept_block KX.out hbl
    clear hbl x0 x1 x2 x3 x4 z0 z1 z2 z3 z4
    obtain ⟨⟨x0, x1, x2, x3, x4⟩, -⟩ := cells5 kX
    obtain ⟨⟨z0, z1, z2, z3, z4⟩, v0, v1, v2, v3, v4⟩ := cells5 stl.best
    have HSET : Hid (BiSt w _ u) := hide (stl.set u)
    clear stl kX
    go_wp2
    go_roundw
    case rel => exact ⟨k + 1, some (u, k), by omega, by go_num, rfl, ⟨HE.out, fun f j e => by cases e; exact HLR.out⟩, HSET.out⟩
    case measure => simp [intOf]; omega
  ·have hkn : k = n := by omega
   subst hkn
   have HB : Hid (bestOf id l = s) := hide (by unfold bestOf; rw [hsz.out]; exact hs)
   have HBV : Hid (bestV id s = ⟨hv.r, hv.c, hv.h, id, 0⟩) := hide (by rw [HHV.out]; cases s <;> rfl)
   obtain ⟨⟨x0, x1, x2, x3, x4⟩, y0, y1, y2, y3, y4⟩ := cells5 st.best
   obtain ⟨⟨r0, r1, r2, r3, r4⟩, z0, z1, z2, z3, z4⟩ := cells5 st.res
   have ne : ¬ w.heap.size = w.heap.size + 1 := by omega
   have hb := below_set5 (below_set (below_set st.below (g := w.heap.size + 1) (by omega) 3 (.int .i64 id)) (g := w.heap.size + 1) (by omega) 4 (.int .i64 0)) (Nat.le_refl w.heap.size) (.int .i64 hv.r) (.int .i64 hv.c) (.int .i64 hv.h) (.int .i64 id) (.int .i64 0)
   clear hs st
   go_wp2
   exact bodyPost_ret (v := .tuple #[.agg #[.int .i64 hv.r, .int .i64 hv.c, .int .i64 hv.h, .int .i64 id, .int .i64 0], .int .i64 (bestP s)]) (by simp [results, Tryz.results133, go_sem, *]) rfl ⟨(by rw [HB.out, HBV.out]), hb⟩

end Go.Proofs.YtddalpglihhipaaGreat
