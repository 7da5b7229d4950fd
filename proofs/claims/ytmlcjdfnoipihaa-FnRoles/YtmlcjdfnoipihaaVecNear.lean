/-
  The nearest vector that is right: the program's own.
-/
import Derived.Test.YtmlcjdfnoipihaaVecNums
import Derived.Deep.CutRange
import Derived.Lib.MinMax
namespace Go.Proofs.Ytmlcjdfnoipihaa
open Go.RowKit

abbrev leastC : Array Value := #[.int .i64 1, .int .i64 0, .int .i64 0, .int .i64 1, .int .i64 0]
abbrev mostC : Array Value := #[.int .i64 99, .int .i64 100000, .int .i64 10, .int .i64 99, .int .i64 7]
abbrev endsC : Array Value := #[.int .i64 1, .int .i64 0, .int .i64 0, .int .i64 1, .int .i64 0, .int .i64 99, .int .i64 100000, .int .i64 10, .int .i64 99, .int .i64 7]

/-- A number that is too small or too great, moved to its end. -/
def cl (n lo hi : Int) : Int := min (max n lo) hi

/-- The five numbers, the first k of them moved. -/
def nearC (R C H B P : Int) (k : Nat) : Array Value :=
  #[.int .i64 (if 0 < k then cl R 1 99 else R), .int .i64 (if 1 < k then cl C 0 100000 else C), .int .i64 (if 2 < k then cl H 0 10 else H), .int .i64 (if 3 < k then cl B 1 99 else B), .int .i64 (if 4 < k then cl P 0 7 else P)]

theorem cells10 {w : World} {C : Nat} {t : TypeId} {c0 c1 c2 c3 c4 c5 c6 c7 c8 c9 : Value} (h : w.heap[C]? = some (.cells #[c0, c1, c2, c3, c4, c5, c6, c7, c8, c9] t)) :
    w.cell? ⟨C, 0, none⟩ = some c0 ∧ w.cell? ⟨C, 1, none⟩ = some c1 ∧ w.cell? ⟨C, 2, none⟩ = some c2 ∧ w.cell? ⟨C, 3, none⟩ = some c3 ∧ w.cell? ⟨C, 4, none⟩ = some c4 ∧ w.cell? ⟨C, 5, none⟩ = some c5 ∧ w.cell? ⟨C, 6, none⟩ = some c6 ∧ w.cell? ⟨C, 7, none⟩ = some c7 ∧ w.cell? ⟨C, 8, none⟩ = some c8 ∧ w.cell? ⟨C, 9, none⟩ = some c9 := by
  refine ⟨?_, ?_, ?_, ?_, ?_, ?_, ?_, ?_, ?_, ?_⟩ <;> simp [World.cell?, h]

set_option maxRecDepth 100000 in
set_option maxHeartbeats 4000000 in
theorem nearest_any (R C H B P : Int) (w : World) :
    Calls Try.prog 51 #[.agg #[.int .i64 R, .int .i64 C, .int .i64 H, .int .i64 B, .int .i64 P]] w fun e w' => e = .returned (.agg #[.int .i64 (cl R 1 99), .int .i64 (cl C 0 100000), .int .i64 (cl H 0 10), .int .i64 (cl B 1 99), .int .i64 (cl P 0 7)]) ∧ Below w.heap.size w w' := by
  have q3 := below_three w (.cells #[.int .i64 R, .int .i64 C, .int .i64 H, .int .i64 B, .int .i64 P] 28) (.cells #[.int .i64 0, .int .i64 0, .int .i64 0, .int .i64 0, .int .i64 0] 28) (.cells endsC 77)
  obtain ⟨k0, k1, k2⟩ := kept_three (Below.refl _ (((w.alloc (.cells #[.int .i64 R, .int .i64 C, .int .i64 H, .int .i64 B, .int .i64 P] 28)).alloc (.cells #[.int .i64 0, .int .i64 0, .int .i64 0, .int .i64 0, .int .i64 0] 28)).alloc (.cells endsC 77)))
  have hn : (((w.alloc (.cells #[.int .i64 R, .int .i64 C, .int .i64 H, .int .i64 B, .int .i64 P] 28)).alloc (.cells #[.int .i64 0, .int .i64 0, .int .i64 0, .int .i64 0, .int .i64 0] 28)).alloc (.cells endsC 77)).heap.size = w.heap.size + 3 := by simp
  have HQ := hide q3
  have HK0 := hide k0
  have HK1 := hide k1
  have HN := hide hn
  clear q3 k0 k1 hn
  go_enter Try.func51, Try.ntmps51
  go_upto_region 2 with fail
  generalize (((w.alloc (.cells #[.int .i64 R, .int .i64 C, .int .i64 H, .int .i64 B, .int .i64 P] 28)).alloc (.cells #[.int .i64 0, .int .i64 0, .int .i64 0, .int .i64 0, .int .i64 0] 28)).alloc (.cells endsC 77)) = w3 at *
  obtain ⟨x0, x1, x2, x3, x4, x5, x6, x7, x8, x9⟩ := cells10 k2
  have K2 := hide k2
  clear k2
  go_cut [4, 5] from 9 to 38 (fun s t wc => ∃ p4 p5 : Nat, s = .pointer (some ⟨p4, 0, none⟩) ∧ t = .pointer (some ⟨p5, 0, none⟩) ∧ wc.heap[p4]? = some (.cells leastC 78) ∧ wc.heap[p5]? = some (.cells mostC 78) ∧ ¬ p4 = p5 ∧ w3.heap.size ≤ p4 ∧ w3.heap.size ≤ p5 ∧ Below w3.heap.size w3 wc)
  case first =>
    go_region_held3 (fun W => W.cell? ⟨w.heap.size + 1 + 1, 0, none⟩ = some (.int .i64 1) ∧ W.cell? ⟨w.heap.size + 1 + 1, 1, none⟩ = some (.int .i64 0) ∧ W.cell? ⟨w.heap.size + 1 + 1, 2, none⟩ = some (.int .i64 0) ∧ W.cell? ⟨w.heap.size + 1 + 1, 3, none⟩ = some (.int .i64 1) ∧ W.cell? ⟨w.heap.size + 1 + 1, 4, none⟩ = some (.int .i64 0) ∧ W.cell? ⟨w.heap.size + 1 + 1, 5, none⟩ = some (.int .i64 99) ∧ W.cell? ⟨w.heap.size + 1 + 1, 6, none⟩ = some (.int .i64 100000) ∧ W.cell? ⟨w.heap.size + 1 + 1, 7, none⟩ = some (.int .i64 10) ∧ W.cell? ⟨w.heap.size + 1 + 1, 8, none⟩ = some (.int .i64 99) ∧ W.cell? ⟨w.heap.size + 1 + 1, 9, none⟩ = some (.int .i64 7))
      (first | assumption | exact cells10 (kept_block K2.out (by repeat (first | exact Below.refl _ _ | refine gr_drew ?_ | refine gr_alloc ?_ _))) | go_keep) (first
      | (go_at_call 54; refine (numbersOf_at _ _ _ _ _ _).mono ?_; rintro e wx ⟨rfl, rfl⟩))
    all_goals
      go_wp2_with fail
      go_meet
      refine ⟨_, _, rfl, rfl, by repeat (first | (refine block_at ?_; simp; done) | refine kept_block ?_ (below_one _ _) | refine drew_block ?_), by repeat (first | (refine block_at ?_; simp; done) | refine kept_block ?_ (below_one _ _) | refine drew_block ?_), by omega, by omega, by omega, by repeat (first | exact Below.refl _ _ | refine gr_drew ?_ | refine gr_alloc ?_ _)⟩
  case rest =>
    obtain ⟨p4, p5, rfl, rfl, h4, h5, hne, hp4, hp5, hbc⟩ := hcut
    have hn := HN.out
    have hsz := hbc.size
    obtain ⟨⟨v0, v1, v2, v3, v4⟩, -⟩ := cells5 (kept_block HK0.out hbc)
    clear x0 x1 x2 x3 x4 x5 x6 x7 x8 x9
    go_wp2_with fail
    refine (numbersOf_any R C H B P _).mono ?_
    rintro e w6 ⟨rfl, hb6⟩
    have hs6 := hb6.size
    have q6 := gr_trans hbc hb6
    have k4 := kept_block (kept_block h4 hb6) (below_one w6 (.cells #[.int .i64 R, .int .i64 C, .int .i64 H, .int .i64 B, .int .i64 P] 78))
    have k5 := kept_block (kept_block h5 hb6) (below_one w6 (.cells #[.int .i64 R, .int .i64 C, .int .i64 H, .int .i64 B, .int .i64 P] 78))
    have k6 := block_last w6 (.cells #[.int .i64 R, .int .i64 C, .int .i64 H, .int .i64 B, .int .i64 P] 78)
    have k1 := kept_block (kept_block HK1.out q6) (below_one w6 (.cells #[.int .i64 R, .int .i64 C, .int .i64 H, .int .i64 B, .int .i64 P] 78))
    have hq := HQ.out
    have lt4 : p4 < w6.heap.size := (Array.getElem?_eq_some_iff.1 (kept_block h4 hb6)).1
    have lt5 : p5 < w6.heap.size := (Array.getElem?_eq_some_iff.1 (kept_block h5 hb6)).1
    clear v0 v1 v2 v3 v4 hb6
    go_wp2_with fail
    go_loopw [21] (fun i wr => ∃ k : Nat, k ≤ 5 ∧ i = .int .i64 k ∧ wr.heap[w6.heap.size]? = some (.cells (nearC R C H B P k) 78) ∧ (w6.alloc (.cells #[.int .i64 R, .int .i64 C, .int .i64 H, .int .i64 B, .int .i64 P] 78)).grownBy wr (some w6.heap.size)) (fun i _ => 5 - (intOf i).toNat)
    case atStart => exact ⟨0, Nat.zero_le _, rfl, k6, World.grownBy.refl _ _⟩
    case round =>
      obtain ⟨k, hk, hi, hc6, hg⟩ := hrel
      have c4 := kept_grown k4 hg (by intro j e; cases e; omega)
      have c5 := kept_grown k5 hg (by intro j e; cases e; omega)
      have c1 := kept_grown k1 hg (by intro j e; cases e; omega)
      have HG := hide hg
      obtain ⟨⟨y0, y1, y2, y3, y4⟩, -⟩ := cells5 c4
      obtain ⟨⟨z0, z1, z2, z3, z4⟩, -⟩ := cells5 c5
      have H6 := hide hc6
      have H1 := hide c1
      clear c4 c5 k4 k5 k6 k1 h4 h5 hg c1 hc6
      rcases (show k = 0 ∨ k = 1 ∨ k = 2 ∨ k = 3 ∨ k = 4 ∨ k = 5 by omega) with rfl | rfl | rfl | rfl | rfl | rfl
      · have hi : _ = Value.int .i64 0 := hi
        subst hi
        have h6 : wr.heap[w6.heap.size]? = some (.cells #[.int .i64 R, .int .i64 C, .int .i64 H, .int .i64 B, .int .i64 P] 78) := H6.out
        obtain ⟨⟨u0, u1, u2, u3, u4⟩, f0, f1, f2, f3, f4⟩ := cells5 h6
        clear h6
        have ix := index5_0 R C H B P wr
        go_wp2_with fail
        go_region
        go_wp2
        go_roundw
        case rel =>
          refine ⟨0 + 1, by omega, by go_num, ?_, grownTr (grownTr HG.out (grown_set _ _)) (grownOf (gr_drew (Below.refl _ _)))⟩
          have := set_block5 (j := 0) H6.out (.int .i64 (cl R 1 99))
          exact drew_block this
        case measure => simp [intOf]
      · have hi : _ = Value.int .i64 1 := hi
        subst hi
        have h6 : wr.heap[w6.heap.size]? = some (.cells #[.int .i64 (cl R 1 99), .int .i64 C, .int .i64 H, .int .i64 B, .int .i64 P] 78) := H6.out
        obtain ⟨⟨u0, u1, u2, u3, u4⟩, f0, f1, f2, f3, f4⟩ := cells5 h6
        clear h6
        have ix := index5_1 R C H B P wr
        go_wp2_with fail
        go_region
        go_wp2
        go_roundw
        case rel =>
          refine ⟨1 + 1, by omega, by go_num, ?_, grownTr (grownTr HG.out (grown_set _ _)) (grownOf (gr_drew (Below.refl _ _)))⟩
          have := set_block5 (j := 1) H6.out (.int .i64 (cl C 0 100000))
          exact drew_block this
        case measure => simp [intOf]
      · have hi : _ = Value.int .i64 2 := hi
        subst hi
        have h6 : wr.heap[w6.heap.size]? = some (.cells #[.int .i64 (cl R 1 99), .int .i64 (cl C 0 100000), .int .i64 H, .int .i64 B, .int .i64 P] 78) := H6.out
        obtain ⟨⟨u0, u1, u2, u3, u4⟩, f0, f1, f2, f3, f4⟩ := cells5 h6
        clear h6
        have ix := index5_2 R C H B P wr
        go_wp2_with fail
        go_region
        go_wp2
        go_roundw
        case rel =>
          refine ⟨2 + 1, by omega, by go_num, ?_, grownTr (grownTr HG.out (grown_set _ _)) (grownOf (gr_drew (Below.refl _ _)))⟩
          have := set_block5 (j := 2) H6.out (.int .i64 (cl H 0 10))
          exact drew_block this
        case measure => simp [intOf]
      · have hi : _ = Value.int .i64 3 := hi
        subst hi
        have h6 : wr.heap[w6.heap.size]? = some (.cells #[.int .i64 (cl R 1 99), .int .i64 (cl C 0 100000), .int .i64 (cl H 0 10), .int .i64 B, .int .i64 P] 78) := H6.out
        obtain ⟨⟨u0, u1, u2, u3, u4⟩, f0, f1, f2, f3, f4⟩ := cells5 h6
        clear h6
        have ix := index5_3 R C H B P wr
        go_wp2_with fail
        go_region
        go_wp2
        go_roundw
        case rel =>
          refine ⟨3 + 1, by omega, by go_num, ?_, grownTr (grownTr HG.out (grown_set _ _)) (grownOf (gr_drew (Below.refl _ _)))⟩
          have := set_block5 (j := 3) H6.out (.int .i64 (cl B 1 99))
          exact drew_block this
        case measure => simp [intOf]
      · have hi : _ = Value.int .i64 4 := hi
        subst hi
        have h6 : wr.heap[w6.heap.size]? = some (.cells #[.int .i64 (cl R 1 99), .int .i64 (cl C 0 100000), .int .i64 (cl H 0 10), .int .i64 (cl B 1 99), .int .i64 P] 78) := H6.out
        obtain ⟨⟨u0, u1, u2, u3, u4⟩, f0, f1, f2, f3, f4⟩ := cells5 h6
        clear h6
        have ix := index5_4 R C H B P wr
        go_wp2_with fail
        go_region
        go_wp2
        go_roundw
        case rel =>
          refine ⟨4 + 1, by omega, by go_num, ?_, grownTr (grownTr HG.out (grown_set _ _)) (grownOf (gr_drew (Below.refl _ _)))⟩
          have := set_block5 (j := 4) H6.out (.int .i64 (cl P 0 7))
          exact drew_block this
        case measure => simp [intOf]
      · have hi : _ = Value.int .i64 5 := hi
        subst hi
        have h6 : wr.heap[w6.heap.size]? = some (.cells #[.int .i64 (cl R 1 99), .int .i64 (cl C 0 100000), .int .i64 (cl H 0 10), .int .i64 (cl B 1 99), .int .i64 (cl P 0 7)] 78) := H6.out
        obtain ⟨⟨u0, u1, u2, u3, u4⟩, f0, f1, f2, f3, f4⟩ := cells5 h6
        clear h6
        go_wp2_with fail
        refine (vecOf_any (cl R 1 99) (cl C 0 100000) (cl H 0 10) (cl B 1 99) (cl P 0 7) _).mono ?_
        rintro e w9 ⟨rfl, hb9⟩
        obtain ⟨⟨t0, t1, t2, t3, t4⟩, g0, g1, g2, g3, g4⟩ := cells5 (kept_block H1.out hb9)
        have b9 := gr_trans hq (gr_trans q6 (gr_trans (belowGr (below_one w6 _) HG.out (Nat.le_refl _)) hb9))
        have HB := hide b9
        clear u0 u1 u2 u3 u4 f0 f1 f2 f3 f4 hb9 b9
        go_wp2
        exact bodyPost_ret (v := .agg #[.int .i64 (cl R 1 99), .int .i64 (cl C 0 100000), .int .i64 (cl H 0 10), .int .i64 (cl B 1 99), .int .i64 (cl P 0 7)]) (by simp [results, Try.results51, go_sem, *]) rfl ⟨rfl, below_set5 HB.out (by omega) _ _ _ _ _⟩

end Go.Proofs.Ytmlcjdfnoipihaa
