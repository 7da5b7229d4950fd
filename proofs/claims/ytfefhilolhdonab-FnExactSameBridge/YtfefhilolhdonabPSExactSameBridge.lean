/-
  FnExactSameBridge answers true at all arguments: SameBridge answers as the specification; it writes into no argument.
-/
import Derived.Test.YtfefhilolhdonabPSBrHelp
import Derived.Test.YtfefhilolhdonabPSBrSameI
import Derived.Test.YtfefhilolhdonabPSBrSameS
import Derived.Test.YtfefhilolhdonabPSK01
import Derived.Test.YtfefhilolhdonabPSK03
import Derived.Deep.RegionHeld3
import Derived.WalkKit
import Derived.ProofKit
import Derived.OpenShut
import Derived.ShutString
import Derived.ChangeOld
import Derived.Below
import Derived.Lib.SmallJoins
namespace Go.Proofs.Ytfefhilolhdonab
open Go.RowKit

set_option maxRecDepth 100000 in
set_option maxHeartbeats 16000000 in
theorem exactSameBridge_walk (a0 : Option Addr) (n0 c0 : Nat) (fa0 : Option Addr) (fn0 fc0 : Nat) (ra0 : Option Addr) (rn0 rc0 : Nat) (oa0 : Option Addr) (on0 oc0 : Nat) (B0 : BR) (a1 : Option Addr) (n1 c1 : Nat) (fa1 : Option Addr) (fn1 fc1 : Nat) (ra1 : Option Addr) (rn1 rc1 : Nat) (oa1 : Option Addr) (on1 oc1 : Nat) (B1 : BR) (w : World) (h0 : BrRow w a0 n0 c0 fa0 fn0 fc0 ra0 rn0 rc0 oa0 on0 oc0 B0) (g0 : B0.Rng) (h1 : BrRow w a1 n1 c1 fa1 fn1 fc1 ra1 rn1 rc1 oa1 on1 oc1 B1) (g1 : B1.Rng) :
  Calls Try.prog 3 #[.agg #[.int .i64 B0.id, .string B0.name, .slice a0 n0 c0, .slice fa0 fn0 fc0, .slice ra0 rn0 rc0, .slice oa0 on0 oc0, .int .i64 B0.ticks, .int .i64 B0.parse, .int .i64 B0.word, .int .i64 B0.drops, .int .i64 B0.vers], .agg #[.int .i64 B1.id, .string B1.name, .slice a1 n1 c1, .slice fa1 fn1 fc1, .slice ra1 rn1 rc1, .slice oa1 on1 oc1, .int .i64 B1.ticks, .int .i64 B1.parse, .int .i64 B1.word, .int .i64 B1.drops, .int .i64 B1.vers]] w fun e w' => e = .returned (.bool true) ∧ Below w.heap.size w w' := by
 generalize hwA : w.alloc (Obj.cells #[.int .i64 B0.id, .string B0.name, .slice a0 n0 c0, .slice fa0 fn0 fc0, .slice ra0 rn0 rc0, .slice oa0 on0 oc0, .int .i64 B0.ticks, .int .i64 B0.parse, .int .i64 B0.word, .int .i64 B0.drops, .int .i64 B0.vers] 29) = wA
 generalize hwB : wA.alloc (Obj.cells #[.int .i64 B1.id, .string B1.name, .slice a1 n1 c1, .slice fa1 fn1 fc1, .slice ra1 rn1 rc1, .slice oa1 on1 oc1, .int .i64 B1.ticks, .int .i64 B1.parse, .int .i64 B1.word, .int .i64 B1.drops, .int .i64 B1.vers] 29) = wB
 have uA : Below w.heap.size w wA := by subst hwA; exact below_one _ _
 have uAB : Below wA.heap.size wA wB := by subst hwB; exact below_one _ _
 have uB := gr_trans uA uAB
 have kA : wB.heap[w.heap.size]? = some (.cells #[.int .i64 B0.id, .string B0.name, .slice a0 n0 c0, .slice fa0 fn0 fc0, .slice ra0 rn0 rc0, .slice oa0 on0 oc0, .int .i64 B0.ticks, .int .i64 B0.parse, .int .i64 B0.word, .int .i64 B0.drops, .int .i64 B0.vers] 29) := kept_block (by rw [← hwA]; exact block_last _ _) uAB
 have kB : wB.heap[wA.heap.size]? = some (.cells #[.int .i64 B1.id, .string B1.name, .slice a1 n1 c1, .slice fa1 fn1 fc1, .slice ra1 rn1 rc1, .slice oa1 on1 oc1, .int .i64 B1.ticks, .int .i64 B1.parse, .int .i64 B1.word, .int .i64 B1.drops, .int .i64 B1.vers] 29) := by rw [← hwB]; exact block_last _ _
 clear uA uAB
 obtain ⟨x0, x1, x2, x3, x4, x5, x6, x7, x8, x9, x10⟩ := cells11 kA
 have hsz0 : sizeB B0 = (B0.name.size : Int) + n0 + fn0 + (rn0 + on0) := by unfold sizeB; rw [h0.ports.size, h0.f.size, h0.v.rows.size, h0.v.own.size]
 have hsz1 : sizeB B1 = (B1.name.size : Int) + n1 + fn1 + (rn1 + on1) := by unfold sizeB; rw [h1.ports.size, h1.f.size, h1.v.rows.size, h1.v.own.size]
 have hp0 : 0 ≤ sizeB B0 := by omega
 have hp1 : 0 ≤ sizeB B1 := by omega
 by_cases gb : sizeB B0 ≤ 1048576
 rotate_left
 ·go_enter Try.func3, Try.ntmps3
  go_wp2_with fail
  refine (szBridge_from 1048576 (by omega) (by omega) a0 n0 c0 fa0 fn0 fc0 ra0 rn0 rc0 oa0 on0 oc0 B0 _ (h0.below uB) g0.name).mono ?_
  rintro e w1 ⟨rfl, hb1⟩
  rw [if_neg (show ¬ sizeB B0 ≤ 1048576 by omega)]
  have HB := hide (gr_trans uB hb1)
  clear x0 x1 x2 x3 x4 x5 x6 x7 x8 x9 x10
  go_wp2
  go_ret
  exact ⟨rfl, HB.out⟩
 have gs : ¬ ((1048576 : Int) - sizeB B0 < 0) := by omega
 by_cases gb1 : sizeB B1 ≤ 1048576 - sizeB B0
 rotate_left
 ·go_enter Try.func3, Try.ntmps3
  go_wp2_with fail
  refine (szBridge_from 1048576 (by omega) (by omega) a0 n0 c0 fa0 fn0 fc0 ra0 rn0 rc0 oa0 on0 oc0 B0 _ (h0.below uB) g0.name).mono ?_
  rintro e w1 ⟨rfl, hb1⟩
  rw [if_pos gb]
  have kB := kept_block kB hb1
  have u1 := gr_trans uB hb1
  clear hb1 x0 x1 x2 x3 x4 x5 x6 x7 x8 x9 x10 hsz0 hsz1
  obtain ⟨x0, x1, x2, x3, x4, x5, x6, x7, x8, x9, x10⟩ := cells11 kB
  generalize hSZ0 : sizeB B0 = SZ0 at *
  go_wp2_with fail
  refine (szBridge_from (1048576 - SZ0) (by omega) (by omega) a1 n1 c1 fa1 fn1 fc1 ra1 rn1 rc1 oa1 on1 oc1 B1 _ (h1.below u1) g1.name).mono ?_
  rintro e w2 ⟨rfl, hb2⟩
  rw [if_neg (show ¬ sizeB B1 ≤ 1048576 - SZ0 by omega)]
  have HB := hide (gr_trans u1 hb2)
  clear x0 x1 x2 x3 x4 x5 x6 x7 x8 x9 x10
  go_wp2
  go_ret
  exact ⟨rfl, HB.out⟩
 have gn0 : n0 ≤ 1048576 := by omega
 have gf0 : fn0 ≤ 1048576 := by omega
 have gr0 : rn0 ≤ 1048576 := by omega
 have go0 : on0 ≤ 1048576 := by omega
 have gn1 : n1 ≤ 1048576 := by omega
 have gf1 : fn1 ≤ 1048576 := by omega
 have gr1 : rn1 ≤ 1048576 := by omega
 have go1 : on1 ≤ 1048576 := by omega
 have gs1 : ¬ ((1048576 : Int) - sizeB B0 - sizeB B1 < 0) := by omega
 clear hsz0 hsz1
 go_enter Try.func3, Try.ntmps3
 go_wp2_with fail
 refine (szBridge_from 1048576 (by omega) (by omega) a0 n0 c0 fa0 fn0 fc0 ra0 rn0 rc0 oa0 on0 oc0 B0 _ (h0.below uB) g0.name).mono ?_
 rintro e w1 ⟨rfl, hb1⟩
 rw [if_pos gb]
 have kA := kept_block kA hb1
 have kB := kept_block kB hb1
 have u1 := gr_trans uB hb1
 clear hb1 x0 x1 x2 x3 x4 x5 x6 x7 x8 x9 x10
 obtain ⟨x0, x1, x2, x3, x4, x5, x6, x7, x8, x9, x10⟩ := cells11 kB
 generalize hSZ0 : sizeB B0 = SZ0 at *
 go_wp2_with fail
 refine (szBridge_from (1048576 - SZ0) (by omega) (by omega) a1 n1 c1 fa1 fn1 fc1 ra1 rn1 rc1 oa1 on1 oc1 B1 _ (h1.below u1) g1.name).mono ?_
 rintro e w2 ⟨rfl, hb2⟩
 rw [if_pos gb1]
 have kA := kept_block kA hb2
 have kB := kept_block kB hb2
 have u2 := gr_trans u1 hb2
 clear hb2 x0 x1 x2 x3 x4 x5 x6 x7 x8 x9 x10 u1 uB hwA hwB hSZ0
 generalize hSZ1 : sizeB B1 = SZ1 at *
 clear hSZ1
 go_upto_region 8 with fail
 go_cut [6] from 10 to 44 (fun s wx => ∃ q : Bool, s = .bool q ∧ (q = true ↔ B0 = B1) ∧ Below w2.heap.size w2 wx)
 case first =>
  have vv : Below w2.heap.size w2 w2.drew := gr_drew (Below.refl _ _)
  go_wp2_with fail
  refine wp_region_held_drew (S := (fun W => (W.cell? ⟨w.heap.size, 0, none⟩ = some (.int .i64 B0.id) ∧ W.cell? ⟨w.heap.size, 1, none⟩ = some (.string B0.name) ∧ W.cell? ⟨w.heap.size, 2, none⟩ = some (.slice a0 n0 c0) ∧ W.cell? ⟨w.heap.size, 3, none⟩ = some (.slice fa0 fn0 fc0) ∧ W.cell? ⟨w.heap.size, 4, none⟩ = some (.slice ra0 rn0 rc0) ∧ W.cell? ⟨w.heap.size, 5, none⟩ = some (.slice oa0 on0 oc0) ∧ W.cell? ⟨w.heap.size, 6, none⟩ = some (.int .i64 B0.ticks) ∧ W.cell? ⟨w.heap.size, 7, none⟩ = some (.int .i64 B0.parse) ∧ W.cell? ⟨w.heap.size, 8, none⟩ = some (.int .i64 B0.word) ∧ W.cell? ⟨w.heap.size, 9, none⟩ = some (.int .i64 B0.drops) ∧ W.cell? ⟨w.heap.size, 10, none⟩ = some (.int .i64 B0.vers)) ∧ (W.cell? ⟨wA.heap.size, 0, none⟩ = some (.int .i64 B1.id) ∧ W.cell? ⟨wA.heap.size, 1, none⟩ = some (.string B1.name) ∧ W.cell? ⟨wA.heap.size, 2, none⟩ = some (.slice a1 n1 c1) ∧ W.cell? ⟨wA.heap.size, 3, none⟩ = some (.slice fa1 fn1 fc1) ∧ W.cell? ⟨wA.heap.size, 4, none⟩ = some (.slice ra1 rn1 rc1) ∧ W.cell? ⟨wA.heap.size, 5, none⟩ = some (.slice oa1 on1 oc1) ∧ W.cell? ⟨wA.heap.size, 6, none⟩ = some (.int .i64 B1.ticks) ∧ W.cell? ⟨wA.heap.size, 7, none⟩ = some (.int .i64 B1.parse) ∧ W.cell? ⟨wA.heap.size, 8, none⟩ = some (.int .i64 B1.word) ∧ W.cell? ⟨wA.heap.size, 9, none⟩ = some (.int .i64 B1.drops) ∧ W.cell? ⟨wA.heap.size, 10, none⟩ = some (.int .i64 B1.vers)))) (by kernel_rfl) (⟨cells11 (kept_block kA vv), cells11 (kept_block kB vv)⟩) (fun hHeld => ?_)
  refine wpAnyH_take (i := 0) (oi := ⟨some 20, .load 29 (.tmp 2), 29, "exact.go:4144", #[], none⟩) (v := ?_) rfl (by kernel_rfl) (by kernel_rfl) (by kernel_rfl) (fun _ _ _ h => h) (Or.inl ⟨by rfl, ?_⟩) (by assumption) ?_
  rotate_left
  ·(intro wY hSw; (try dsimp only at hSw); go_simp; try with_reducible rfl)
  simp only [Act.put, lA, lB, lC]
  refine wpAnyH_take (i := 2) (oi := ⟨some 22, .load 29 (.tmp 3), 29, "exact.go:4144", #[], none⟩) (v := ?_) rfl (by kernel_rfl) (by kernel_rfl) (by kernel_rfl) (fun _ _ _ h => h) (Or.inl ⟨by rfl, ?_⟩) (by assumption) ?_
  rotate_left
  ·(intro wY hSw; (try dsimp only at hSw); go_simp; try with_reducible rfl)
  simp only [Act.put, lA, lB, lC]
  refine wpAnyH_ready (rs := [1]) (by kernel_rfl) (by simp) ?_
  refine AllReadyH.cons (o := ⟨some 21, .call ⟨.value (.func 6), #[.tmp 20], #[29]⟩, 38, "exact.go:4144", #[⟨0, .data⟩], none⟩) rfl (fun K hK => ?_) ?_
  ·go_simp
   refine (toBridge_made a0 n0 c0 fa0 fn0 fc0 ra0 rn0 rc0 oa0 on0 oc0 B0 _ (h0.below (gr_trans u2 vv)) gn0 gf0 gr0 go0).mono ?_
   rintro e wt ⟨a6, c6, fa6, fc6, ra6, rc6, oa6, oc6, rfl, t6, hbt⟩
   try have t7 := t7.below hbt
   have vv := gr_trans vv hbt
   clear hbt
   go_wp2_with fail
   refine hK.out _ _ (⟨cells11 (kept_block kA vv), cells11 (kept_block kB vv)⟩) (fun hHeld => ?_)
   clear hK K
   try simp only [Act.put, lA, lB, lC]
   refine wpAnyH_ready (rs := [3]) (by kernel_rfl) (by simp) ?_
   refine AllReadyH.cons (o := ⟨some 23, .call ⟨.value (.func 6), #[.tmp 22], #[29]⟩, 38, "exact.go:4144", #[⟨2, .data⟩, ⟨1, .chain⟩], none⟩) rfl (fun K hK => ?_) ?_
   ·go_simp
    refine (toBridge_made a1 n1 c1 fa1 fn1 fc1 ra1 rn1 rc1 oa1 on1 oc1 B1 _ (h1.below (gr_trans u2 vv)) gn1 gf1 gr1 go1).mono ?_
    rintro e wt ⟨a7, c7, fa7, fc7, ra7, rc7, oa7, oc7, rfl, t7, hbt⟩
    try have t6 := t6.below hbt
    have vv := gr_trans vv hbt
    clear hbt
    go_wp2_with fail
    refine hK.out _ _ (⟨cells11 (kept_block kA vv), cells11 (kept_block kB vv)⟩) (fun hHeld => ?_)
    clear hK K
    try simp only [Act.put, lA, lB, lC]
    refine wpAnyH_ready (rs := [4]) (by kernel_rfl) (by simp) ?_
    refine AllReadyH.cons (o := ⟨some 24, .call ⟨.value (.func 5), #[.tmp 21, .tmp 23], #[38, 38]⟩, 4, "exact.go:4144", #[⟨1, .data⟩, ⟨3, .data⟩, ⟨3, .chain⟩], none⟩) rfl (fun K hK => ?_) ?_
    ·go_simp
     refine (specSameB_any _ _ _ _ _ _ _ _ _ _ _ _ B0 _ _ _ _ _ _ _ _ _ _ _ _ B1 _ t6.row t7.row).mono ?_
     rintro e wt ⟨q, rfl, hq, hbt⟩
     have vv := gr_trans vv hbt
     clear hbt t6 t7
     go_wp2_with fail
     refine hK.out _ _ (⟨cells11 (kept_block kA vv), cells11 (kept_block kB vv)⟩) (fun hHeld => ?_)
     clear hK K
     try simp only [Act.put, lA, lB, lC]
     refine wpAnyH_take (i := 5) (oi := ⟨some 6, .assign (.tmp 24), 4, "exact.go:4144", #[⟨4, .data⟩, ⟨4, .chain⟩, ⟨0, .phase⟩, ⟨1, .phase⟩, ⟨2, .phase⟩, ⟨3, .phase⟩, ⟨4, .phase⟩], none⟩) (v := ?_) rfl (by kernel_rfl) (by kernel_rfl) (by kernel_rfl) (fun _ _ _ h => h) (Or.inl ⟨by rfl, ?_⟩) (by assumption) ?_
     rotate_left
     ·(intro wY hSw; (try dsimp only at hSw); go_simp; try with_reducible rfl)
     simp only [Act.put, lA, lB, lC]
     refine wpAnyH_done (by kernel_rfl) ?_ _
     clear hHeld
     go_wp2_with fail
     go_meet
     exact ⟨q, rfl, hq, vv⟩
    exact AllReadyH.nil
   exact AllReadyH.nil
  exact AllReadyH.nil
 case rest =>
  obtain ⟨q, rfl, hq, hb3⟩ := hcut
  obtain ⟨w3, hw3⟩ : ∃ x, x = wc := ⟨_, rfl⟩
  subst hw3
  have HQ := hide hq
  have kA := kept_block kA hb3
  have kB := kept_block kB hb3
  have u3 := gr_trans u2 hb3
  clear hb3 u2 hq
  obtain ⟨x0, x1, x2, x3, x4, x5, x6, x7, x8, x9, x10⟩ := cells11 kA
  go_wp2_with fail
  refine (toBridge_made a0 n0 c0 fa0 fn0 fc0 ra0 rn0 rc0 oa0 on0 oc0 B0 _ (h0.below u3) gn0 gf0 gr0 go0).mono ?_
  rintro e w4 ⟨a4, c4, fa4, fc4, ra4, rc4, oa4, oc4, rfl, t4, hb4⟩
  generalize hwX : w4.alloc (Obj.cells #[.int .i64 B0.id, .string B0.name, .slice a4 n0 c4, .slice fa4 fn0 fc4, .slice ra4 rn0 rc4, .slice oa4 on0 oc4, .int .i64 B0.ticks, .int .i64 B0.parse, .int .i64 B0.word, .int .i64 B0.drops, .int .i64 B0.vers] 38) = wX
  have b4X : Below w4.heap.size w4 wX := by subst hwX; exact below_one _ _
  have kX : wX.heap[w4.heap.size]? = some (.cells #[.int .i64 B0.id, .string B0.name, .slice a4 n0 c4, .slice fa4 fn0 fc4, .slice ra4 rn0 rc4, .slice oa4 on0 oc4, .int .i64 B0.ticks, .int .i64 B0.parse, .int .i64 B0.word, .int .i64 B0.drops, .int .i64 B0.vers] 38) := by rw [← hwX]; exact block_last _ _
  have tX := t4.below b4X
  have d4 := gr_trans hb4 b4X
  have kA := kept_block kA d4
  have kB := kept_block kB d4
  have u4 := gr_trans u3 d4
  clear x0 x1 x2 x3 x4 x5 x6 x7 x8 x9 x10 t4 hb4 d4 u3 b4X
  obtain ⟨x0, x1, x2, x3, x4, x5, x6, x7, x8, x9, x10⟩ := cells11 kB
  go_wp2_with fail
  refine (toBridge_made a1 n1 c1 fa1 fn1 fc1 ra1 rn1 rc1 oa1 on1 oc1 B1 _ (h1.below u4) gn1 gf1 gr1 go1).mono ?_
  rintro e w5 ⟨a5, c5, fa5, fc5, ra5, rc5, oa5, oc5, rfl, t5, hb5⟩
  generalize hwY : w5.alloc (Obj.cells #[.int .i64 B1.id, .string B1.name, .slice a5 n1 c5, .slice fa5 fn1 fc5, .slice ra5 rn1 rc5, .slice oa5 on1 oc5, .int .i64 B1.ticks, .int .i64 B1.parse, .int .i64 B1.word, .int .i64 B1.drops, .int .i64 B1.vers] 38) = wY
  have b5Y : Below w5.heap.size w5 wY := by subst hwY; exact below_one _ _
  have kY : wY.heap[w5.heap.size]? = some (.cells #[.int .i64 B1.id, .string B1.name, .slice a5 n1 c5, .slice fa5 fn1 fc5, .slice ra5 rn1 rc5, .slice oa5 on1 oc5, .int .i64 B1.ticks, .int .i64 B1.parse, .int .i64 B1.word, .int .i64 B1.drops, .int .i64 B1.vers] 38) := by rw [← hwY]; exact block_last _ _
  have tY := t5.below b5Y
  have d5 := gr_trans hb5 b5Y
  have kA := kept_block kA d5
  have kB := kept_block kB d5
  have kX := kept_block kX d5
  have tX := tX.below d5
  have u5 := gr_trans u4 d5
  clear x0 x1 x2 x3 x4 x5 x6 x7 x8 x9 x10 t5 hb5 d5 u4 b5Y
  obtain ⟨x0, x1, x2, x3, x4, x5, x6, x7, x8, x9, x10⟩ := cells11 kX
  obtain ⟨y0, y1, y2, y3, y4, y5, y6, y7, y8, y9, y10⟩ := cells11 kY
  go_wp2_with fail
  refine (implSameB_any _ _ _ _ _ _ _ _ _ _ _ _ B0 _ _ _ _ _ _ _ _ _ _ _ _ B1 _ tX.row tY.row).mono ?_
  rintro e w6 ⟨q2, rfl, hq2, hb6⟩
  obtain rfl : q2 = q := Bool.eq_iff_iff.2 (hq2.trans HQ.out.symm)
  have kA := kept_block kA hb6
  have kB := kept_block kB hb6
  have kX := kept_block kX hb6
  have kY := kept_block kY hb6
  have tX := tX.below hb6
  have tY := tY.below hb6
  have u5 := gr_trans u5 hb6
  clear x0 x1 x2 x3 x4 x5 x6 x7 x8 x9 x10 y0 y1 y2 y3 y4 y5 y6 y7 y8 y9 y10 hb6 hq2 HQ
  have vv : Below w6.heap.size w6 w6.drew := gr_drew (Below.refl _ _)
  have hqq : (q2 == q2) = true := by simp
  go_wp2_with fail
  refine wp_region_held_drew (S := (fun W => (W.cell? ⟨w4.heap.size, 0, none⟩ = some (.int .i64 B0.id) ∧ W.cell? ⟨w4.heap.size, 1, none⟩ = some (.string B0.name) ∧ W.cell? ⟨w4.heap.size, 2, none⟩ = some (.slice a4 n0 c4) ∧ W.cell? ⟨w4.heap.size, 3, none⟩ = some (.slice fa4 fn0 fc4) ∧ W.cell? ⟨w4.heap.size, 4, none⟩ = some (.slice ra4 rn0 rc4) ∧ W.cell? ⟨w4.heap.size, 5, none⟩ = some (.slice oa4 on0 oc4) ∧ W.cell? ⟨w4.heap.size, 6, none⟩ = some (.int .i64 B0.ticks) ∧ W.cell? ⟨w4.heap.size, 7, none⟩ = some (.int .i64 B0.parse) ∧ W.cell? ⟨w4.heap.size, 8, none⟩ = some (.int .i64 B0.word) ∧ W.cell? ⟨w4.heap.size, 9, none⟩ = some (.int .i64 B0.drops) ∧ W.cell? ⟨w4.heap.size, 10, none⟩ = some (.int .i64 B0.vers)) ∧ (W.cell? ⟨w.heap.size, 0, none⟩ = some (.int .i64 B0.id) ∧ W.cell? ⟨w.heap.size, 1, none⟩ = some (.string B0.name) ∧ W.cell? ⟨w.heap.size, 2, none⟩ = some (.slice a0 n0 c0) ∧ W.cell? ⟨w.heap.size, 3, none⟩ = some (.slice fa0 fn0 fc0) ∧ W.cell? ⟨w.heap.size, 4, none⟩ = some (.slice ra0 rn0 rc0) ∧ W.cell? ⟨w.heap.size, 5, none⟩ = some (.slice oa0 on0 oc0) ∧ W.cell? ⟨w.heap.size, 6, none⟩ = some (.int .i64 B0.ticks) ∧ W.cell? ⟨w.heap.size, 7, none⟩ = some (.int .i64 B0.parse) ∧ W.cell? ⟨w.heap.size, 8, none⟩ = some (.int .i64 B0.word) ∧ W.cell? ⟨w.heap.size, 9, none⟩ = some (.int .i64 B0.drops) ∧ W.cell? ⟨w.heap.size, 10, none⟩ = some (.int .i64 B0.vers)))) (by kernel_rfl) (⟨cells11 (kept_block kX vv), cells11 (kept_block kA vv)⟩) (fun hHeld => ?_)
  refine wpAnyH_take (i := 0) (oi := ⟨some 35, .load 38 (.tmp 7), 38, "exact.go:4151", #[], none⟩) (v := ?_) rfl (by kernel_rfl) (by kernel_rfl) (by kernel_rfl) (fun _ _ _ h => h) (Or.inl ⟨by rfl, ?_⟩) (by assumption) ?_
  rotate_left
  ·(intro wY hSw; (try dsimp only at hSw); go_simp; try with_reducible rfl)
  simp only [Act.put, lA, lB, lC]
  refine wpAnyH_take (i := 1) (oi := ⟨some 36, .load 29 (.tmp 2), 29, "exact.go:4151", #[], none⟩) (v := ?_) rfl (by kernel_rfl) (by kernel_rfl) (by kernel_rfl) (fun _ _ _ h => h) (Or.inl ⟨by rfl, ?_⟩) (by assumption) ?_
  rotate_left
  ·(intro wY hSw; (try dsimp only at hSw); go_simp; try with_reducible rfl)
  simp only [Act.put, lA, lB, lC]
  refine wpAnyH_ready (rs := [2]) (by kernel_rfl) (by simp) ?_
  refine AllReadyH.cons (o := ⟨some 37, .call ⟨.value (.func 6), #[.tmp 36], #[29]⟩, 38, "exact.go:4151", #[⟨1, .data⟩], none⟩) rfl (fun K hK => ?_) ?_
  ·go_simp
   refine (toBridge_made a0 n0 c0 fa0 fn0 fc0 ra0 rn0 rc0 oa0 on0 oc0 B0 _ (h0.below (gr_trans u5 vv)) gn0 gf0 gr0 go0).mono ?_
   rintro e wt ⟨a8, c8, fa8, fc8, ra8, rc8, oa8, oc8, rfl, t8, hbt⟩
   have vv := gr_trans vv hbt
   clear hbt
   go_wp2_with fail
   refine hK.out _ _ (⟨cells11 (kept_block kX vv), cells11 (kept_block kA vv)⟩) (fun hHeld => ?_)
   clear hK K
   try simp only [Act.put, lA, lB, lC]
   refine wpAnyH_ready (rs := [3]) (by kernel_rfl) (by simp) ?_
   refine AllReadyH.cons (o := ⟨some 38, .call ⟨.value (.func 8), #[.tmp 35, .tmp 37], #[38, 38]⟩, 4, "exact.go:4151", #[⟨0, .data⟩, ⟨2, .data⟩, ⟨2, .chain⟩], none⟩) rfl (fun K hK => ?_) ?_
   ·go_simp
    refine (eqBridge_same _ _ _ _ _ _ _ _ _ _ _ _ _ _ _ _ _ _ _ _ _ _ _ _ B0 _ (tX.below vv).row t8.row).mono ?_
    rintro e wt ⟨rfl, hbt⟩
    have vv := gr_trans vv hbt
    clear t8 hbt
    go_wp2_with fail
    refine hK.out _ _ (⟨cells11 (kept_block kX vv), cells11 (kept_block kA vv)⟩) (fun hHeld => ?_)
    clear hK K
    try simp only [Act.put, lA, lB, lC]
    refine wpAnyH_take (i := 4) (oi := ⟨some 39, .unOp .not 4 (.tmp 38), 4, "exact.go:4151", #[⟨3, .data⟩], none⟩) (v := ?_) rfl (by kernel_rfl) (by kernel_rfl) (by kernel_rfl) (fun _ _ _ h => h) (Or.inl ⟨by rfl, ?_⟩) (by assumption) ?_
    rotate_left
    ·(intro wY hSw; (try dsimp only at hSw); go_simp; try with_reducible rfl)
    simp only [Act.put, lA, lB, lC]
    refine wpAnyH_done (by kernel_rfl) ?_ _
    have u5 := gr_trans u5 vv
    have kA := kept_block kA vv
    have kB := kept_block kB vv
    have kX := kept_block kX vv
    have kY := kept_block kY vv
    have tX := tX.below vv
    have tY := tY.below vv
    clear hHeld vv
    obtain ⟨w7, hw7⟩ : ∃ x, x = wt := ⟨_, rfl⟩
    subst hw7
    have vv : Below w7.heap.size w7 w7.drew := gr_drew (Below.refl _ _)
    go_wp2_with fail
    refine wp_region_held_drew (S := (fun W => (W.cell? ⟨w5.heap.size, 0, none⟩ = some (.int .i64 B1.id) ∧ W.cell? ⟨w5.heap.size, 1, none⟩ = some (.string B1.name) ∧ W.cell? ⟨w5.heap.size, 2, none⟩ = some (.slice a5 n1 c5) ∧ W.cell? ⟨w5.heap.size, 3, none⟩ = some (.slice fa5 fn1 fc5) ∧ W.cell? ⟨w5.heap.size, 4, none⟩ = some (.slice ra5 rn1 rc5) ∧ W.cell? ⟨w5.heap.size, 5, none⟩ = some (.slice oa5 on1 oc5) ∧ W.cell? ⟨w5.heap.size, 6, none⟩ = some (.int .i64 B1.ticks) ∧ W.cell? ⟨w5.heap.size, 7, none⟩ = some (.int .i64 B1.parse) ∧ W.cell? ⟨w5.heap.size, 8, none⟩ = some (.int .i64 B1.word) ∧ W.cell? ⟨w5.heap.size, 9, none⟩ = some (.int .i64 B1.drops) ∧ W.cell? ⟨w5.heap.size, 10, none⟩ = some (.int .i64 B1.vers)) ∧ (W.cell? ⟨wA.heap.size, 0, none⟩ = some (.int .i64 B1.id) ∧ W.cell? ⟨wA.heap.size, 1, none⟩ = some (.string B1.name) ∧ W.cell? ⟨wA.heap.size, 2, none⟩ = some (.slice a1 n1 c1) ∧ W.cell? ⟨wA.heap.size, 3, none⟩ = some (.slice fa1 fn1 fc1) ∧ W.cell? ⟨wA.heap.size, 4, none⟩ = some (.slice ra1 rn1 rc1) ∧ W.cell? ⟨wA.heap.size, 5, none⟩ = some (.slice oa1 on1 oc1) ∧ W.cell? ⟨wA.heap.size, 6, none⟩ = some (.int .i64 B1.ticks) ∧ W.cell? ⟨wA.heap.size, 7, none⟩ = some (.int .i64 B1.parse) ∧ W.cell? ⟨wA.heap.size, 8, none⟩ = some (.int .i64 B1.word) ∧ W.cell? ⟨wA.heap.size, 9, none⟩ = some (.int .i64 B1.drops) ∧ W.cell? ⟨wA.heap.size, 10, none⟩ = some (.int .i64 B1.vers)))) (by kernel_rfl) (⟨cells11 (kept_block kY vv), cells11 (kept_block kB vv)⟩) (fun hHeld => ?_)
    refine wpAnyH_take (i := 0) (oi := ⟨some 40, .load 38 (.tmp 8), 38, "exact.go:4154", #[], none⟩) (v := ?_) rfl (by kernel_rfl) (by kernel_rfl) (by kernel_rfl) (fun _ _ _ h => h) (Or.inl ⟨by rfl, ?_⟩) (by assumption) ?_
    rotate_left
    ·(intro wY hSw; (try dsimp only at hSw); go_simp; try with_reducible rfl)
    simp only [Act.put, lA, lB, lC]
    refine wpAnyH_take (i := 1) (oi := ⟨some 41, .load 29 (.tmp 3), 29, "exact.go:4154", #[], none⟩) (v := ?_) rfl (by kernel_rfl) (by kernel_rfl) (by kernel_rfl) (fun _ _ _ h => h) (Or.inl ⟨by rfl, ?_⟩) (by assumption) ?_
    rotate_left
    ·(intro wY hSw; (try dsimp only at hSw); go_simp; try with_reducible rfl)
    simp only [Act.put, lA, lB, lC]
    refine wpAnyH_ready (rs := [2]) (by kernel_rfl) (by simp) ?_
    refine AllReadyH.cons (o := ⟨some 42, .call ⟨.value (.func 6), #[.tmp 41], #[29]⟩, 38, "exact.go:4154", #[⟨1, .data⟩], none⟩) rfl (fun K hK => ?_) ?_
    ·go_simp
     refine (toBridge_made a1 n1 c1 fa1 fn1 fc1 ra1 rn1 rc1 oa1 on1 oc1 B1 _ (h1.below (gr_trans u5 vv)) gn1 gf1 gr1 go1).mono ?_
     rintro e wt ⟨a8, c8, fa8, fc8, ra8, rc8, oa8, oc8, rfl, t8, hbt⟩
     have vv := gr_trans vv hbt
     clear hbt
     go_wp2_with fail
     refine hK.out _ _ (⟨cells11 (kept_block kY vv), cells11 (kept_block kB vv)⟩) (fun hHeld => ?_)
     clear hK K
     try simp only [Act.put, lA, lB, lC]
     refine wpAnyH_ready (rs := [3]) (by kernel_rfl) (by simp) ?_
     refine AllReadyH.cons (o := ⟨some 43, .call ⟨.value (.func 8), #[.tmp 40, .tmp 42], #[38, 38]⟩, 4, "exact.go:4154", #[⟨0, .data⟩, ⟨2, .data⟩, ⟨2, .chain⟩], none⟩) rfl (fun K hK => ?_) ?_
     ·go_simp
      refine (eqBridge_same _ _ _ _ _ _ _ _ _ _ _ _ _ _ _ _ _ _ _ _ _ _ _ _ B1 _ (tY.below vv).row t8.row).mono ?_
      rintro e wt ⟨rfl, hbt⟩
      have vv := gr_trans vv hbt
      clear t8 hbt
      go_wp2_with fail
      refine hK.out _ _ (⟨cells11 (kept_block kY vv), cells11 (kept_block kB vv)⟩) (fun hHeld => ?_)
      clear hK K
      try simp only [Act.put, lA, lB, lC]
      refine wpAnyH_take (i := 4) (oi := ⟨some 44, .unOp .not 4 (.tmp 43), 4, "exact.go:4154", #[⟨3, .data⟩], none⟩) (v := ?_) rfl (by kernel_rfl) (by kernel_rfl) (by kernel_rfl) (fun _ _ _ h => h) (Or.inl ⟨by rfl, ?_⟩) (by assumption) ?_
      rotate_left
      ·(intro wY hSw; (try dsimp only at hSw); go_simp; try with_reducible rfl)
      simp only [Act.put, lA, lB, lC]
      refine wpAnyH_done (by kernel_rfl) ?_ _
      have HB := hide (gr_trans u5 vv)
      clear hHeld vv
      go_wp2
      go_ret
      exact ⟨rfl, HB.out⟩
     exact AllReadyH.nil
    exact AllReadyH.nil
   exact AllReadyH.nil
  exact AllReadyH.nil

theorem fnExactSameBridge_own : ownKnob Try.prog.godebug = none := by kernel_rfl
theorem fnExactSameBridge_laid : laidOutB Try.prog = true := by kernel_rfl

open Go.ChangeShapes Go.WideShapes Go.ChangeAt in
open Go.ChangeMaps (open_string shut_string) in
set_option maxRecDepth 100000 in
theorem fnExactSameBridge_lifted (os : Os) (started : os.Started) (H : Type) (enc : TypeId × Value → H) :
  ReturnsInHanded {} Try.checked os 3 .any (Rows.fnExactSameBridgeSpec.pre6 enc Try.prog Try.f3 Rows.fnExactSameBridgeRow.domain false) (Rows.fnExactSameBridgeSpec.post enc Try.prog Try.f3 false true false false) := by
 refine returnsInHanded_of_change (C := Try.checked) fnExactSameBridge_own started (by kernel_rfl) Try.func3
  (ChangeSpec.witness6 (enc := enc) (C := Try.checked) false ⟨#[], #[.agg #[.int .i64 0, .string ByteArray.empty, .slice none 0 0, .slice none 0 0, .slice none 0 0, .slice none 0 0, .int .i64 0, .int .i64 0, .int .i64 0, .int .i64 0, .int .i64 0], .agg #[.int .i64 0, .string ByteArray.empty, .slice none 0 0, .slice none 0 0, .slice none 0 0, .slice none 0 0, .int .i64 0, .int .i64 0, .int .i64 0, .int .i64 0, .int .i64 0]], []⟩ 8 (by kernel_rfl) (by kernel_rfl) (by kernel_rfl) (by kernel_rfl)) ?_
 intro W base args ds gs before hval0 hW hcnd _
 have hval : ∀ (j : Nat) t v, Try.f3.params[j]? = some t → args[j]? = some v → Value.okWide Try.prog W .any base t v := hval0
 have hW' := hW
 obtain ⟨p, q, hA0, hV, rfl, hfz, hnd⟩ := hW
 have hA : DataW.TrodAll enc Try.prog W 0 (fun _ => true) true Try.f3.params.toList args.toList ds p := hA0
 rw [Try.params3] at hA hval
 obtain ⟨v0, vs0, d0, ds0, p0, q0, hargs, rfl, rfl, h0, r0⟩ := trodAll_cons hA
 obtain ⟨v1, vs1, d1, ds1, p1, q1, rfl, rfl, rfl, h1, r1⟩ := trodAll_cons r0
 obtain ⟨rfl, rfl, rfl⟩ := trodAll_nil r1
 obtain rfl : args = #[v0, v1] := by cases args; simp_all
 obtain ⟨rfl, rfl⟩ := trodVars_none hV
 have k0 := h0
 have lt0 : ∀ x ∈ p0, x.block < W.heap.size := by obtain ⟨m, hm⟩ := k0; exact DataW.trod_lt m _ _ _ hm
 have bt : BrTypes Try.prog 29 9 22 67 65 23 69 27 24 76 25 3 4 _ _ _ _ _ _ _ _ _ _ _ _ _ _ _ _ _ _ _ _ _ _ _ _ _ _ _ _ _ := ⟨Try.underlying29, Try.underlying9, Try.underlying22, Try.underlying67, Try.underlying65, Try.underlying23, Try.underlying69, Try.underlying27, Try.underlying24, Try.underlying76, Try.underlying25, Try.underlying3, Try.underlying4, ⟨rfl, rfl⟩, ⟨rfl, rfl⟩, ⟨rfl, rfl⟩, ⟨rfl, rfl⟩, ⟨rfl, rfl⟩, ⟨rfl, rfl⟩, ⟨rfl, rfl⟩, ⟨rfl, rfl⟩, ⟨rfl, rfl⟩, ⟨rfl, rfl⟩, ⟨rfl, rfl⟩, ⟨rfl, rfl⟩, ⟨rfl, rfl⟩, ⟨rfl, rfl⟩, ⟨rfl, rfl⟩, ⟨rfl, rfl⟩, ⟨rfl, rfl⟩, ⟨rfl, rfl⟩, ⟨rfl, rfl⟩, ⟨rfl, rfl⟩, ⟨rfl, rfl⟩, ⟨rfl, rfl⟩, ⟨rfl, rfl⟩, ⟨rfl, rfl⟩, ⟨rfl, rfl⟩, ⟨rfl, rfl⟩, ⟨rfl, rfl⟩, ⟨rfl, rfl⟩, ⟨rfl, rfl⟩, (by kernel_rfl), (by kernel_rfl), (by kernel_rfl), (by kernel_rfl), (by kernel_rfl), (by kernel_rfl), (by kernel_rfl), (by kernel_rfl), (by kernel_rfl), (by kernel_rfl), (by kernel_rfl), (by kernel_rfl), (by kernel_rfl)⟩
 obtain ⟨a0, n0, c0, fa0, fn0, fc0, ra0, rn0, rc0, oa0, on0, oc0, B0, rfl, w0, g0⟩ := open_bridge bt (hval 0 29 v0 rfl rfl) h0
 have k1 := h1
 have lt1 : ∀ x ∈ p1, x.block < W.heap.size := by obtain ⟨m, hm⟩ := k1; exact DataW.trod_lt m _ _ _ hm
 obtain ⟨a1, n1, c1, fa1, fn1, fc1, ra1, rn1, rc1, oa1, on1, oc1, B1, rfl, w1, g1⟩ := open_bridge bt (hval 1 29 v1 rfl rfl) h1
 clear hA0 hval0
 refine (exactSameBridge_walk a0 n0 c0 fa0 fn0 fc0 ra0 rn0 rc0 oa0 on0 oc0 B0 a1 n1 c1 fa1 fn1 fc1 ra1 rn1 rc1 oa1 on1 oc1 B1 W w0 g0 w1 g1).mono fun e W' ⟨he, bel⟩ => ?_
 subst he
 exact ⟨_, rfl, _, _, _, [], _, [], hW', trodAll_mk1 (shut_bool Try.underlying4 _), (trodAll_cons_mk (Below.trod fnExactSameBridge_laid (by kernel_rfl) (of_decide_eq_true (by kernel_rfl)) k0 bel lt0) (trodAll_cons_mk (Below.trod fnExactSameBridge_laid (by kernel_rfl) (of_decide_eq_true (by kernel_rfl)) k1 bel lt1) trodAll_mk0)), rfl, bel.frame _, fun h => by cases h⟩

theorem fnExactSameBridge_holds : Rows.FnExactSameBridgeSaid :=
 OpenClaim.holds_of_wide 3 Try.f3 rfl rfl rfl rfl rfl rfl rfl ⟨rfl, rfl, rfl, rfl, rfl⟩ rfl rfl rfl rfl rfl (by kernel_rfl) Try.func3 (by kernel_rfl)
  (of_decide_eq_true (by kernel_rfl)) (by unfold Func.isWrapper; first | (rw [if_pos (by decide +kernel)]; kernel_rfl) | (rw [if_neg (by decide +kernel)]; exact ⟨rfl, rfl⟩))
  (fun os started H enc _ => fnExactSameBridge_lifted os started H enc)

#print axioms fnExactSameBridge_holds

end Go.Proofs.Ytfefhilolhdonab
