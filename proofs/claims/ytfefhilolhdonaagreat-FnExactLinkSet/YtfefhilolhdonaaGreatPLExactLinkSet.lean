/-
  FnExactLinkSet answers true at all arguments: LinkSet answers as the specification; it writes into no argument and keeps nothing of one; its answer owns its memory, behind another call too.
-/
import Derived.Test.YtfefhilolhdonaaGreatPLBrHelp
import Derived.Test.YtfefhilolhdonaaGreatPLBrStepI
import Derived.Test.YtfefhilolhdonaaGreatPLBrStepS
import Derived.Test.YtfefhilolhdonaaGreatPLK01
import Derived.Test.YtfefhilolhdonaaGreatPLK07
import Derived.WalkKit
import Derived.ProofKit
import Derived.OpenShut
import Derived.ShutString
import Derived.ChangeOld
import Derived.Below
import Derived.Lib.SmallJoins
namespace Go.Proofs.YtfefhilolhdonaaGreat
open Go.RowKit

set_option maxRecDepth 100000 in
set_option maxHeartbeats 16000000 in
theorem exactLinkSet_walk (a0 : Option Addr) (n0 c0 : Nat) (fa0 : Option Addr) (fn0 fc0 : Nat) (ra0 : Option Addr) (rn0 rc0 : Nat) (oa0 : Option Addr) (on0 oc0 : Nat) (B0 : BR) (port : Int) (up : Bool) (w : World) (h0 : BrRow w a0 n0 c0 fa0 fn0 fc0 ra0 rn0 rc0 oa0 on0 oc0 B0) (g0 : B0.Rng) (_wp : (Lit.int .i64 port).wf = true) :
  Calls Tryz.prog 6 #[.agg #[.int .i64 B0.id, .string B0.name, .slice a0 n0 c0, .slice fa0 fn0 fc0, .slice ra0 rn0 rc0, .slice oa0 on0 oc0, .int .i64 B0.ticks, .int .i64 B0.parse, .int .i64 B0.word, .int .i64 B0.drops, .int .i64 B0.vers], .int .i64 port, .bool up] w fun e w' => e = .returned (.bool true) ∧ Below w.heap.size w w' := by
 generalize hwA : w.alloc (Obj.cells #[.int .i64 B0.id, .string B0.name, .slice a0 n0 c0, .slice fa0 fn0 fc0, .slice ra0 rn0 rc0, .slice oa0 on0 oc0, .int .i64 B0.ticks, .int .i64 B0.parse, .int .i64 B0.word, .int .i64 B0.drops, .int .i64 B0.vers] 66) = wA
 have uA : Below w.heap.size w wA := by subst hwA; exact below_one _ _
 have kA : wA.heap[w.heap.size]? = some (.cells #[.int .i64 B0.id, .string B0.name, .slice a0 n0 c0, .slice fa0 fn0 fc0, .slice ra0 rn0 rc0, .slice oa0 on0 oc0, .int .i64 B0.ticks, .int .i64 B0.parse, .int .i64 B0.word, .int .i64 B0.drops, .int .i64 B0.vers] 66) := by rw [← hwA]; exact block_last _ _
 obtain ⟨x0, x1, x2, x3, x4, x5, x6, x7, x8, x9, x10⟩ := cells11 kA
 by_cases gb : ¬ sizeB B0 ≤ 1048576
 ·go_enter Tryz.func6, Tryz.ntmps6
  go_wp2_with fail
  refine (szBridge_from 1048576 (by omega) (by omega) a0 n0 c0 fa0 fn0 fc0 ra0 rn0 rc0 oa0 on0 oc0 B0 _ (h0.below uA) g0.name).mono ?_
  rintro e w1 ⟨rfl, hb1⟩
  rw [if_neg (show ¬ sizeB B0 ≤ 1048576 by omega)]
  have HB := hide (gr_trans uA hb1)
  clear x0 x1 x2 x3 x4 x5 x6 x7 x8 x9 x10
  go_wp2
  go_ret
  exact ⟨rfl, HB.out⟩
 have hsz : sizeB B0 = (B0.name.size : Int) + n0 + fn0 + (rn0 + on0) := by unfold sizeB; rw [h0.ports.size, h0.f.size, h0.v.rows.size, h0.v.own.size]
 have gb : sizeB B0 ≤ 1048576 := by omega
 have gn : n0 ≤ 1048576 := by omega
 have gf : fn0 ≤ 1048576 := by omega
 have gr : rn0 ≤ 1048576 := by omega
 have go : on0 ≤ 1048576 := by omega
 have gs : ¬ ((1048576 : Int) - sizeB B0 < 0) := by omega
 clear hsz
 have HLE := hide (link_less B0 port up)
 generalize hV : linkB B0 port up = V at HLE
 have HV := hide hV
 clear hV
 go_enter Tryz.func6, Tryz.ntmps6
 go_wp2_with fail
 refine (szBridge_from 1048576 (by omega) (by omega) a0 n0 c0 fa0 fn0 fc0 ra0 rn0 rc0 oa0 on0 oc0 B0 _ (h0.below uA) g0.name).mono ?_
 rintro e w1 ⟨rfl, hb1⟩
 rw [if_pos gb]
 have kA := kept_block kA hb1
 have u1 := gr_trans uA hb1
 clear hb1 x0 x1 x2 x3 x4 x5 x6 x7 x8 x9 x10
 obtain ⟨x0, x1, x2, x3, x4, x5, x6, x7, x8, x9, x10⟩ := cells11 kA
 generalize hSZ : sizeB B0 = SZ at *
 clear hSZ
 go_wp2_with fail
 refine (toBridge_made a0 n0 c0 fa0 fn0 fc0 ra0 rn0 rc0 oa0 on0 oc0 B0 _ (h0.below u1) gn gf gr go).mono ?_
 rintro e w2 ⟨a2, c2, fa2, fc2, ra2, rc2, oa2, oc2, rfl, t2, hb2⟩
 go_wp2_with fail
 refine (specLink_made _ _ _ _ _ _ _ _ _ _ _ _ B0 port up _ t2.row (by omega) (by omega) (by omega) (by omega)).mono ?_
 rw [HV.out]
 rintro e w3 ⟨a3, n3, c3, fa3, fn3, fc3, ra3, rn3, rc3, oa3, on3, oc3, rfl, t3, hb3⟩
 generalize hwS : w3.alloc (Obj.cells #[.int .i64 V.id, .string V.name, .slice a3 n3 c3, .slice fa3 fn3 fc3, .slice ra3 rn3 rc3, .slice oa3 on3 oc3, .int .i64 V.ticks, .int .i64 V.parse, .int .i64 V.word, .int .i64 V.drops, .int .i64 V.vers] 31) = wS
 have b3S : Below w3.heap.size w3 wS := by subst hwS; exact below_one _ _
 have kS : wS.heap[w3.heap.size]? = some (.cells #[.int .i64 V.id, .string V.name, .slice a3 n3 c3, .slice fa3 fn3 fc3, .slice ra3 rn3 rc3, .slice oa3 on3 oc3, .int .i64 V.ticks, .int .i64 V.parse, .int .i64 V.word, .int .i64 V.drops, .int .i64 V.vers] 31) := by rw [← hwS]; exact block_last _ _
 have tS := t3.below b3S
 have d3 := gr_trans hb2 (gr_trans hb3 b3S)
 have kA := kept_block kA d3
 have uS := gr_trans u1 d3
 have pS : Below wS.heap.size wS wS := Below.refl _ _
 clear hb2 hb3 t2 x0 x1 x2 x3 x4 x5 x6 x7 x8 x9 x10 u1 t3 d3
 obtain ⟨x0, x1, x2, x3, x4, x5, x6, x7, x8, x9, x10⟩ := cells11 kA
 go_wp2_with fail
 refine (toBridge_made a0 n0 c0 fa0 fn0 fc0 ra0 rn0 rc0 oa0 on0 oc0 B0 _ (h0.below uS) gn gf gr go).mono ?_
 rintro e w4 ⟨a4, c4, fa4, fc4, ra4, rc4, oa4, oc4, rfl, t4, hb4⟩
 have EX := hide t4.under
 generalize hwX : w4.alloc (Obj.cells #[.int .i64 B0.id, .string B0.name, .slice a4 n0 c4, .slice fa4 fn0 fc4, .slice ra4 rn0 rc4, .slice oa4 on0 oc4, .int .i64 B0.ticks, .int .i64 B0.parse, .int .i64 B0.word, .int .i64 B0.drops, .int .i64 B0.vers] 31) = wX
 have b4X : Below w4.heap.size w4 wX := by subst hwX; exact below_one _ _
 have kX : wX.heap[w4.heap.size]? = some (.cells #[.int .i64 B0.id, .string B0.name, .slice a4 n0 c4, .slice fa4 fn0 fc4, .slice ra4 rn0 rc4, .slice oa4 on0 oc4, .int .i64 B0.ticks, .int .i64 B0.parse, .int .i64 B0.word, .int .i64 B0.drops, .int .i64 B0.vers] 31) := by rw [← hwX]; exact block_last _ _
 have tX := t4.below b4X
 have pS : Below wS.heap.size wS wX := gr_trans hb4 b4X
 clear x0 x1 x2 x3 x4 x5 x6 x7 x8 x9 x10 t4 hb4
 obtain ⟨y0, y1, y2, y3, y4, y5, y6, y7, y8, y9, y10⟩ := cells11 kX
 go_wp2_with fail
 refine (implLink_made _ _ _ _ _ _ _ _ _ _ _ _ B0 port up _ tX.row (by omega) (by omega) (by omega) (by omega) g0.f g0.v).mono ?_
 rw [HV.out]
 rintro e w6 ⟨a6, n6, c6, fa6, fn6, fc6, ra6, rn6, rc6, oa6, on6, oc6, rfl, t6, hb6⟩
 have EG := hide t6.under
 have NG : Hid (n6 ≤ 16777216 ∧ fn6 ≤ 16777216 ∧ rn6 ≤ 16777216 ∧ on6 ≤ 16777216) := hide (by
  have e1 := t6.row.ports.size
  have e2 := t6.row.f.size
  have e3 := t6.row.v.rows.size
  have e4 := t6.row.v.own.size
  have d1 := h0.ports.size
  have d2 := h0.f.size
  have d3 := h0.v.rows.size
  have d4 := h0.v.own.size
  have l1 := HLE.out.1
  have l2 := HLE.out.2.1
  have l3 := HLE.out.2.2
  rw [l3] at e3 e4
  omega)
 have SG : Hid (wS.heap.size ≤ wX.heap.size) := hide pS.size
 have GX : Hid (w4.heap.size ≤ wX.heap.size) := hide b4X.size
 generalize hwG : w6.alloc (Obj.cells #[.int .i64 V.id, .string V.name, .slice a6 n6 c6, .slice fa6 fn6 fc6, .slice ra6 rn6 rc6, .slice oa6 on6 oc6, .int .i64 V.ticks, .int .i64 V.parse, .int .i64 V.word, .int .i64 V.drops, .int .i64 V.vers] 31) = wG
 have b6G : Below w6.heap.size w6 wG := by subst hwG; exact below_one _ _
 have kG : wG.heap[w6.heap.size]? = some (.cells #[.int .i64 V.id, .string V.name, .slice a6 n6 c6, .slice fa6 fn6 fc6, .slice ra6 rn6 rc6, .slice oa6 on6 oc6, .int .i64 V.ticks, .int .i64 V.parse, .int .i64 V.word, .int .i64 V.drops, .int .i64 V.vers] 31) := by rw [← hwG]; exact block_last _ _
 have tG := t6.below b6G
 have d6 := gr_trans hb6 b6G
 have tX := tX.below d6
 have kX := kept_block kX d6
 have xb : wX.heap.size ≤ wG.heap.size := d6.size
 have pS := gr_trans pS d6
 have G4 : Hid (w4.heap.size ≤ w6.heap.size) := hide (Nat.le_trans b4X.size hb6.size)
 clear hb6 y0 y1 y2 y3 y4 y5 y6 y7 y8 y9 y10 t6 d6
 obtain ⟨z0, z1, z2, z3, z4, z5, z6, z7, z8, z9, z10⟩ := cells11 kG
 obtain ⟨s0, s1, s2, s3, s4, s5, s6, s7, s8, s9, s10⟩ := cells11 (kept_block kS pS)
 go_wp2_with fail
 refine (eqBridge_same _ _ _ _ _ _ _ _ _ _ _ _ _ _ _ _ _ _ _ _ _ _ _ _ V _ tG.row (tS.below pS).row).mono ?_
 rintro e w8 ⟨rfl, hb⟩
 have pS := gr_trans pS hb
 have xb := Nat.le_trans xb hb.size
 have tG := tG.below hb
 have tX := tX.below hb
 have kX := kept_block kX hb
 have kG := kept_block kG hb
 clear hb z0 z1 z2 z3 z4 z5 z6 z7 z8 z9 z10 s0 s1 s2 s3 s4 s5 s6 s7 s8 s9 s10
 have vv : Below w8.heap.size w8 w8.drew := gr_drew (Below.refl _ _)
 go_wp2_with fail
 refine wp_region_held_drew (S := (fun W => (W.cell? ⟨w.heap.size, 0, none⟩ = some (.int .i64 B0.id) ∧ W.cell? ⟨w.heap.size, 1, none⟩ = some (.string B0.name) ∧ W.cell? ⟨w.heap.size, 2, none⟩ = some (.slice a0 n0 c0) ∧ W.cell? ⟨w.heap.size, 3, none⟩ = some (.slice fa0 fn0 fc0) ∧ W.cell? ⟨w.heap.size, 4, none⟩ = some (.slice ra0 rn0 rc0) ∧ W.cell? ⟨w.heap.size, 5, none⟩ = some (.slice oa0 on0 oc0) ∧ W.cell? ⟨w.heap.size, 6, none⟩ = some (.int .i64 B0.ticks) ∧ W.cell? ⟨w.heap.size, 7, none⟩ = some (.int .i64 B0.parse) ∧ W.cell? ⟨w.heap.size, 8, none⟩ = some (.int .i64 B0.word) ∧ W.cell? ⟨w.heap.size, 9, none⟩ = some (.int .i64 B0.drops) ∧ W.cell? ⟨w.heap.size, 10, none⟩ = some (.int .i64 B0.vers)) ∧ (W.cell? ⟨w4.heap.size, 0, none⟩ = some (.int .i64 B0.id) ∧ W.cell? ⟨w4.heap.size, 1, none⟩ = some (.string B0.name) ∧ W.cell? ⟨w4.heap.size, 2, none⟩ = some (.slice a4 n0 c4) ∧ W.cell? ⟨w4.heap.size, 3, none⟩ = some (.slice fa4 fn0 fc4) ∧ W.cell? ⟨w4.heap.size, 4, none⟩ = some (.slice ra4 rn0 rc4) ∧ W.cell? ⟨w4.heap.size, 5, none⟩ = some (.slice oa4 on0 oc4) ∧ W.cell? ⟨w4.heap.size, 6, none⟩ = some (.int .i64 B0.ticks) ∧ W.cell? ⟨w4.heap.size, 7, none⟩ = some (.int .i64 B0.parse) ∧ W.cell? ⟨w4.heap.size, 8, none⟩ = some (.int .i64 B0.word) ∧ W.cell? ⟨w4.heap.size, 9, none⟩ = some (.int .i64 B0.drops) ∧ W.cell? ⟨w4.heap.size, 10, none⟩ = some (.int .i64 B0.vers)))) (by kernel_rfl) (⟨cells11 (kept_block kA (gr_trans pS vv)), cells11 (kept_block kX vv)⟩) (fun hHeld => ?_)
 refine wpAnyH_take (i := 0) (oi := ⟨some 35, .load 31 (.tmp 9), 31, "exact.go:4054", #[], none⟩) (v := ?_) rfl (by kernel_rfl) (by kernel_rfl) (by kernel_rfl) (fun _ _ _ h => h) (Or.inl ⟨by rfl, ?_⟩) (by assumption) ?_
 rotate_left
 ·(intro wY hSw; (try dsimp only at hSw); go_simp; try with_reducible rfl)
 simp only [Act.put, lA, lB, lC]
 refine wpAnyH_take (i := 1) (oi := ⟨some 36, .load 66 (.tmp 3), 66, "exact.go:4054", #[], none⟩) (v := ?_) rfl (by kernel_rfl) (by kernel_rfl) (by kernel_rfl) (fun _ _ _ h => h) (Or.inl ⟨by rfl, ?_⟩) (by assumption) ?_
 rotate_left
 ·(intro wY hSw; (try dsimp only at hSw); go_simp; try with_reducible rfl)
 simp only [Act.put, lA, lB, lC]
 refine wpAnyH_ready (rs := [2]) (by kernel_rfl) (by simp) ?_
 refine AllReadyH.cons (o := ⟨some 37, .call ⟨.value (.func 32), #[.tmp 36], #[66]⟩, 31, "exact.go:4054", #[⟨1, .data⟩], none⟩) rfl (fun K hK => ?_) ?_
 ·go_simp
  refine (toBridge_made a0 n0 c0 fa0 fn0 fc0 ra0 rn0 rc0 oa0 on0 oc0 B0 _ (h0.below (gr_trans uS (gr_trans pS vv))) gn gf gr go).mono ?_
  rintro e wt ⟨a7, c7, fa7, fc7, ra7, rc7, oa7, oc7, rfl, t7, hb7⟩
  have vv := gr_trans vv hb7
  go_wp2_with fail
  refine hK.out _ _ (⟨cells11 (kept_block kA (gr_trans pS vv)), cells11 (kept_block kX vv)⟩) (fun hHeld => ?_)
  clear hK K
  try simp only [Act.put, lA, lB, lC]
  refine wpAnyH_ready (rs := [3]) (by kernel_rfl) (by simp) ?_
  refine AllReadyH.cons (o := ⟨some 38, .call ⟨.value (.func 34), #[.tmp 35, .tmp 37], #[31, 31]⟩, 4, "exact.go:4054", #[⟨0, .data⟩, ⟨2, .data⟩, ⟨2, .chain⟩], none⟩) rfl (fun K hK => ?_) ?_
  ·go_simp
   refine (eqBridge_same _ _ _ _ _ _ _ _ _ _ _ _ _ _ _ _ _ _ _ _ _ _ _ _ B0 _ (tX.below vv).row t7.row).mono ?_
   rintro e wt ⟨rfl, hb8⟩
   have vv := gr_trans vv hb8
   clear t7
   go_wp2_with fail
   refine hK.out _ _ (⟨cells11 (kept_block kA (gr_trans pS vv)), cells11 (kept_block kX vv)⟩) (fun hHeld => ?_)
   clear hK K
   try simp only [Act.put, lA, lB, lC]
   refine wpAnyH_take (i := 4) (oi := ⟨some 39, .unOp .not 4 (.tmp 38), 4, "exact.go:4054", #[⟨3, .data⟩], none⟩) (v := ?_) rfl (by kernel_rfl) (by kernel_rfl) (by kernel_rfl) (fun _ _ _ h => h) (Or.inl ⟨by rfl, ?_⟩) (by assumption) ?_
   rotate_left
   ·(intro wY hSw; (try dsimp only at hSw); go_simp; try with_reducible rfl)
   simp only [Act.put, lA, lB, lC]
   refine wpAnyH_done (by kernel_rfl) ?_ _
   have pS := gr_trans pS vv
   have xb := Nat.le_trans xb vv.size
   have tX := tX.below vv
   have kX := kept_block kX vv
   have tG := tG.below vv
   have kG := kept_block kG vv
   clear hHeld vv
   obtain ⟨y0, y1, y2, y3, y4, y5, y6, y7, y8, y9, y10⟩ := cells11 kX
   go_wp2_with fail
   refine (markBridge_from 1 (by omega) (by omega) _ w4.heap.size _ _ _ _ _ _ _ _ _ _ _ _ B0 _ tX pS.size EX.out (by omega) (by omega) (by omega) (by omega)).mono ?_
   rintro e w9 ⟨rfl, -, bt⟩
   have pS := pS.trans bt.below
   have xb := Nat.le_trans xb bt.below.size
   have tG := tG.between bt GX.out
   have kX : w9.heap[w4.heap.size]? = _ := (bt.block _ (Array.getElem?_eq_some_iff.1 kX).1 (Nat.le_refl _)).trans kX
   have kG : w9.heap[w6.heap.size]? = _ := (bt.block _ (Array.getElem?_eq_some_iff.1 kG).1 G4.out).trans kG
   clear tX bt y0 y1 y2 y3 y4 y5 y6 y7 y8 y9 y10 kX
   have hk0 : ¬ ((1 : Int) + 8 * (n0 : Int) + 5 * (fn0 : Int) + 3 * (rn0 : Int) + (on0 : Int) < 0) := by omega
   obtain ⟨s0, s1, s2, s3, s4, s5, s6, s7, s8, s9, s10⟩ := cells11 (kept_block kS pS)
   obtain ⟨z0, z1, z2, z3, z4, z5, z6, z7, z8, z9, z10⟩ := cells11 kG
   go_wp2_with fail
   refine (eqBridge_same _ _ _ _ _ _ _ _ _ _ _ _ _ _ _ _ _ _ _ _ _ _ _ _ V _ tG.row (tS.below pS).row).mono ?_
   rintro e w10 ⟨rfl, hb⟩
   have pS := gr_trans pS hb
   have xb := Nat.le_trans xb hb.size
   have tG := tG.below hb
   have kG := kept_block kG hb
   clear hb s0 s1 s2 s3 s4 s5 s6 s7 s8 s9 s10 z0 z1 z2 z3 z4 z5 z6 z7 z8 z9 z10
   obtain ⟨z0, z1, z2, z3, z4, z5, z6, z7, z8, z9, z10⟩ := cells11 kG
   go_wp2_with fail
   refine (markBridge_from 1 (by omega) (by omega) _ w6.heap.size _ _ _ _ _ _ _ _ _ _ _ _ V _ tG xb EG.out NG.out.1 NG.out.2.1 NG.out.2.2.1 NG.out.2.2.2).mono ?_
   rintro e w11 ⟨rfl, tM, bt⟩
   have pS := pS.trans (bt.below.mono SG.out)
   have kG : w11.heap[w6.heap.size]? = _ := (bt.block _ (Array.getElem?_eq_some_iff.1 kG).1 (Nat.le_refl _)).trans kG
   clear tG bt z0 z1 z2 z3 z4 z5 z6 z7 z8 z9 z10
   obtain ⟨z0, z1, z2, z3, z4, z5, z6, z7, z8, z9, z10⟩ := cells11 kG
   go_wp2_with fail
   refine (heldBridge_from 1 (by omega) (by omega) _ _ _ _ _ _ _ _ _ _ _ _ V _ tM.row NG.out.1 NG.out.2.1 NG.out.2.2.1 NG.out.2.2.2).mono ?_
   rintro e w12 ⟨rfl, hb⟩
   have pS := gr_trans pS hb
   have tM := tM.below hb
   have kG := kept_block kG hb
   clear hb z0 z1 z2 z3 z4 z5 z6 z7 z8 z9 z10
   have m0 : ¬ ((1 : Int) + 8 * (n6 : Int) + 5 * (fn6 : Int) + 3 * (rn6 : Int) + (on6 : Int) < 0) := by omega
   obtain ⟨x0, x1, x2, x3, x4, x5, x6, x7, x8, x9, x10⟩ := cells11 (kept_block kA pS)
   go_wp2_with fail
   refine (toBridge_made a0 n0 c0 fa0 fn0 fc0 ra0 rn0 rc0 oa0 on0 oc0 B0 _ (h0.below (gr_trans uS pS)) gn gf gr go).mono ?_
   rintro e w13 ⟨a13, c13, fa13, fc13, ra13, rc13, oa13, oc13, rfl, t13, hb⟩
   have pS := gr_trans pS hb
   have tM := tM.below hb
   have kG := kept_block kG hb
   clear hb x0 x1 x2 x3 x4 x5 x6 x7 x8 x9 x10
   go_wp2_with fail
   refine (implLink_made _ _ _ _ _ _ _ _ _ _ _ _ B0 port up _ t13.row (by omega) (by omega) (by omega) (by omega) g0.f g0.v).mono ?_
   rw [HV.out]
   rintro e w14 ⟨a14, n14, c14, fa14, fn14, fc14, ra14, rn14, rc14, oa14, on14, oc14, rfl, t14, hb14⟩
   have pS := gr_trans pS hb14
   have tM := tM.below hb14
   have kG := kept_block kG hb14
   clear hb14 t13
   generalize hwH : w14.alloc (Obj.cells #[.int .i64 V.id, .string V.name, .slice a14 n14 c14, .slice fa14 fn14 fc14, .slice ra14 rn14 rc14, .slice oa14 on14 oc14, .int .i64 V.ticks, .int .i64 V.parse, .int .i64 V.word, .int .i64 V.drops, .int .i64 V.vers] 31) = wH
   have bH : Below w14.heap.size w14 wH := by subst hwH; exact below_one _ _
   have kH : wH.heap[w14.heap.size]? = some (.cells #[.int .i64 V.id, .string V.name, .slice a14 n14 c14, .slice fa14 fn14 fc14, .slice ra14 rn14 rc14, .slice oa14 on14 oc14, .int .i64 V.ticks, .int .i64 V.parse, .int .i64 V.word, .int .i64 V.drops, .int .i64 V.vers] 31) := by rw [← hwH]; exact block_last _ _
   have pS := gr_trans pS bH
   have tM := tM.below bH
   have tH := t14.below bH
   have kG := kept_block kG bH
   clear t14
   obtain ⟨s0, s1, s2, s3, s4, s5, s6, s7, s8, s9, s10⟩ := cells11 (kept_block kS pS)
   obtain ⟨h0, h1, h2, h3, h4, h5, h6, h7, h8, h9, h10⟩ := cells11 kH
   go_wp2_with fail
   refine (eqBridge_same _ _ _ _ _ _ _ _ _ _ _ _ _ _ _ _ _ _ _ _ _ _ _ _ V _ tH.row (tS.below pS).row).mono ?_
   rintro e w15 ⟨rfl, hb⟩
   have pS := gr_trans pS hb
   have tM := tM.below hb
   have kG := kept_block kG hb
   clear hb tH s0 s1 s2 s3 s4 s5 s6 s7 s8 s9 s10 h0 h1 h2 h3 h4 h5 h6 h7 h8 h9 h10
   obtain ⟨z0, z1, z2, z3, z4, z5, z6, z7, z8, z9, z10⟩ := cells11 kG
   go_wp2_with fail
   refine (heldBridge_from 1 (by omega) (by omega) _ _ _ _ _ _ _ _ _ _ _ _ V _ tM.row NG.out.1 NG.out.2.1 NG.out.2.2.1 NG.out.2.2.2).mono ?_
   rintro e w16 ⟨rfl, hb⟩
   have HB := hide (gr_trans uS (gr_trans pS hb))
   clear hb z0 z1 z2 z3 z4 z5 z6 z7 z8 z9 z10
   go_wp2
   go_ret
   exact ⟨rfl, HB.out⟩
  exact AllReadyH.nil
 exact AllReadyH.nil

theorem fnExactLinkSet_own : ownKnob Tryz.prog.godebug = none := by kernel_rfl
theorem fnExactLinkSet_laid : laidOutB Tryz.prog = true := by kernel_rfl

open Go.ChangeShapes Go.WideShapes Go.ChangeAt in
open Go.ChangeMaps (open_string shut_string) in
set_option maxRecDepth 100000 in
theorem fnExactLinkSet_lifted (os : Os) (started : os.Started) (H : Type) (enc : TypeId × Value → H) :
  ReturnsInHanded {} Tryz.checked os 6 .any (Rows.fnExactLinkSetSpec.pre6 enc Tryz.prog Tryz.f6 Rows.fnExactLinkSetRow.domain false) (Rows.fnExactLinkSetSpec.post enc Tryz.prog Tryz.f6 false true false false) := by
 refine returnsInHanded_of_change (C := Tryz.checked) fnExactLinkSet_own started (by kernel_rfl) Tryz.func6
  (ChangeSpec.witness6 (enc := enc) (C := Tryz.checked) false ⟨#[], #[.agg #[.int .i64 0, .string ByteArray.empty, .slice none 0 0, .slice none 0 0, .slice none 0 0, .slice none 0 0, .int .i64 0, .int .i64 0, .int .i64 0, .int .i64 0, .int .i64 0], .int .i64 0, .bool false], []⟩ 8 (by kernel_rfl) (by kernel_rfl) (by kernel_rfl) (by kernel_rfl)) ?_
 intro W base args ds gs before hval0 hW hcnd _
 have hval : ∀ (j : Nat) t v, Tryz.f6.params[j]? = some t → args[j]? = some v → Value.okWide Tryz.prog W .any base t v := hval0
 have hW' := hW
 obtain ⟨p, q, hA0, hV, rfl, hfz, hnd⟩ := hW
 have hA : DataW.TrodAll enc Tryz.prog W 0 (fun _ => true) true Tryz.f6.params.toList args.toList ds p := hA0
 rw [Tryz.params6] at hA hval
 obtain ⟨v0, vs0, d0, ds0, p0, q0, hargs, rfl, rfl, h0, r0⟩ := trodAll_cons hA
 obtain ⟨v1, vs1, d1, ds1, p1, q1, rfl, rfl, rfl, h1, r1⟩ := trodAll_cons r0
 obtain ⟨v2, vs2, d2, ds2, p2, q2, rfl, rfl, rfl, h2, r2⟩ := trodAll_cons r1
 obtain ⟨rfl, rfl, rfl⟩ := trodAll_nil r2
 obtain rfl : args = #[v0, v1, v2] := by cases args; simp_all
 obtain ⟨rfl, rfl⟩ := trodVars_none hV
 have k0 := h0
 have lt0 : ∀ x ∈ p0, x.block < W.heap.size := by obtain ⟨m, hm⟩ := k0; exact DataW.trod_lt m _ _ _ hm
 have bt : BrTypes Tryz.prog 66 9 60 167 67 61 169 64 62 200 27 3 4 _ _ _ _ _ _ _ _ _ _ _ _ _ _ _ _ _ _ _ _ _ _ _ _ _ _ _ _ _ := ⟨Tryz.underlying66, Tryz.underlying9, Tryz.underlying60, Tryz.underlying167, Tryz.underlying67, Tryz.underlying61, Tryz.underlying169, Tryz.underlying64, Tryz.underlying62, Tryz.underlying200, Tryz.underlying27, Tryz.underlying3, Tryz.underlying4, ⟨rfl, rfl⟩, ⟨rfl, rfl⟩, ⟨rfl, rfl⟩, ⟨rfl, rfl⟩, ⟨rfl, rfl⟩, ⟨rfl, rfl⟩, ⟨rfl, rfl⟩, ⟨rfl, rfl⟩, ⟨rfl, rfl⟩, ⟨rfl, rfl⟩, ⟨rfl, rfl⟩, ⟨rfl, rfl⟩, ⟨rfl, rfl⟩, ⟨rfl, rfl⟩, ⟨rfl, rfl⟩, ⟨rfl, rfl⟩, ⟨rfl, rfl⟩, ⟨rfl, rfl⟩, ⟨rfl, rfl⟩, ⟨rfl, rfl⟩, ⟨rfl, rfl⟩, ⟨rfl, rfl⟩, ⟨rfl, rfl⟩, ⟨rfl, rfl⟩, ⟨rfl, rfl⟩, ⟨rfl, rfl⟩, ⟨rfl, rfl⟩, ⟨rfl, rfl⟩, ⟨rfl, rfl⟩, (by kernel_rfl), (by kernel_rfl), (by kernel_rfl), (by kernel_rfl), (by kernel_rfl), (by kernel_rfl), (by kernel_rfl), (by kernel_rfl), (by kernel_rfl), (by kernel_rfl), (by kernel_rfl), (by kernel_rfl), (by kernel_rfl)⟩
 obtain ⟨a0, n0, c0, fa0, fn0, fc0, ra0, rn0, rc0, oa0, on0, oc0, B0, rfl, w0, g0⟩ := open_bridge bt (hval 0 66 v0 rfl rfl) h0
 obtain ⟨a1, rfl, rfl, rfl, w1⟩ := open_int Tryz.underlying3 (hval 1 3 v1 rfl rfl) h1
 obtain ⟨a2, rfl, rfl, rfl⟩ := open_bool Tryz.underlying4 (hval 2 4 v2 rfl rfl) h2
 clear hA0 hval0
 refine (exactLinkSet_walk a0 n0 c0 fa0 fn0 fc0 ra0 rn0 rc0 oa0 on0 oc0 B0 a1 a2 W w0 g0 w1).mono fun e W' ⟨he, bel⟩ => ?_
 subst he
 exact ⟨_, rfl, _, _, _, [], _, [], hW', trodAll_mk1 (shut_bool Tryz.underlying4 _), (trodAll_cons_mk (Below.trod fnExactLinkSet_laid (by kernel_rfl) (of_decide_eq_true (by kernel_rfl)) k0 bel lt0) (trodAll_cons_mk (shut_int Tryz.underlying3 w1) (trodAll_cons_mk (shut_bool Tryz.underlying4 _) trodAll_mk0))), rfl, bel.frame _, fun h => by cases h⟩

theorem fnExactLinkSet_holds : Rows.FnExactLinkSetSaid :=
 OpenClaim.holds_of_wide 6 Tryz.f6 rfl rfl rfl rfl rfl rfl rfl ⟨rfl, rfl, rfl, rfl, rfl⟩ rfl rfl rfl rfl rfl (by kernel_rfl) Tryz.func6 (by kernel_rfl)
  (of_decide_eq_true (by kernel_rfl)) (by unfold Func.isWrapper; first | (rw [if_pos (by decide +kernel)]; kernel_rfl) | (rw [if_neg (by decide +kernel)]; exact ⟨rfl, rfl⟩))
  (fun os started H enc _ => fnExactLinkSet_lifted os started H enc)

#print axioms fnExactLinkSet_holds

end Go.Proofs.YtfefhilolhdonaaGreat
