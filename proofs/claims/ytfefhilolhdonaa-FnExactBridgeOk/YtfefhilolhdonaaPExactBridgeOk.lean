/-
  FnExactBridgeOk answers true at all arguments: BridgeOk answers as the specification; it writes into no argument.
-/
import Derived.Test.YtfefhilolhdonaaPBrHelp
import Derived.Test.YtfefhilolhdonaaPBrOkI
import Derived.Test.YtfefhilolhdonaaPK01
import Derived.WalkKit
import Derived.ProofKit
import Derived.OpenShut
import Derived.ShutString
import Derived.ChangeOld
import Derived.Below
import Derived.Lib.SmallJoins
namespace Go.Proofs.Ytfefhilolhdonaa
open Go.RowKit

set_option maxRecDepth 100000 in
set_option maxHeartbeats 8000000 in
theorem exactBridgeOk_walk (a0 : Option Addr) (n0 c0 : Nat) (fa0 : Option Addr) (fn0 fc0 : Nat) (ra0 : Option Addr) (rn0 rc0 : Nat) (oa0 : Option Addr) (on0 oc0 : Nat) (B0 : BR) (w : World) (h0 : BrRow w a0 n0 c0 fa0 fn0 fc0 ra0 rn0 rc0 oa0 on0 oc0 B0) (g0 : B0.Rng) :
  Calls Try.prog 4 #[.agg #[.int .i64 B0.id, .string B0.name, .slice a0 n0 c0, .slice fa0 fn0 fc0, .slice ra0 rn0 rc0, .slice oa0 on0 oc0, .int .i64 B0.ticks, .int .i64 B0.parse, .int .i64 B0.word, .int .i64 B0.drops, .int .i64 B0.vers]] w fun e w' => e = .returned (.bool true) ∧ Below w.heap.size w w' := by
 generalize hwA : w.alloc (Obj.cells #[.int .i64 B0.id, .string B0.name, .slice a0 n0 c0, .slice fa0 fn0 fc0, .slice ra0 rn0 rc0, .slice oa0 on0 oc0, .int .i64 B0.ticks, .int .i64 B0.parse, .int .i64 B0.word, .int .i64 B0.drops, .int .i64 B0.vers] 40) = wA
 have uA : Below w.heap.size w wA := by subst hwA; exact below_one _ _
 have kA : wA.heap[w.heap.size]? = some (.cells #[.int .i64 B0.id, .string B0.name, .slice a0 n0 c0, .slice fa0 fn0 fc0, .slice ra0 rn0 rc0, .slice oa0 on0 oc0, .int .i64 B0.ticks, .int .i64 B0.parse, .int .i64 B0.word, .int .i64 B0.drops, .int .i64 B0.vers] 40) := by rw [← hwA]; exact block_last _ _
 obtain ⟨x0, x1, x2, x3, x4, x5, x6, x7, x8, x9, x10⟩ := cells11 kA
 by_cases gb : ¬ sizeB B0 ≤ 1048576
 ·go_enter Try.func4, Try.ntmps4
  go_wp2_with fail
  refine (szBridge_from 1048576 (by omega) (by omega) a0 n0 c0 fa0 fn0 fc0 ra0 rn0 rc0 oa0 on0 oc0 B0 _ (h0.below uA) g0.name).mono ?_
  rintro e w1 ⟨rfl, hb1⟩
  rw [if_neg (show ¬ sizeB B0 ≤ 1048576 by omega)]
  have HB := hide (gr_trans uA hb1)
  clear x0 x1 x2 x3 x4 x5 x6 x7 x8 x9 x10
  go_wp2
  go_ret
  exact ⟨rfl, HB.out⟩
 have hsz : sizeB B0 = (B0.name.size : Int) + n0 + fn0 + (rn0 + on0) := by unfold sizeB; rw [h0.ports.size, h0.f.size, h0.v.rows.size, h0.v.own.size]
 have gb : sizeB B0 ≤ 1048576 := by omega
 have gn : n0 ≤ 1048576 := by omega
 have gf : fn0 ≤ 1048576 := by omega
 have gr : rn0 ≤ 1048576 := by omega
 have go : on0 ≤ 1048576 := by omega
 have gs : ¬ ((1048576 : Int) - sizeB B0 < 0) := by omega
 clear hsz
 generalize hQ : bridgeOk B0 = Q
 have HQ := hide hQ
 clear hQ
 go_enter Try.func4, Try.ntmps4
 go_wp2_with fail
 refine (szBridge_from 1048576 (by omega) (by omega) a0 n0 c0 fa0 fn0 fc0 ra0 rn0 rc0 oa0 on0 oc0 B0 _ (h0.below uA) g0.name).mono ?_
 rintro e w1 ⟨rfl, hb1⟩
 rw [if_pos gb]
 have kA := kept_block kA hb1
 have u1 := gr_trans uA hb1
 clear hb1 x0 x1 x2 x3 x4 x5 x6 x7 x8 x9 x10
 obtain ⟨x0, x1, x2, x3, x4, x5, x6, x7, x8, x9, x10⟩ := cells11 kA
 generalize hSZ : sizeB B0 = SZ at *
 go_wp2_with fail
 refine (toBridge_made a0 n0 c0 fa0 fn0 fc0 ra0 rn0 rc0 oa0 on0 oc0 B0 _ (h0.below u1) gn gf gr go).mono ?_
 rintro e w2 ⟨a2, c2, fa2, fc2, ra2, rc2, oa2, oc2, rfl, t2, hb2⟩
 go_wp2_with fail
 refine (specBridgeOk_any _ _ _ _ _ _ _ _ _ _ _ _ B0 _ t2.row).mono ?_
 rintro e w3 ⟨rfl, hb3⟩
 rw [HQ.out]
 have d3 := gr_trans hb2 hb3
 have kA := kept_block kA d3
 have u3 := gr_trans u1 d3
 clear hb2 hb3 t2 x0 x1 x2 x3 x4 x5 x6 x7 x8 x9 x10 u1 d3
 obtain ⟨x0, x1, x2, x3, x4, x5, x6, x7, x8, x9, x10⟩ := cells11 kA
 go_wp2_with fail
 refine (toBridge_made a0 n0 c0 fa0 fn0 fc0 ra0 rn0 rc0 oa0 on0 oc0 B0 _ (h0.below u3) gn gf gr go).mono ?_
 rintro e w5 ⟨a4, c4, fa4, fc4, ra4, rc4, oa4, oc4, rfl, t4, hb4⟩
 generalize hwX : w5.alloc (Obj.cells #[.int .i64 B0.id, .string B0.name, .slice a4 n0 c4, .slice fa4 fn0 fc4, .slice ra4 rn0 rc4, .slice oa4 on0 oc4, .int .i64 B0.ticks, .int .i64 B0.parse, .int .i64 B0.word, .int .i64 B0.drops, .int .i64 B0.vers] 29) = wX
 have b4X : Below w5.heap.size w5 wX := by subst hwX; exact below_one _ _
 have kX : wX.heap[w5.heap.size]? = some (.cells #[.int .i64 B0.id, .string B0.name, .slice a4 n0 c4, .slice fa4 fn0 fc4, .slice ra4 rn0 rc4, .slice oa4 on0 oc4, .int .i64 B0.ticks, .int .i64 B0.parse, .int .i64 B0.word, .int .i64 B0.drops, .int .i64 B0.vers] 29) := by rw [← hwX]; exact block_last _ _
 have tX := t4.below b4X
 have d4 := gr_trans hb4 b4X
 have kA := kept_block kA d4
 have uX := gr_trans u3 d4
 clear hb4 x0 x1 x2 x3 x4 x5 x6 x7 x8 x9 x10 u3 d4 t4
 obtain ⟨y0, y1, y2, y3, y4, y5, y6, y7, y8, y9, y10⟩ := cells11 kX
 go_wp2_with fail
 refine (implBridgeOk_any _ _ _ _ _ _ _ _ _ _ _ _ B0 _ tX.row (by omega) g0.v).mono ?_
 rintro e w6 ⟨rfl, hb6⟩
 rw [HQ.out]
 have kA := kept_block kA hb6
 have kX := kept_block kX hb6
 have tX := tX.below hb6
 have uX := gr_trans uX hb6
 clear hb6 y0 y1 y2 y3 y4 y5 y6 y7 y8 y9 y10
 have vv : Below w6.heap.size w6 w6.drew := gr_drew (Below.refl _ _)
 go_wp2_with fail
 refine wp_region_held_drew (S := (fun W => (W.cell? ⟨w.heap.size, 0, none⟩ = some (.int .i64 B0.id) ∧ W.cell? ⟨w.heap.size, 1, none⟩ = some (.string B0.name) ∧ W.cell? ⟨w.heap.size, 2, none⟩ = some (.slice a0 n0 c0) ∧ W.cell? ⟨w.heap.size, 3, none⟩ = some (.slice fa0 fn0 fc0) ∧ W.cell? ⟨w.heap.size, 4, none⟩ = some (.slice ra0 rn0 rc0) ∧ W.cell? ⟨w.heap.size, 5, none⟩ = some (.slice oa0 on0 oc0) ∧ W.cell? ⟨w.heap.size, 6, none⟩ = some (.int .i64 B0.ticks) ∧ W.cell? ⟨w.heap.size, 7, none⟩ = some (.int .i64 B0.parse) ∧ W.cell? ⟨w.heap.size, 8, none⟩ = some (.int .i64 B0.word) ∧ W.cell? ⟨w.heap.size, 9, none⟩ = some (.int .i64 B0.drops) ∧ W.cell? ⟨w.heap.size, 10, none⟩ = some (.int .i64 B0.vers)) ∧ (W.cell? ⟨w5.heap.size, 0, none⟩ = some (.int .i64 B0.id) ∧ W.cell? ⟨w5.heap.size, 1, none⟩ = some (.string B0.name) ∧ W.cell? ⟨w5.heap.size, 2, none⟩ = some (.slice a4 n0 c4) ∧ W.cell? ⟨w5.heap.size, 3, none⟩ = some (.slice fa4 fn0 fc4) ∧ W.cell? ⟨w5.heap.size, 4, none⟩ = some (.slice ra4 rn0 rc4) ∧ W.cell? ⟨w5.heap.size, 5, none⟩ = some (.slice oa4 on0 oc4) ∧ W.cell? ⟨w5.heap.size, 6, none⟩ = some (.int .i64 B0.ticks) ∧ W.cell? ⟨w5.heap.size, 7, none⟩ = some (.int .i64 B0.parse) ∧ W.cell? ⟨w5.heap.size, 8, none⟩ = some (.int .i64 B0.word) ∧ W.cell? ⟨w5.heap.size, 9, none⟩ = some (.int .i64 B0.drops) ∧ W.cell? ⟨w5.heap.size, 10, none⟩ = some (.int .i64 B0.vers)))) (by kernel_rfl) (⟨cells11 (kept_block kA vv), cells11 (kept_block kX vv)⟩) (fun hHeld => ?_)
 refine wpAnyH_take (i := 0) (oi := ⟨some 22, .load 29 (.tmp 5), 29, "exact.go:3989", #[], none⟩) (v := ?_) rfl (by kernel_rfl) (by kernel_rfl) (by kernel_rfl) (fun _ _ _ h => h) (Or.inl ⟨by rfl, ?_⟩) (by assumption) ?_
 rotate_left
 ·(intro wY hSw; (try dsimp only at hSw); go_simp; try with_reducible rfl)
 simp only [Act.put, lA, lB, lC]
 refine wpAnyH_take (i := 1) (oi := ⟨some 23, .load 40 (.tmp 1), 40, "exact.go:3989", #[], none⟩) (v := ?_) rfl (by kernel_rfl) (by kernel_rfl) (by kernel_rfl) (fun _ _ _ h => h) (Or.inl ⟨by rfl, ?_⟩) (by assumption) ?_
 rotate_left
 ·(intro wY hSw; (try dsimp only at hSw); go_simp; try with_reducible rfl)
 simp only [Act.put, lA, lB, lC]
 refine wpAnyH_ready (rs := [2]) (by kernel_rfl) (by simp) ?_
 refine AllReadyH.cons (o := ⟨some 24, .call ⟨.value (.func 12), #[.tmp 23], #[40]⟩, 29, "exact.go:3989", #[⟨1, .data⟩], none⟩) rfl (fun K hK => ?_) ?_
 ·go_simp
  refine (toBridge_made a0 n0 c0 fa0 fn0 fc0 ra0 rn0 rc0 oa0 on0 oc0 B0 _ (h0.below (gr_trans uX vv)) gn gf gr go).mono ?_
  rintro e wt ⟨a7, c7, fa7, fc7, ra7, rc7, oa7, oc7, rfl, t7, hb7⟩
  have vv := gr_trans vv hb7
  go_wp2_with fail
  refine hK.out _ _ (⟨cells11 (kept_block kA vv), cells11 (kept_block kX vv)⟩) (fun hHeld => ?_)
  clear hK K
  try simp only [Act.put, lA, lB, lC]
  refine wpAnyH_ready (rs := [3]) (by kernel_rfl) (by simp) ?_
  refine AllReadyH.cons (o := ⟨some 25, .call ⟨.value (.func 7), #[.tmp 22, .tmp 24], #[29, 29]⟩, 4, "exact.go:3989", #[⟨0, .data⟩, ⟨2, .data⟩, ⟨2, .chain⟩], none⟩) rfl (fun K hK => ?_) ?_
  ·go_simp
   refine (eqBridge_same _ _ _ _ _ _ _ _ _ _ _ _ _ _ _ _ _ _ _ _ _ _ _ _ B0 _ (tX.below vv).row t7.row).mono ?_
   rintro e wt ⟨rfl, hb8⟩
   have vv := gr_trans vv hb8
   clear t7
   go_wp2_with fail
   refine hK.out _ _ (⟨cells11 (kept_block kA vv), cells11 (kept_block kX vv)⟩) (fun hHeld => ?_)
   clear hK K
   try simp only [Act.put, lA, lB, lC]
   refine wpAnyH_take (i := 4) (oi := ⟨some 26, .unOp .not 4 (.tmp 25), 4, "exact.go:3989", #[⟨3, .data⟩], none⟩) (v := ?_) rfl (by kernel_rfl) (by kernel_rfl) (by kernel_rfl) (fun _ _ _ h => h) (Or.inl ⟨by rfl, ?_⟩) (by assumption) ?_
   rotate_left
   ·(intro wY hSw; (try dsimp only at hSw); go_simp; try with_reducible rfl)
   simp only [Act.put, lA, lB, lC]
   refine wpAnyH_done (by kernel_rfl) ?_ _
   have HB := hide (gr_trans uX vv)
   clear hHeld vv
   go_wp2
   go_ret
   exact ⟨rfl, HB.out⟩
  exact AllReadyH.nil
 exact AllReadyH.nil

theorem fnExactBridgeOk_own : ownKnob Try.prog.godebug = none := by kernel_rfl
theorem fnExactBridgeOk_laid : laidOutB Try.prog = true := by kernel_rfl

open Go.ChangeShapes Go.WideShapes Go.ChangeAt in
open Go.ChangeMaps (open_string shut_string) in
set_option maxRecDepth 100000 in
theorem fnExactBridgeOk_lifted (os : Os) (started : os.Started) (H : Type) (enc : TypeId × Value → H) :
  ReturnsInHanded {} Try.checked os 4 .any (Rows.fnExactBridgeOkSpec.pre6 enc Try.prog Try.f4 Rows.fnExactBridgeOkRow.domain false) (Rows.fnExactBridgeOkSpec.post enc Try.prog Try.f4 false true false false) := by
 refine returnsInHanded_of_change (C := Try.checked) fnExactBridgeOk_own started (by kernel_rfl) Try.func4
  (ChangeSpec.witness6 (enc := enc) (C := Try.checked) false ⟨#[], #[.agg #[.int .i64 0, .string ByteArray.empty, .slice none 0 0, .slice none 0 0, .slice none 0 0, .slice none 0 0, .int .i64 0, .int .i64 0, .int .i64 0, .int .i64 0, .int .i64 0]], []⟩ 8 (by kernel_rfl) (by kernel_rfl) (by kernel_rfl) (by kernel_rfl)) ?_
 intro W base args ds gs before hval0 hW hcnd _
 have hval : ∀ (j : Nat) t v, Try.f4.params[j]? = some t → args[j]? = some v → Value.okWide Try.prog W .any base t v := hval0
 have hW' := hW
 obtain ⟨p, q, hA0, hV, rfl, hfz, hnd⟩ := hW
 have hA : DataW.TrodAll enc Try.prog W 0 (fun _ => true) true Try.f4.params.toList args.toList ds p := hA0
 rw [Try.params4] at hA hval
 obtain ⟨v0, vs0, d0, ds0, p0, q0, hargs, rfl, rfl, h0, r0⟩ := trodAll_cons hA
 obtain ⟨rfl, rfl, rfl⟩ := trodAll_nil r0
 obtain rfl : args = #[v0] := by cases args; simp_all
 obtain ⟨rfl, rfl⟩ := trodVars_none hV
 have k0 := h0
 have lt0 : ∀ x ∈ p0, x.block < W.heap.size := by obtain ⟨m, hm⟩ := k0; exact DataW.trod_lt m _ _ _ hm
 have bt : BrTypes Try.prog 40 9 34 91 89 35 93 38 36 112 25 3 4 _ _ _ _ _ _ _ _ _ _ _ _ _ _ _ _ _ _ _ _ _ _ _ _ _ _ _ _ _ := ⟨Try.underlying40, Try.underlying9, Try.underlying34, Try.underlying91, Try.underlying89, Try.underlying35, Try.underlying93, Try.underlying38, Try.underlying36, Try.underlying112, Try.underlying25, Try.underlying3, Try.underlying4, ⟨rfl, rfl⟩, ⟨rfl, rfl⟩, ⟨rfl, rfl⟩, ⟨rfl, rfl⟩, ⟨rfl, rfl⟩, ⟨rfl, rfl⟩, ⟨rfl, rfl⟩, ⟨rfl, rfl⟩, ⟨rfl, rfl⟩, ⟨rfl, rfl⟩, ⟨rfl, rfl⟩, ⟨rfl, rfl⟩, ⟨rfl, rfl⟩, ⟨rfl, rfl⟩, ⟨rfl, rfl⟩, ⟨rfl, rfl⟩, ⟨rfl, rfl⟩, ⟨rfl, rfl⟩, ⟨rfl, rfl⟩, ⟨rfl, rfl⟩, ⟨rfl, rfl⟩, ⟨rfl, rfl⟩, ⟨rfl, rfl⟩, ⟨rfl, rfl⟩, ⟨rfl, rfl⟩, ⟨rfl, rfl⟩, ⟨rfl, rfl⟩, ⟨rfl, rfl⟩, ⟨rfl, rfl⟩, (by kernel_rfl), (by kernel_rfl), (by kernel_rfl), (by kernel_rfl), (by kernel_rfl), (by kernel_rfl), (by kernel_rfl), (by kernel_rfl), (by kernel_rfl), (by kernel_rfl), (by kernel_rfl), (by kernel_rfl), (by kernel_rfl)⟩
 obtain ⟨a0, n0, c0, fa0, fn0, fc0, ra0, rn0, rc0, oa0, on0, oc0, B0, rfl, w0, g0⟩ := open_bridge bt (hval 0 40 v0 rfl rfl) h0
 clear hA0 hval0
 refine (exactBridgeOk_walk a0 n0 c0 fa0 fn0 fc0 ra0 rn0 rc0 oa0 on0 oc0 B0 W w0 g0).mono fun e W' ⟨he, bel⟩ => ?_
 subst he
 exact ⟨_, rfl, _, _, _, [], _, [], hW', trodAll_mk1 (shut_bool Try.underlying4 _), (trodAll_cons_mk (Below.trod fnExactBridgeOk_laid (by kernel_rfl) (of_decide_eq_true (by kernel_rfl)) k0 bel lt0) trodAll_mk0), rfl, bel.frame _, fun h => by cases h⟩

theorem fnExactBridgeOk_holds : Rows.FnExactBridgeOkSaid :=
 OpenClaim.holds_of_wide 4 Try.f4 rfl rfl rfl rfl rfl rfl rfl ⟨rfl, rfl, rfl, rfl, rfl⟩ rfl rfl rfl rfl rfl (by kernel_rfl) Try.func4 (by kernel_rfl)
  (of_decide_eq_true (by kernel_rfl)) (by unfold Func.isWrapper; first | (rw [if_pos (by decide +kernel)]; kernel_rfl) | (rw [if_neg (by decide +kernel)]; exact ⟨rfl, rfl⟩))
  (fun os started H enc _ => fnExactBridgeOk_lifted os started H enc)

#print axioms fnExactBridgeOk_holds

end Go.Proofs.Ytfefhilolhdonaa
