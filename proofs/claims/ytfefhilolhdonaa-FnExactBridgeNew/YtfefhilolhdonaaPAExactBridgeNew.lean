/-
  FnExactBridgeNew answers true at all arguments: BridgeNew answers as the specification; its answer owns its memory, behind another call too.
-/
import Derived.Test.YtfefhilolhdonaaPABrHelp
import Derived.Test.YtfefhilolhdonaaPAK01
import Derived.Test.YtfefhilolhdonaaPAK09
import Derived.WalkKit
import Derived.ProofKit
import Derived.OpenShut
import Derived.ShutString
import Derived.ChangeOld
import Derived.Below
namespace Go.Proofs.Ytfefhilolhdonaa
open Go.RowKit

theorem new_small (id ports : Int) : (bridgeNewAt id ports).ports.length ≤ 6 ∧ (bridgeNewAt id ports).f.length ≤ 6 ∧ (bridgeNewAt id ports).v.rows.length ≤ 6 ∧ (bridgeNewAt id ports).v.own.length ≤ 6 := by
 unfold bridgeNewAt
 split
 ·next h =>
  simp only [Bool.and_eq_true, decide_eq_true_eq] at h
  obtain ⟨m, rfl⟩ : ∃ m : Nat, ports = (m : Int) := ⟨ports.toNat, by omega⟩
  rw [Int.toNat_natCast]
  unfold bridgeNew vtabNew
  refine ⟨by simp; omega, by simp, ?_, ?_⟩
  ·split <;> simp
  ·split <;> simp <;> omega
 ·exact ⟨by decide, by decide, by decide, by decide⟩

set_option maxRecDepth 100000 in
set_option maxHeartbeats 8000000 in
theorem exactBridgeNew_walk (id ports : Int) (w : World) (_wi : (Lit.int .i64 id).wf = true) (_wp : (Lit.int .i64 ports).wf = true) :
  Calls Try.prog 3 #[.int .i64 id, .int .i64 ports] w fun e w' => e = .returned (.bool true) ∧ Below w.heap.size w w' := by
 have HSM := hide (new_small id ports)
 generalize hV : bridgeNewAt id ports = V at HSM
 have HV := hide hV
 clear hV
 go_enter Try.func3, Try.ntmps3
 go_wp2_with fail
 refine (specNew_any id ports _).mono ?_
 rw [HV.out]
 rintro e w3 ⟨a3, n3, c3, fa3, fn3, fc3, ra3, rn3, rc3, oa3, on3, oc3, rfl, t3, hb3⟩
 generalize hwS : w3.alloc (Obj.cells #[.int .i64 V.id, .string V.name, .slice a3 n3 c3, .slice fa3 fn3 fc3, .slice ra3 rn3 rc3, .slice oa3 on3 oc3, .int .i64 V.ticks, .int .i64 V.parse, .int .i64 V.word, .int .i64 V.drops, .int .i64 V.vers] 29) = wS
 have bS : Below w3.heap.size w3 wS := by subst hwS; exact below_one _ _
 have kS : wS.heap[w3.heap.size]? = some (.cells #[.int .i64 V.id, .string V.name, .slice a3 n3 c3, .slice fa3 fn3 fc3, .slice ra3 rn3 rc3, .slice oa3 on3 oc3, .int .i64 V.ticks, .int .i64 V.parse, .int .i64 V.word, .int .i64 V.drops, .int .i64 V.vers] 29) := by rw [← hwS]; exact block_last _ _
 have tS := t3.below bS
 have uS := gr_trans hb3 bS
 have pS : Below wS.heap.size wS wS := Below.refl _ _
 clear hb3 t3 bS
 go_wp2_with fail
 refine (implNew_any id ports _).mono ?_
 rw [HV.out]
 rintro e w6 ⟨a6, n6, c6, fa6, fn6, fc6, ra6, rn6, rc6, oa6, on6, oc6, rfl, t6, hb6⟩
 have EG := hide t6.under
 have NG : Hid (n6 ≤ 16777216 ∧ fn6 ≤ 16777216 ∧ rn6 ≤ 16777216 ∧ on6 ≤ 16777216) := hide (by
  have e1 := t6.row.ports.size
  have e2 := t6.row.f.size
  have e3 := t6.row.v.rows.size
  have e4 := t6.row.v.own.size
  have l := HSM.out
  omega)
 generalize hwG : w6.alloc (Obj.cells #[.int .i64 V.id, .string V.name, .slice a6 n6 c6, .slice fa6 fn6 fc6, .slice ra6 rn6 rc6, .slice oa6 on6 oc6, .int .i64 V.ticks, .int .i64 V.parse, .int .i64 V.word, .int .i64 V.drops, .int .i64 V.vers] 29) = wG
 have bG : Below w6.heap.size w6 wG := by subst hwG; exact below_one _ _
 have kG : wG.heap[w6.heap.size]? = some (.cells #[.int .i64 V.id, .string V.name, .slice a6 n6 c6, .slice fa6 fn6 fc6, .slice ra6 rn6 rc6, .slice oa6 on6 oc6, .int .i64 V.ticks, .int .i64 V.parse, .int .i64 V.word, .int .i64 V.drops, .int .i64 V.vers] 29) := by rw [← hwG]; exact block_last _ _
 have tG := t6.below bG
 have pS := gr_trans hb6 bG
 clear hb6 t6 bG
 obtain ⟨z0, z1, z2, z3, z4, z5, z6, z7, z8, z9, z10⟩ := cells11 kG
 obtain ⟨s0, s1, s2, s3, s4, s5, s6, s7, s8, s9, s10⟩ := cells11 (kept_block kS pS)
 go_wp2_with fail
 refine (eqBridge_same _ _ _ _ _ _ _ _ _ _ _ _ _ _ _ _ _ _ _ _ _ _ _ _ V _ tG.row (tS.below pS).row).mono ?_
 rintro e w8 ⟨rfl, hb⟩
 have pS := gr_trans pS hb
 have tG := tG.below hb
 have kG := kept_block kG hb
 clear hb z0 z1 z2 z3 z4 z5 z6 z7 z8 z9 z10 s0 s1 s2 s3 s4 s5 s6 s7 s8 s9 s10
 obtain ⟨z0, z1, z2, z3, z4, z5, z6, z7, z8, z9, z10⟩ := cells11 kG
 go_wp2_with fail
 refine (markBridge_from 1 (by omega) (by omega) _ w6.heap.size _ _ _ _ _ _ _ _ _ _ _ _ V _ tG pS.size EG.out NG.out.1 NG.out.2.1 NG.out.2.2.1 NG.out.2.2.2).mono ?_
 rintro e w11 ⟨rfl, tM, bt⟩
 have pS := pS.trans bt.below
 have kG : w11.heap[w6.heap.size]? = _ := (bt.block _ (Array.getElem?_eq_some_iff.1 kG).1 (Nat.le_refl _)).trans kG
 clear tG bt z0 z1 z2 z3 z4 z5 z6 z7 z8 z9 z10
 obtain ⟨z0, z1, z2, z3, z4, z5, z6, z7, z8, z9, z10⟩ := cells11 kG
 go_wp2_with fail
 refine (heldBridge_from 1 (by omega) (by omega) _ _ _ _ _ _ _ _ _ _ _ _ V _ tM.row NG.out.1 NG.out.2.1 NG.out.2.2.1 NG.out.2.2.2).mono ?_
 rintro e w12 ⟨rfl, hb⟩
 have pS := gr_trans pS hb
 have tM := tM.below hb
 have kG := kept_block kG hb
 clear hb z0 z1 z2 z3 z4 z5 z6 z7 z8 z9 z10
 have m0 : ¬ ((1 : Int) + 8 * (n6 : Int) + 5 * (fn6 : Int) + 3 * (rn6 : Int) + (on6 : Int) < 0) := by omega
 go_wp2_with fail
 refine (implNew_any id ports _).mono ?_
 rw [HV.out]
 rintro e w14 ⟨a14, n14, c14, fa14, fn14, fc14, ra14, rn14, rc14, oa14, on14, oc14, rfl, t14, hb14⟩
 generalize hwH : w14.alloc (Obj.cells #[.int .i64 V.id, .string V.name, .slice a14 n14 c14, .slice fa14 fn14 fc14, .slice ra14 rn14 rc14, .slice oa14 on14 oc14, .int .i64 V.ticks, .int .i64 V.parse, .int .i64 V.word, .int .i64 V.drops, .int .i64 V.vers] 29) = wH
 have bH : Below w14.heap.size w14 wH := by subst hwH; exact below_one _ _
 have kH : wH.heap[w14.heap.size]? = some (.cells #[.int .i64 V.id, .string V.name, .slice a14 n14 c14, .slice fa14 fn14 fc14, .slice ra14 rn14 rc14, .slice oa14 on14 oc14, .int .i64 V.ticks, .int .i64 V.parse, .int .i64 V.word, .int .i64 V.drops, .int .i64 V.vers] 29) := by rw [← hwH]; exact block_last _ _
 have tH := t14.below bH
 have d := gr_trans hb14 bH
 have pS := gr_trans pS d
 have tM := tM.below d
 have kG := kept_block kG d
 clear d hb14 t14 bH
 obtain ⟨s0, s1, s2, s3, s4, s5, s6, s7, s8, s9, s10⟩ := cells11 (kept_block kS pS)
 obtain ⟨h0, h1, h2, h3, h4, h5, h6, h7, h8, h9, h10⟩ := cells11 kH
 go_wp2_with fail
 refine (eqBridge_same _ _ _ _ _ _ _ _ _ _ _ _ _ _ _ _ _ _ _ _ _ _ _ _ V _ tH.row (tS.below pS).row).mono ?_
 rintro e w15 ⟨rfl, hb⟩
 have pS := gr_trans pS hb
 have tM := tM.below hb
 have kG := kept_block kG hb
 clear hb tH s0 s1 s2 s3 s4 s5 s6 s7 s8 s9 s10 h0 h1 h2 h3 h4 h5 h6 h7 h8 h9 h10
 obtain ⟨z0, z1, z2, z3, z4, z5, z6, z7, z8, z9, z10⟩ := cells11 kG
 go_wp2_with fail
 refine (heldBridge_from 1 (by omega) (by omega) _ _ _ _ _ _ _ _ _ _ _ _ V _ tM.row NG.out.1 NG.out.2.1 NG.out.2.2.1 NG.out.2.2.2).mono ?_
 rintro e w16 ⟨rfl, hb⟩
 have HB := hide (gr_trans uS (gr_trans pS hb))
 clear hb z0 z1 z2 z3 z4 z5 z6 z7 z8 z9 z10
 go_wp2
 go_ret
 exact ⟨rfl, HB.out⟩

theorem fnExactBridgeNew_own : ownKnob Try.prog.godebug = none := by kernel_rfl
theorem fnExactBridgeNew_laid : laidOutB Try.prog = true := by kernel_rfl

open Go.ChangeShapes Go.WideShapes Go.ChangeAt in
open Go.ChangeMaps (open_string shut_string) in
set_option maxRecDepth 100000 in
theorem fnExactBridgeNew_lifted (os : Os) (started : os.Started) (H : Type) (enc : TypeId × Value → H) :
  ReturnsInHanded {} Try.checked os 3 .any (Rows.fnExactBridgeNewSpec.pre6 enc Try.prog Try.f3 Rows.fnExactBridgeNewRow.domain false) (Rows.fnExactBridgeNewSpec.post enc Try.prog Try.f3 false true false false) := by
 refine returnsInHanded_of_change (C := Try.checked) fnExactBridgeNew_own started (by kernel_rfl) Try.func3
  (ChangeSpec.witness6 (enc := enc) (C := Try.checked) false ⟨#[], #[.int .i64 0, .int .i64 0], []⟩ 8 (by kernel_rfl) (by kernel_rfl) (by kernel_rfl) (by kernel_rfl)) ?_
 intro W base args ds gs before hval0 hW hcnd _
 have hval : ∀ (j : Nat) t v, Try.f3.params[j]? = some t → args[j]? = some v → Value.okWide Try.prog W .any base t v := hval0
 have hW' := hW
 obtain ⟨p, q, hA0, hV, rfl, hfz, hnd⟩ := hW
 have hA : DataW.TrodAll enc Try.prog W 0 (fun _ => true) true Try.f3.params.toList args.toList ds p := hA0
 rw [Try.params3] at hA hval
 obtain ⟨v0, vs0, d0, ds0, p0, q0, hargs, rfl, rfl, h0, r0⟩ := trodAll_cons hA
 obtain ⟨v1, vs1, d1, ds1, p1, q1, rfl, rfl, rfl, h1, r1⟩ := trodAll_cons r0
 obtain ⟨rfl, rfl, rfl⟩ := trodAll_nil r1
 obtain rfl : args = #[v0, v1] := by cases args; simp_all
 obtain ⟨rfl, rfl⟩ := trodVars_none hV
 obtain ⟨a0, rfl, rfl, rfl, w0⟩ := open_int Try.underlying3 (hval 0 3 v0 rfl rfl) h0
 obtain ⟨a1, rfl, rfl, rfl, w1⟩ := open_int Try.underlying3 (hval 1 3 v1 rfl rfl) h1
 clear hA0 hval0
 refine (exactBridgeNew_walk a0 a1 W w0 w1).mono fun e W' ⟨he, bel⟩ => ?_
 subst he
 exact ⟨_, rfl, _, _, _, [], _, [], hW', trodAll_mk1 (shut_bool Try.underlying4 _), (trodAll_cons_mk (shut_int Try.underlying3 w0) (trodAll_cons_mk (shut_int Try.underlying3 w1) trodAll_mk0)), rfl, bel.frame _, fun h => by cases h⟩

theorem fnExactBridgeNew_holds : Rows.FnExactBridgeNewSaid :=
 OpenClaim.holds_of_wide 3 Try.f3 rfl rfl rfl rfl rfl rfl rfl ⟨rfl, rfl, rfl, rfl, rfl⟩ rfl rfl rfl rfl rfl (by kernel_rfl) Try.func3 (by kernel_rfl)
  (of_decide_eq_true (by kernel_rfl)) (by unfold Func.isWrapper; first | (rw [if_pos (by decide +kernel)]; kernel_rfl) | (rw [if_neg (by decide +kernel)]; exact ⟨rfl, rfl⟩))
  (fun os started H enc _ => fnExactBridgeNew_lifted os started H enc)

#print axioms fnExactBridgeNew_holds

end Go.Proofs.Ytfefhilolhdonaa
