/-
  FnExactVtabNew answers true at all arguments: VtabNew answers as the specification; its answer owns its memory, behind another call too.
-/
import Derived.Test.YtafonmfgeecopaaVlanNew
import Derived.Test.YtafonmfgeecopaaVtabHelp
import Derived.WalkKit
import Derived.ProofKit
import Derived.OpenShut
import Derived.ShutString
import Derived.ChangeOld
import Derived.Below
import Derived.Lib.SmallJoins
namespace Go.Proofs.Ytafonmfgeecopaa
open Go.RowKit

theorem sizes_VtabNew (ports : Int) : (vtabNew ports).rows.length ≤ 1 ∧ (vtabNew ports).own.length ≤ 6 := by
  unfold vtabNew
  split
  · rename_i h
    simp at h
    refine ⟨Nat.le_refl _, ?_⟩
    simp only [List.length_replicate]
    omega
  · exact ⟨Nat.zero_le _, Nat.zero_le _⟩

set_option maxRecDepth 100000 in
set_option maxHeartbeats 8000000 in
theorem exactVtabNew_walk (ports : Int) (w : World) (_wf : (Lit.int .i64 ports).wf = true) :
    Calls Try.prog 6 #[.int .i64 ports] w fun e w' => e = .returned (.bool true) ∧ Below w.heap.size w w' := by
  have hsz := hide (sizes_VtabNew ports)
  generalize hV : vtabNew ports = V at hsz
  have HV := hide hV
  clear hV
  go_enter Try.func6, Try.ntmps6
  go_wp2_with fail
  refine (specVtabNew_made ports _).mono ?_
  rw [HV.out]
  rintro e w3 ⟨a3, n3, c3, o3, p3, q3, rfl, t3, hb3⟩
  generalize hwS : w3.alloc (Obj.cells #[Value.slice a3 n3 c3, Value.slice o3 p3 q3] 27) = wS
  have b3S : Below w3.heap.size w3 wS := by subst hwS; exact below_one _ _
  have kS : wS.heap[w3.heap.size]? = some (.cells #[.slice a3 n3 c3, .slice o3 p3 q3] 27) := by rw [← hwS]; exact block_last _ _
  have tS := t3.below b3S
  have uS := gr_trans hb3 b3S
  clear hb3 t3
  obtain ⟨⟨j0, j1⟩, j2, j3⟩ := cells2 kS
  go_wp2_with fail
  refine (implVtabNew_made ports _).mono ?_
  rw [HV.out]
  rintro e w6 ⟨a6, n6, c6, o6, p6, q6, rfl, t6, hb6⟩
  have EG : Hid ((∀ k, (Value.slice a6 n6 c6).ownBlock = some k → k < w6.heap.size) ∧ (∀ k, (Value.slice o6 p6 q6).ownBlock = some k → k < w6.heap.size)) := hide ⟨fun k hk => (t6.rows.lt k hk).2, fun k hk => (t6.own.lt k hk).2⟩
  have NG : Hid (n6 ≤ 16777216 ∧ p6 ≤ 16777216) := hide (by have h1 := t6.len; have h2 := hsz.out; omega)
  generalize hwG : w6.alloc (Obj.cells #[Value.slice a6 n6 c6, Value.slice o6 p6 q6] 27) = wG
  have b6G : Below w6.heap.size w6 wG := by subst hwG; exact below_one _ _
  have kG : wG.heap[w6.heap.size]? = some (.cells #[.slice a6 n6 c6, .slice o6 p6 q6] 27) := by rw [← hwG]; exact block_last _ _
  have tG := t6.below b6G
  have pS := gr_trans hb6 b6G
  clear hb6 t6 j0 j1 j2 j3
  obtain ⟨⟨z0, z1⟩, z2, z3⟩ := cells2 kG
  obtain ⟨⟨s0, s1⟩, -⟩ := cells2 (kept_block kS pS)
  go_wp2_with fail
  refine (eqVtab_same _ _ _ _ _ _ _ _ _ _ _ _ V _ tG.tab (tS.below pS).tab).mono ?_
  rintro e w8 ⟨rfl, hb⟩
  have pS := gr_trans pS hb
  have tG := tG.below hb
  have kG := kept_block kG hb
  clear hb z0 z1 z2 z3 s0 s1
  obtain ⟨⟨z0, z1⟩, -⟩ := cells2 kG
  go_wp2_with fail
  refine (markVtab_made _ _ _ _ _ _ _ _ V _ tG pS.size EG.out.1 EG.out.2 NG.out.1 NG.out.2).mono ?_
  rintro e w11 ⟨rfl, tM, bt⟩
  have pS := pS.trans bt.below
  have kG : w11.heap[w6.heap.size]? = _ := (bt.block _ (Array.getElem?_eq_some_iff.1 kG).1 (Nat.le_refl _)).trans kG
  clear tG bt z0 z1
  obtain ⟨⟨z0, z1⟩, -⟩ := cells2 kG
  go_wp2_with fail
  refine (heldVtab_any _ _ _ _ _ _ _ tM.tab NG.out.1 NG.out.2).mono ?_
  rintro e w12 ⟨rfl, hb⟩
  have pS := gr_trans pS hb
  have tM := tM.below hb
  have kG := kept_block kG hb
  clear hb z0 z1
  have m0 : ¬ ((1 : Int) + 3 * (n6 : Int) + (p6 : Int) < 0) := by omega
  go_wp2_with fail
  refine (implVtabNew_made ports _).mono ?_
  rw [HV.out]
  rintro e w14 ⟨a14, n14, c14, o14, p14, q14, rfl, tH, hb⟩
  have pS := gr_trans pS hb
  have tM := tM.below hb
  have kG := kept_block kG hb
  clear hb
  generalize hwH : w14.alloc (Obj.cells #[Value.slice a14 n14 c14, Value.slice o14 p14 q14] 27) = wH
  have bH : Below w14.heap.size w14 wH := by subst hwH; exact below_one _ _
  have kH : wH.heap[w14.heap.size]? = some (.cells #[.slice a14 n14 c14, .slice o14 p14 q14] 27) := by rw [← hwH]; exact block_last _ _
  have pS := gr_trans pS bH
  have tM := tM.below bH
  have tH := tH.below bH
  have kG := kept_block kG bH
  obtain ⟨⟨s0, s1⟩, -⟩ := cells2 (kept_block kS pS)
  obtain ⟨⟨h1, h2⟩, h3, h4⟩ := cells2 kH
  go_wp2_with fail
  refine (eqVtab_same _ _ _ _ _ _ _ _ _ _ _ _ V _ tH.tab (tS.below pS).tab).mono ?_
  rintro e w15 ⟨rfl, hb⟩
  have pS := gr_trans pS hb
  have tM := tM.below hb
  have kG := kept_block kG hb
  clear hb tH s0 s1 h1 h2 h3 h4
  obtain ⟨⟨z0, z1⟩, -⟩ := cells2 kG
  go_wp2_with fail
  refine (heldVtab_any _ _ _ _ _ _ _ tM.tab NG.out.1 NG.out.2).mono ?_
  rintro e w16 ⟨rfl, hb⟩
  have HB := hide (gr_trans uS (gr_trans pS hb))
  clear hb z0 z1
  go_wp2
  go_ret
  exact ⟨rfl, HB.out⟩

theorem fnExactVtabNew_own : ownKnob Try.prog.godebug = none := by kernel_rfl
theorem fnExactVtabNew_laid : laidOutB Try.prog = true := by kernel_rfl

open Go.ChangeShapes Go.WideShapes Go.ChangeAt in
open Go.ChangeMaps (open_string shut_string) in
set_option maxRecDepth 100000 in
theorem fnExactVtabNew_lifted (os : Os) (started : os.Started) (H : Type) (enc : TypeId × Value → H) :
    ReturnsInHanded {} Try.checked os 6 .any (Rows.fnExactVtabNewSpec.pre6 enc Try.prog Try.f6 Rows.fnExactVtabNewRow.domain false) (Rows.fnExactVtabNewSpec.post enc Try.prog Try.f6 false true false false) := by
  refine returnsInHanded_of_change (C := Try.checked) fnExactVtabNew_own started (by kernel_rfl) Try.func6
    (ChangeSpec.witness6 (enc := enc) (C := Try.checked) false ⟨#[], #[.int .i64 0], []⟩ 8 (by kernel_rfl) (by kernel_rfl) (by kernel_rfl) (by kernel_rfl)) ?_
  intro W base args ds gs before hval0 hW hcnd _
  have hval : ∀ (j : Nat) t v, Try.f6.params[j]? = some t → args[j]? = some v → Value.okWide Try.prog W .any base t v := hval0
  have hW' := hW
  obtain ⟨p, q, hA0, hV, rfl, hfz, hnd⟩ := hW
  have hA : DataW.TrodAll enc Try.prog W 0 (fun _ => true) true Try.f6.params.toList args.toList ds p := hA0
  rw [Try.params6] at hA hval
  obtain ⟨v0, vs0, d0, ds0, p0, q0, hargs, rfl, rfl, h0, r0⟩ := trodAll_cons hA
  obtain ⟨rfl, rfl, rfl⟩ := trodAll_nil r0
  obtain rfl : args = #[v0] := by cases args; simp_all
  obtain ⟨rfl, rfl⟩ := trodVars_none hV
  obtain ⟨a0, rfl, rfl, rfl, w0⟩ := open_int Try.underlying3 (hval 0 3 v0 rfl rfl) h0
  clear hA0 hval0
  refine (exactVtabNew_walk a0 W w0).mono fun e W' ⟨he, bel⟩ => ?_
  subst he
  exact ⟨_, rfl, _, _, _, [], _, [], hW', trodAll_mk1 (shut_bool Try.underlying4 _), (trodAll_cons_mk (shut_int Try.underlying3 w0) trodAll_mk0), rfl, bel.frame _, fun h => by cases h⟩

theorem fnExactVtabNew_holds : Rows.FnExactVtabNewSaid :=
  OpenClaim.holds_of_wide 6 Try.f6 rfl rfl rfl rfl rfl rfl rfl ⟨rfl, rfl, rfl, rfl, rfl⟩ rfl rfl rfl rfl rfl (by kernel_rfl) Try.func6 (by kernel_rfl)
    (of_decide_eq_true (by kernel_rfl)) (by unfold Func.isWrapper; first | (rw [if_pos (by decide +kernel)]; kernel_rfl) | (rw [if_neg (by decide +kernel)]; exact ⟨rfl, rfl⟩))
    (fun os started H enc _ => fnExactVtabNew_lifted os started H enc)

#print axioms fnExactVtabNew_holds

end Go.Proofs.Ytafonmfgeecopaa
