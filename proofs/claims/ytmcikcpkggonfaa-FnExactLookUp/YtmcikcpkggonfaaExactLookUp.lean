/-
  FnExactLookUp answers true at all arguments: LookUp answers as the specification; it writes into no argument.
-/
import Derived.Test.YtmcikcpkggonfaaFdbImplA
import Derived.Test.YtmcikcpkggonfaaFdbRestS
import Derived.Test.YtmcikcpkggonfaaFentHelp
import Derived.WalkKit
import Derived.ProofKit
import Derived.OpenShut
import Derived.ShutString
import Derived.ChangeOld
import Derived.Below
import Derived.Lib.SmallJoins
namespace Go.Proofs.Ytmcikcpkggonfaa
open Go.RowKit

set_option maxRecDepth 100000 in
set_option maxHeartbeats 4000000 in
theorem exactLookUp_walk (a0 : Option Addr) (l0 c0 : Nat) (z0 : List FE) (t m : Int) (w : World) (h0 : GRow fentF w a0 l0 c0 z0) (_g0 : ∀ x ∈ z0, x.Rng) (_wt : (Lit.int .i64 t).wf = true) (_wm : (Lit.int .i64 m).wf = true) :
    Calls Try.prog 8 #[.slice a0 l0 c0, .int .i64 t, .int .i64 m] w fun e w' => e = .returned (.bool true) ∧ Below w.heap.size w w' := by
  have hle := h0.le
  have htop := h0.top
  by_cases gb : ¬ (l0 : Int) ≤ 1048576
  · go_enter Try.func8, Try.ntmps8
    go_wp2_with fail
    refine (szFents_any a0 l0 c0 1048576 _ (Nat.le_trans hle htop) (by omega) (by omega)).mono ?_
    rintro e w1 ⟨rfl, rfl⟩
    rw [if_neg (show ¬ (l0 : Int) ≤ 1048576 by omega)]
    go_wp2
    go_ret
    exact ⟨rfl, Below.refl _ _⟩
  have gb : (l0 : Int) ≤ 1048576 := by omega
  generalize hV : (lookUp z0 t m) = V
  have HV := hide hV
  clear hV
  go_enter Try.func8, Try.ntmps8
  go_wp2_with fail
  refine (szFents_any a0 l0 c0 1048576 _ (Nat.le_trans hle htop) (by omega) (by omega)).mono ?_
  rintro e w1 ⟨rfl, rfl⟩
  rw [if_pos gb]
  go_wp2_with fail
  refine (toFents_made a0 l0 c0 z0 _ h0 (by omega)).mono ?_
  rintro e w2 ⟨ao2, cp2, rfl, -, r2, hb2⟩
  go_wp2_with fail
  refine (specLookUp_all _ _ _ z0 t m _ r2 (by omega)).mono ?_
  rintro e w3 ⟨rfl, hb3⟩
  rw [HV.out]
  have u3 := gr_trans hb2 hb3
  clear hb2 hb3 r2
  go_wp2_with fail
  refine (toFents_made a0 l0 c0 z0 _ (h0.below u3) (by omega)).mono ?_
  rintro e w4 ⟨ao4, cp4, rfl, -, r4, hb4⟩
  go_wp2_with fail
  refine (implLookUp_all _ _ _ z0 t m _ r4 (by omega)).mono ?_
  rintro e w5 ⟨rfl, hb5⟩
  rw [HV.out]
  have u5 := gr_trans u3 (gr_trans hb4 hb5)
  have r5 := r4.below hb5
  clear hb4 hb5 r4 u3
  go_wp2_with fail
  refine (toFents_made a0 l0 c0 z0 _ (h0.below u5) (by omega)).mono ?_
  rintro e w6 ⟨ao6, cp6, rfl, -, r6, hb6⟩
  have u6 := gr_trans u5 hb6
  go_wp2_with fail
  refine (eqFents_same _ _ _ _ _ _ z0 _ (r5.below hb6) r6).mono ?_
  rintro e w7 ⟨rfl, hb7⟩
  go_wp2
  go_ret
  exact ⟨rfl, gr_trans u6 hb7⟩

theorem fnExactLookUp_own : ownKnob Try.prog.godebug = none := by kernel_rfl
theorem fnExactLookUp_laid : laidOutB Try.prog = true := by kernel_rfl

open Go.ChangeShapes Go.WideShapes Go.ChangeAt in
open Go.ChangeMaps (open_string shut_string) in
set_option maxRecDepth 100000 in
theorem fnExactLookUp_lifted (os : Os) (started : os.Started) (H : Type) (enc : TypeId × Value → H) :
    ReturnsInHanded {} Try.checked os 8 .any (Rows.fnExactLookUpSpec.pre6 enc Try.prog Try.f8 Rows.fnExactLookUpRow.domain false) (Rows.fnExactLookUpSpec.post enc Try.prog Try.f8 false true false false) := by
  refine returnsInHanded_of_change (C := Try.checked) fnExactLookUp_own started (by kernel_rfl) Try.func8
    (ChangeSpec.witness6 (enc := enc) (C := Try.checked) false ⟨#[], #[.slice none 0 0, .int .i64 0, .int .i64 0], []⟩ 8 (by kernel_rfl) (by kernel_rfl) (by kernel_rfl) (by kernel_rfl)) ?_
  intro W base args ds gs before hval0 hW hcnd _
  have hval : ∀ (j : Nat) t v, Try.f8.params[j]? = some t → args[j]? = some v → Value.okWide Try.prog W .any base t v := hval0
  have hW' := hW
  obtain ⟨p, q, hA0, hV, rfl, hfz, hnd⟩ := hW
  have hA : DataW.TrodAll enc Try.prog W 0 (fun _ => true) true Try.f8.params.toList args.toList ds p := hA0
  rw [Try.params8] at hA hval
  obtain ⟨v0, vs0, d0, ds0, p0, q0, hargs, rfl, rfl, h0, r0⟩ := trodAll_cons hA
  obtain ⟨v1, vs1, d1, ds1, p1, q1, rfl, rfl, rfl, h1, r1⟩ := trodAll_cons r0
  obtain ⟨v2, vs2, d2, ds2, p2, q2, rfl, rfl, rfl, h2, r2⟩ := trodAll_cons r1
  obtain ⟨rfl, rfl, rfl⟩ := trodAll_nil r2
  obtain rfl : args = #[v0, v1, v2] := by cases args; simp_all
  obtain ⟨rfl, rfl⟩ := trodVars_none hV
  have k0 := h0
  have lt0 : ∀ x ∈ p0, x.block < W.heap.size := by obtain ⟨m, hm⟩ := k0; exact DataW.trod_lt m _ _ _ hm
  obtain ⟨a0, len0, cap0, rfl⟩ := okWide_slice Try.underlying42 (hval 0 42 v0 rfl rfl)
  obtain ⟨z0, w0, g0⟩ : ∃ zs, GRow fentF W a0 len0 cap0 zs ∧ ∀ x ∈ zs, x.Rng := by
    obtain ⟨fuel, hf⟩ := h0
    obtain ⟨ao, m, c, l, e, hl, hr⟩ := open_flat ⟨0, 0, 0, 0, false⟩ fentF FE.Rng (v := .slice a0 len0 cap0) Try.underlying42 (by kernel_rfl) (fun h => fent_trod Try.underlying69 Try.underlying3 Try.underlying4 ⟨rfl, rfl⟩ ⟨rfl, rfl⟩ ⟨rfl, rfl⟩ ⟨rfl, rfl⟩ ⟨rfl, rfl⟩ (by kernel_rfl) (by kernel_rfl) (by kernel_rfl) h) hf
    cases e
    exact ⟨l, hl, hr⟩
  obtain ⟨a1, rfl, rfl, rfl, w1⟩ := open_int Try.underlying3 (hval 1 3 v1 rfl rfl) h1
  obtain ⟨a2, rfl, rfl, rfl, w2⟩ := open_int Try.underlying3 (hval 2 3 v2 rfl rfl) h2
  clear hA0 hval0
  refine (exactLookUp_walk a0 len0 cap0 z0 a1 a2 W w0 g0 w1 w2).mono fun e W' ⟨he, bel⟩ => ?_
  subst he
  exact ⟨_, rfl, _, _, _, [], _, [], hW', trodAll_mk1 (shut_bool Try.underlying4 _), (trodAll_cons_mk (Below.trod fnExactLookUp_laid (by kernel_rfl) (of_decide_eq_true (by kernel_rfl)) k0 bel lt0) (trodAll_cons_mk (shut_int Try.underlying3 w1) (trodAll_cons_mk (shut_int Try.underlying3 w2) trodAll_mk0))), rfl, bel.frame _, fun h => by cases h⟩

theorem fnExactLookUp_holds : Rows.FnExactLookUpSaid :=
  OpenClaim.holds_of_wide 8 Try.f8 rfl rfl rfl rfl rfl rfl rfl ⟨rfl, rfl, rfl, rfl, rfl⟩ rfl rfl rfl rfl rfl (by kernel_rfl) Try.func8 (by kernel_rfl)
    (of_decide_eq_true (by kernel_rfl)) (by unfold Func.isWrapper; first | (rw [if_pos (by decide +kernel)]; kernel_rfl) | (rw [if_neg (by decide +kernel)]; exact ⟨rfl, rfl⟩))
    (fun os started H enc _ => fnExactLookUp_lifted os started H enc)

#print axioms fnExactLookUp_holds

end Go.Proofs.Ytmcikcpkggonfaa
