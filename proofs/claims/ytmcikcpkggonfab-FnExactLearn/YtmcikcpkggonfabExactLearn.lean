/-
  FnExactLearn answers true at all arguments: Learn answers as the specification; it writes into no argument and keeps nothing of one; its answer owns its memory, behind another call too.
-/
import Derived.Test.YtmcikcpkggonfabFdbImplL
import Derived.Test.YtmcikcpkggonfabFdbRestS
import Derived.Test.YtmcikcpkggonfabFentHelp
import Derived.WalkKit
import Derived.ProofKit
import Derived.OpenShut
import Derived.ShutString
import Derived.ChangeOld
import Derived.Below
import Derived.Lib.SmallJoins
namespace Go.Proofs.Ytmcikcpkggonfab
open Go.RowKit

set_option maxRecDepth 100000 in
set_option maxHeartbeats 4000000 in
theorem exactLearn_walk (a0 : Option Addr) (l0 c0 : Nat) (z0 : List FE) (t m p : Int) (w : World) (h0 : GRow fentF w a0 l0 c0 z0) (g0 : ∀ x ∈ z0, x.Rng) (_wt : (Lit.int .i64 t).wf = true) (_wm : (Lit.int .i64 m).wf = true) (_wp : (Lit.int .i64 p).wf = true) :
    Calls Try.prog 3 #[.slice a0 l0 c0, .int .i64 t, .int .i64 m, .int .i64 p] w fun e w' => e = .returned (.bool true) ∧ Below w.heap.size w w' := by
  have hle := h0.le
  have htop := h0.top
  by_cases gb : ¬ (l0 : Int) ≤ 1048576
  · go_enter Try.func3, Try.ntmps3
    go_wp2_with fail
    refine (szFents_any a0 l0 c0 1048576 _ (Nat.le_trans hle htop) (by omega) (by omega)).mono ?_
    rintro e w1 ⟨rfl, rfl⟩
    rw [if_neg (show ¬ (l0 : Int) ≤ 1048576 by omega)]
    go_wp2
    go_ret
    exact ⟨rfl, Below.refl _ _⟩
  have gb : (l0 : Int) ≤ 1048576 := by omega
  have hlen0 := learn_len z0 t m p
  have hz0 := h0.size
  generalize hL : learnF z0 t m p = L at hlen0
  have HL := hide hL
  clear hL
  go_enter Try.func3, Try.ntmps3
  go_wp2_with fail
  refine (szFents_any a0 l0 c0 1048576 _ (Nat.le_trans hle htop) (by omega) (by omega)).mono ?_
  rintro e w1 ⟨rfl, rfl⟩
  rw [if_pos gb]
  go_wp2_with fail
  refine (toFents_made a0 l0 c0 z0 _ h0 (by omega)).mono ?_
  rintro e w2 ⟨ao2, cp2, rfl, -, r2, hb2⟩
  go_wp2_with fail
  refine (specLearn_any _ _ _ z0 t m p _ r2 (by omega)).mono ?_
  rintro e w3 ⟨ao3, cp3, rfl, -, r3, hb3⟩
  rw [HL.out] at r3 ⊢
  have u3 := gr_trans hb2 hb3
  have n3 := u3.size
  clear hb2 hb3 r2
  go_wp2_with fail
  refine (toFents_made a0 l0 c0 z0 _ (h0.below u3) (by omega)).mono ?_
  rintro e w4 ⟨ao4, cp4, rfl, o4, r4, hb4⟩
  have n4 := hb4.size
  have b4 := o4.lt
  go_wp2_with fail
  refine (implLearn_made _ _ _ z0 t m p _ r4 (by omega) g0).mono ?_
  rintro e w5 ⟨ao5, cp5, rfl, o5, r5, hb5⟩
  rw [HL.out] at o5 r5 ⊢
  have p5 := gr_trans hb4 hb5
  have o4 := gown_below o4 hb5
  have r4 := r4.below hb5
  clear hb4 hb5
  go_wp2_with fail
  refine (eqFents_same _ _ _ _ _ _ L _ r5 (r3.below p5)).mono ?_
  rintro e w6 ⟨rfl, hb6⟩
  have p6 := gr_trans p5 hb6
  have o4 := gown_below o4 hb6
  have o5 := gown_below o5 hb6
  have r4 := r4.below hb6
  clear p5 hb6 r5
  go_wp2_with fail
  refine (toFents_made a0 l0 c0 z0 _ (h0.below (gr_trans u3 p6)) (by omega)).mono ?_
  rintro e w7 ⟨ao7, cp7, rfl, -, r7, hb7⟩
  go_wp2_with fail
  refine (eqFents_same _ _ _ _ _ _ z0 _ (r4.below hb7) r7).mono ?_
  rintro e w8 ⟨rfl, hb8⟩
  have d8 := gr_trans hb7 hb8
  have p8 := gr_trans p6 d8
  have o4 := gown_below o4 d8
  have o5 := gown_below o5 d8
  clear p6 hb7 hb8 d8 r4 r7
  -- the marks
  go_wp2_with fail
  refine (markFents_grown _ _ _ _ z0 _ _ o4 (by omega) (by omega) (by omega)).mono ?_
  rintro e w9 ⟨rfl, -, g9⟩
  have p9 := p8.grown g9 p8.size (fun k hk => (b4 k hk).1)
  have o5 := gown_apart o5 g9 (fun k hk => (b4 k hk).2)
  clear o4 p8 g9
  go_wp2_with fail
  refine (eqFents_same _ _ _ _ _ _ L _ (grow_own (F := fentF) o5) (r3.below p9)).mono ?_
  rintro e w10 ⟨rfl, hb10⟩
  have p10 := gr_trans p9 hb10
  have o5 := gown_below o5 hb10
  have b5 := o5.lt
  have hLn : L.length ≤ 16777216 := by omega
  clear p9 hb10
  go_wp2_with fail
  refine (markFents_grown _ _ _ _ L _ _ o5 hLn (by omega) (by omega)).mono ?_
  rintro e w11 ⟨rfl, o11, g11⟩
  have p11 := p10.grown g11 p10.size (fun k hk => Nat.le_trans n4 (b5 k hk).1)
  have r11 := grow_own (F := fentF) o11
  clear o5 p10 g11 o11
  go_wp2_with fail
  refine (heldFents_any _ _ _ _ _ r11 hLn (by omega) (by omega)).mono ?_
  rintro e w12 ⟨rfl, hb12⟩
  have p12 := gr_trans p11 hb12
  have r12 := r11.below hb12
  clear p11 hb12 r11
  go_wp2_with fail
  refine (toFents_made a0 l0 c0 z0 _ (h0.below (gr_trans u3 p12)) (by omega)).mono ?_
  rintro e w13 ⟨ao13, cp13, rfl, -, r13, hb13⟩
  go_wp2_with fail
  refine (implLearn_made _ _ _ z0 t m p _ r13 (by omega) g0).mono ?_
  rintro e w14 ⟨ao14, cp14, rfl, -, r14, hb14⟩
  rw [HL.out] at r14 ⊢
  have d14 := gr_trans hb13 hb14
  have p14 := gr_trans p12 d14
  have r12 := r12.below d14
  clear hb13 hb14 d14 p12 r13
  go_wp2_with fail
  refine (eqFents_same _ _ _ _ _ _ L _ r14 (r3.below p14)).mono ?_
  rintro e w15 ⟨rfl, hb15⟩
  go_wp2_with fail
  refine (heldFents_any _ _ _ _ _ (r12.below hb15) hLn (by omega) (by omega)).mono ?_
  rintro e w16 ⟨rfl, hb16⟩
  go_wp2
  go_ret
  exact ⟨rfl, gr_trans u3 (gr_trans p14 (gr_trans hb15 hb16))⟩

theorem fnExactLearn_own : ownKnob Try.prog.godebug = none := by kernel_rfl
theorem fnExactLearn_laid : laidOutB Try.prog = true := by kernel_rfl

open Go.ChangeShapes Go.WideShapes Go.ChangeAt in
open Go.ChangeMaps (open_string shut_string) in
set_option maxRecDepth 100000 in
theorem fnExactLearn_lifted (os : Os) (started : os.Started) (H : Type) (enc : TypeId × Value → H) :
    ReturnsInHanded {} Try.checked os 3 .any (Rows.fnExactLearnSpec.pre6 enc Try.prog Try.f3 Rows.fnExactLearnRow.domain false) (Rows.fnExactLearnSpec.post enc Try.prog Try.f3 false true false false) := by
  refine returnsInHanded_of_change (C := Try.checked) fnExactLearn_own started (by kernel_rfl) Try.func3
    (ChangeSpec.witness6 (enc := enc) (C := Try.checked) false ⟨#[], #[.slice none 0 0, .int .i64 0, .int .i64 0, .int .i64 0], []⟩ 8 (by kernel_rfl) (by kernel_rfl) (by kernel_rfl) (by kernel_rfl)) ?_
  intro W base args ds gs before hval0 hW hcnd _
  have hval : ∀ (j : Nat) t v, Try.f3.params[j]? = some t → args[j]? = some v → Value.okWide Try.prog W .any base t v := hval0
  have hW' := hW
  obtain ⟨p, q, hA0, hV, rfl, hfz, hnd⟩ := hW
  have hA : DataW.TrodAll enc Try.prog W 0 (fun _ => true) true Try.f3.params.toList args.toList ds p := hA0
  rw [Try.params3] at hA hval
  obtain ⟨v0, vs0, d0, ds0, p0, q0, hargs, rfl, rfl, h0, r0⟩ := trodAll_cons hA
  obtain ⟨v1, vs1, d1, ds1, p1, q1, rfl, rfl, rfl, h1, r1⟩ := trodAll_cons r0
  obtain ⟨v2, vs2, d2, ds2, p2, q2, rfl, rfl, rfl, h2, r2⟩ := trodAll_cons r1
  obtain ⟨v3, vs3, d3, ds3, p3, q3, rfl, rfl, rfl, h3, r3⟩ := trodAll_cons r2
  obtain ⟨rfl, rfl, rfl⟩ := trodAll_nil r3
  obtain rfl : args = #[v0, v1, v2, v3] := by cases args; simp_all
  obtain ⟨rfl, rfl⟩ := trodVars_none hV
  have k0 := h0
  have lt0 : ∀ x ∈ p0, x.block < W.heap.size := by obtain ⟨m, hm⟩ := k0; exact DataW.trod_lt m _ _ _ hm
  obtain ⟨a0, len0, cap0, rfl⟩ := okWide_slice Try.underlying22 (hval 0 22 v0 rfl rfl)
  obtain ⟨z0, w0, g0⟩ : ∃ zs, GRow fentF W a0 len0 cap0 zs ∧ ∀ x ∈ zs, x.Rng := by
    obtain ⟨fuel, hf⟩ := h0
    obtain ⟨ao, m, c, l, e, hl, hr⟩ := open_flat ⟨0, 0, 0, 0, false⟩ fentF FE.Rng (v := .slice a0 len0 cap0) Try.underlying22 (by kernel_rfl) (fun h => fent_trod Try.underlying45 Try.underlying3 Try.underlying4 ⟨rfl, rfl⟩ ⟨rfl, rfl⟩ ⟨rfl, rfl⟩ ⟨rfl, rfl⟩ ⟨rfl, rfl⟩ (by kernel_rfl) (by kernel_rfl) (by kernel_rfl) h) hf
    cases e
    exact ⟨l, hl, hr⟩
  obtain ⟨a1, rfl, rfl, rfl, w1⟩ := open_int Try.underlying3 (hval 1 3 v1 rfl rfl) h1
  obtain ⟨a2, rfl, rfl, rfl, w2⟩ := open_int Try.underlying3 (hval 2 3 v2 rfl rfl) h2
  obtain ⟨a3, rfl, rfl, rfl, w3⟩ := open_int Try.underlying3 (hval 3 3 v3 rfl rfl) h3
  clear hA0 hval0
  refine (exactLearn_walk a0 len0 cap0 z0 a1 a2 a3 W w0 g0 w1 w2 w3).mono fun e W' ⟨he, bel⟩ => ?_
  subst he
  exact ⟨_, rfl, _, _, _, [], _, [], hW', trodAll_mk1 (shut_bool Try.underlying4 _), (trodAll_cons_mk (Below.trod fnExactLearn_laid (by kernel_rfl) (of_decide_eq_true (by kernel_rfl)) k0 bel lt0) (trodAll_cons_mk (shut_int Try.underlying3 w1) (trodAll_cons_mk (shut_int Try.underlying3 w2) (trodAll_cons_mk (shut_int Try.underlying3 w3) trodAll_mk0)))), rfl, bel.frame _, fun h => by cases h⟩

theorem fnExactLearn_holds : Rows.FnExactLearnSaid :=
  OpenClaim.holds_of_wide 3 Try.f3 rfl rfl rfl rfl rfl rfl rfl ⟨rfl, rfl, rfl, rfl, rfl⟩ rfl rfl rfl rfl rfl (by kernel_rfl) Try.func3 (by kernel_rfl)
    (of_decide_eq_true (by kernel_rfl)) (by unfold Func.isWrapper; first | (rw [if_pos (by decide +kernel)]; kernel_rfl) | (rw [if_neg (by decide +kernel)]; exact ⟨rfl, rfl⟩))
    (fun os started H enc _ => fnExactLearn_lifted os started H enc)

#print axioms fnExactLearn_holds

end Go.Proofs.Ytmcikcpkggonfab
