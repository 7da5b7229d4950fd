/-
  FnExactParseOid answers true at every text: ParseOid answers as the specification; its answer owns its memory, behind another call too.
-/
import Derived.Test.YtpnhockgaajihabOidParse
import Derived.WalkKit
import Derived.ProofKit
import Derived.OpenShut
import Derived.ShutString
import Derived.ChangeOld
import Derived.Below
namespace Go.Proofs.Ytpnhockgaajihab
open Go.RowKit

set_option maxRecDepth 100000 in
set_option maxHeartbeats 2000000 in
theorem exactParseOid_walk (s : ByteArray) (w : World) (_ws : s.size ≤ maxLen) :
    Calls Try.prog 4 #[.string s] w fun e w' => e = .returned (.bool true) ∧ Below w.heap.size w w' := by
  by_cases g0 : 1048576 < s.size
  · go_enter Try.func4, Try.ntmps4
    go_wp2
    go_ret
    exact ⟨rfl, Below.refl _ _⟩
  obtain ⟨hrg, hlen⟩ := getT_range s.data.toList
  generalize hP : (getT s.data.toList).getD [] = P at hrg hlen
  generalize hK : (getT s.data.toList).isSome = ok
  have HP := hide hP
  have HK := hide hK
  clear hP hK
  go_enter Try.func4, Try.ntmps4
  go_wp2_with fail
  refine (specParse_row s P ok HP.out HK.out _ (by omega)).mono ?_
  rintro e w3 ⟨ao3, cp3, rfl, -, r3, q3⟩
  have n3 := q3.size
  go_wp2_with fail
  refine (implParse_row s P ok HP.out HK.out _ (by omega)).mono ?_
  rintro e w6 ⟨ao6, cp6, rfl, ho6, r6, p6⟩
  have n6 := p6.size
  go_wp2_with fail
  refine (eqI_same _ _ _ _ _ _ P _ r6 (r3.below p6)).mono ?_
  rintro e w7 ⟨rfl, n7, rfl⟩
  have d7 : Below w6.heap.size w6 (w6.drewN n7) := below_drewN (Below.refl _ _) n7
  have p7 : Below w3.heap.size w3 (w6.drewN n7) := below_drewN p6 n7
  have o6 := own_below ho6 d7
  have n7' := p7.size
  clear d7 p6 r6 ho6 n6
  generalize w6.drewN n7 = w7 at *
  go_wp2_with fail
  refine (markI_grown _ _ _ _ P _ _ o6 (by omega) (by omega) (by omega)).mono ?_
  rintro e w15 ⟨rfl, o15, g15⟩
  have p15 := p7.grown g15 p7.size (fun k hk => (o6.lt k hk).1)
  have r15 := irow_own o15 (marksI_byte _ _ (by omega) (by omega) (by omega))
  clear g15 o6 p7 o15
  have f15 : Below w.heap.size w w15 := q3.trans (p15.mono n3)
  go_wp2_with fail
  refine (heldI_any _ _ _ _ _ r15 (by omega) (by omega) (by omega)).mono ?_
  rintro e w16 ⟨rfl, rfl⟩
  go_wp2_with fail
  refine (implParse_row s P ok HP.out HK.out _ (by omega)).mono ?_
  rintro e w19 ⟨ao19, cp19, rfl, -, r19, t19⟩
  have p19 : Below w3.heap.size w3 w19 := p15.trans (t19.mono p15.size)
  go_wp2_with fail
  refine (eqI_same _ _ _ _ _ _ P _ r19 (r3.below p19)).mono ?_
  rintro e w20 ⟨rfl, n20, rfl⟩
  go_wp2_with fail
  refine (heldI_any _ _ _ _ _ ((r15.below t19).below (below_drewN (Below.refl _ _) n20)) (by omega) (by omega) (by omega)).mono ?_
  rintro e w21 ⟨rfl, rfl⟩
  go_wp2
  go_ret
  exact ⟨rfl, below_drewN (f15.trans (t19.mono f15.size)) n20⟩

theorem fnExactParseOid_own : ownKnob Try.prog.godebug = none := by kernel_rfl
theorem fnExactParseOid_laid : laidOutB Try.prog = true := by kernel_rfl

open Go.ChangeShapes Go.WideShapes Go.ChangeAt in
open Go.ChangeMaps (open_string shut_string) in
set_option maxRecDepth 100000 in
theorem fnExactParseOid_lifted (os : Os) (started : os.Started) (H : Type) (enc : TypeId × Value → H) :
    ReturnsInHanded {} Try.checked os 4 .any (Rows.fnExactParseOidSpec.pre6 enc Try.prog Try.f4 Rows.fnExactParseOidRow.domain false) (Rows.fnExactParseOidSpec.post enc Try.prog Try.f4 false true false false) := by
  refine returnsInHanded_of_change (C := Try.checked) fnExactParseOid_own started (by kernel_rfl) Try.func4
    (ChangeSpec.witness6 (enc := enc) (C := Try.checked) false ⟨#[], #[.string ByteArray.empty], []⟩ 8 (by kernel_rfl) (by kernel_rfl) (by kernel_rfl) (by kernel_rfl)) ?_
  intro W base args ds gs before hval0 hW hcnd _
  have hval : ∀ (j : Nat) t v, Try.f4.params[j]? = some t → args[j]? = some v → Value.okWide Try.prog W .any base t v := hval0
  have hW' := hW
  obtain ⟨p, q, hA0, hV, rfl, hfz, hnd⟩ := hW
  have hA : DataW.TrodAll enc Try.prog W 0 (fun _ => true) true Try.f4.params.toList args.toList ds p := hA0
  rw [Try.params4] at hA hval
  obtain ⟨v0, vs0, d0, ds0, p0, q0, hargs, rfl, rfl, h0, r0⟩ := trodAll_cons hA
  obtain ⟨rfl, rfl, rfl⟩ := trodAll_nil r0
  obtain rfl : args = #[v0] := by cases args; simp_all
  obtain ⟨rfl, rfl⟩ := trodVars_none hV
  obtain ⟨a0, rfl, rfl, rfl, w0⟩ := open_string Try.underlying9 (hval 0 9 v0 rfl rfl) h0
  clear hA0 hval0
  refine (exactParseOid_walk a0 W w0).mono fun e W' ⟨he, bel⟩ => ?_
  subst he
  exact ⟨_, rfl, _, _, _, [], _, [], hW', trodAll_mk1 (shut_bool Try.underlying4 _), (trodAll_cons_mk (shut_string Try.underlying9 w0) trodAll_mk0), rfl, bel.frame _, fun h => by cases h⟩

theorem fnExactParseOid_holds : Rows.FnExactParseOidSaid :=
  OpenClaim.holds_of_wide 4 Try.f4 rfl rfl rfl rfl rfl rfl rfl ⟨rfl, rfl, rfl, rfl, rfl⟩ rfl rfl rfl rfl rfl (by kernel_rfl) Try.func4 (by kernel_rfl)
    (of_decide_eq_true (by kernel_rfl)) (by unfold Func.isWrapper; first | (rw [if_pos (by decide +kernel)]; kernel_rfl) | (rw [if_neg (by decide +kernel)]; exact ⟨rfl, rfl⟩))
    (fun os started H enc _ => fnExactParseOid_lifted os started H enc)

#print axioms fnExactParseOid_holds

end Go.Proofs.Ytpnhockgaajihab
