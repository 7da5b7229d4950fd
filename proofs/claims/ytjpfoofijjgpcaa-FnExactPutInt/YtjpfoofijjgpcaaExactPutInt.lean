/-
  FnExactPutInt answers true at every number: PutInt answers as the specification, at every number; its answer owns its memory, behind another call too.
-/
import Derived.Test.YtjpfoofijjgpcaaNum
import Derived.WalkKit
import Derived.ProofKit
import Derived.OpenShut
import Derived.ShutString
import Derived.ChangeOld
import Derived.Below
namespace Go.Proofs.Ytjpfoofijjgpcaa
open Go.RowKit

set_option maxHeartbeats 400000 in
theorem exactPutInt_walk (a0 : Int) (w : World) (_w0 : (Lit.int .i64 a0).wf = true) :
    Calls Try.prog 8 #[.int .i64 a0] w fun e w' => e = .returned (.bool true) ∧ Below w.heap.size w w' := by
  have hlen := putInt_length a0
  generalize hP : putInt a0 = P at hlen
  have HP : Hid (putInt a0 = P) := hP
  clear hP
  go_enter Try.func8, Try.ntmps8
  go_wp2_with fail
  refine (specInt_made a0 P HP.out _).mono ?_
  rintro e w1 ⟨ao0, c0, rfl, -, r0, hb1⟩
  go_wp2_with fail
  refine (implInt_made a0 P HP.out _).mono ?_
  rintro e w2 ⟨ao1, c1, rfl, how1, r1, hb2⟩
  go_wp2_with fail
  refine (eq_same _ _ _ _ _ _ P _ r1 (r0.below hb2)).mono ?_
  rintro e w3 ⟨rfl, n3, rfl⟩
  have hb3 : Below w2.heap.size w2 (w2.drewN n3) := below_drewN (Below.refl _ _) n3
  have hs2 := hb2.size
  go_wp2_with fail
  refine (mark_own _ _ _ _ P _ _ (own_below how1 hb3) hs2 (by omega) (by omega) (by omega)).mono ?_
  rintro e w4 ⟨rfl, how4, hb4⟩
  have q4 : Below w1.heap.size w1 w4 := (hb2.trans (hb3.mono hs2)).trans hb4
  have hs4 := q4.size
  have r4 := row_own how4 (marks_byte _ _)
  clear hb2 hb3 hb4 how1 how4 r1
  go_wp2_with fail
  refine (held_any _ _ _ _ _ r4 (by omega) (by omega) (by omega)).mono ?_
  rintro e w5 ⟨rfl, rfl⟩
  go_wp2_with fail
  refine (implInt_made a0 P HP.out _).mono ?_
  rintro e w6 ⟨ao6, c6, rfl, -, r6, hb6⟩
  have q6 : Below w1.heap.size w1 w6 := q4.trans (hb6.mono hs4)
  go_wp2_with fail
  refine (eq_same _ _ _ _ _ _ P _ r6 (r0.below q6)).mono ?_
  rintro e w7 ⟨rfl, n7, rfl⟩
  go_wp2_with fail
  refine (held_any _ _ _ _ _ ((r4.below hb6).below (below_drewN (Below.refl _ _) n7)) (by omega) (by omega) (by omega)).mono ?_
  rintro e w8 ⟨rfl, rfl⟩
  go_wp2
  go_ret
  exact ⟨rfl, hb1.trans ((below_drewN q6 n7).mono hb1.size)⟩

theorem fnExactPutInt_own : ownKnob Try.prog.godebug = none := by kernel_rfl
theorem fnExactPutInt_laid : laidOutB Try.prog = true := by kernel_rfl

open Go.ChangeShapes Go.WideShapes Go.ChangeAt in
open Go.ChangeMaps (open_string shut_string) in
set_option maxRecDepth 100000 in
theorem fnExactPutInt_lifted (os : Os) (started : os.Started) (H : Type) (enc : TypeId × Value → H) :
    ReturnsInHanded {} Try.checked os 8 .any (Rows.fnExactPutIntSpec.pre6 enc Try.prog Try.f8 Rows.fnExactPutIntRow.domain false) (Rows.fnExactPutIntSpec.post enc Try.prog Try.f8 false true false false) := by
  refine returnsInHanded_of_change (C := Try.checked) fnExactPutInt_own started (by kernel_rfl) Try.func8
    (ChangeSpec.witness6 (enc := enc) (C := Try.checked) false ⟨#[], #[.int .i64 0], []⟩ 8 (by kernel_rfl) (by kernel_rfl) (by kernel_rfl) (by kernel_rfl)) ?_
  intro W base args ds gs before hval0 hW hcnd _
  have hval : ∀ (j : Nat) t v, Try.f8.params[j]? = some t → args[j]? = some v → Value.okWide Try.prog W .any base t v := hval0
  have hW' := hW
  obtain ⟨p, q, hA0, hV, rfl, hfz, hnd⟩ := hW
  have hA : DataW.TrodAll enc Try.prog W 0 (fun _ => true) true Try.f8.params.toList args.toList ds p := hA0
  rw [Try.params8] at hA hval
  obtain ⟨v0, vs0, d0, ds0, p0, q0, hargs, rfl, rfl, h0, r0⟩ := trodAll_cons hA
  obtain ⟨rfl, rfl, rfl⟩ := trodAll_nil r0
  obtain rfl : args = #[v0] := by cases args; simp_all
  obtain ⟨rfl, rfl⟩ := trodVars_none hV
  obtain ⟨a0, rfl, rfl, rfl, w0⟩ := open_int Try.underlying3 (hval 0 3 v0 rfl rfl) h0
  clear hA0 hval0
  refine (exactPutInt_walk a0 W w0).mono fun e W' ⟨he, bel⟩ => ?_
  subst he
  exact ⟨_, rfl, _, _, _, [], _, [], hW', trodAll_mk1 (shut_bool Try.underlying4 _), (trodAll_cons_mk (shut_int Try.underlying3 w0) trodAll_mk0), rfl, bel.frame _, fun h => by cases h⟩

theorem fnExactPutInt_holds : Rows.FnExactPutIntSaid :=
  OpenClaim.holds_of_wide 8 Try.f8 rfl rfl rfl rfl rfl rfl rfl ⟨rfl, rfl, rfl, rfl, rfl⟩ rfl rfl rfl rfl rfl (by kernel_rfl) Try.func8 (by kernel_rfl)
    (of_decide_eq_true (by kernel_rfl)) (by unfold Func.isWrapper; first | (rw [if_pos (by decide +kernel)]; kernel_rfl) | (rw [if_neg (by decide +kernel)]; exact ⟨rfl, rfl⟩))
    (fun os started H enc _ => fnExactPutInt_lifted os started H enc)

#print axioms fnExactPutInt_holds

end Go.Proofs.Ytjpfoofijjgpcaa
