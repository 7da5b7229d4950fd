/-
  FnExactPutOid answers true at every list: PutOid answers as the specification; it writes into no argument and keeps nothing of one; its answer owns its memory, behind another call too.
-/
import Derived.Test.YtpnhockgaajihaaOidPut
import Derived.WalkKit
import Derived.ProofKit
import Derived.OpenShut
import Derived.ShutString
import Derived.ChangeOld
import Derived.Below
namespace Go.Proofs.Ytpnhockgaajihaa
open Go.RowKit

set_option maxRecDepth 100000 in
set_option maxHeartbeats 1000000 in
theorem exactPutOid_walk (a0 : Option Addr) (l0 c0 : Nat) (z0 : List Int) (w : World) (h0 : IRow w a0 l0 c0 z0) :
    Calls Try.prog 7 #[.slice a0 l0 c0] w fun e w' => e = .returned (.bool true) ∧ Below w.heap.size w w' := by
  by_cases g0 : 1048576 < l0
  · go_enter Try.func7, Try.ntmps7
    go_wp2
    go_ret
    exact ⟨rfl, Below.refl _ _⟩
  have hlen := put_length z0
  generalize hP : putO z0 = P at hlen
  have HP := hide hP
  clear hP
  go_enter Try.func7, Try.ntmps7
  go_wp2_with fail
  refine (copyI_made _ _ _ z0 _ h0 (by omega)).mono ?_
  rintro e w1 ⟨ao1, cp1, rfl, -, r1, hb1⟩
  go_wp2_with fail
  refine (specPut_made _ _ _ z0 P HP.out _ r1).mono ?_
  rintro e w3 ⟨ao3, cp3, rfl, -, r3, hb3⟩
  have q3 : Below w.heap.size w w3 := hb1.trans (hb3.mono hb1.size)
  clear hb1 hb3 r1
  have n3 := q3.size
  go_wp2_with fail
  refine (copyI_made _ _ _ z0 _ (h0.below q3) (by omega)).mono ?_
  rintro e w4 ⟨ao4, cp4, rfl, ho4, r4, hb4⟩
  have n4 := hb4.size
  go_wp2_with fail
  refine (implPut_made _ _ _ z0 P HP.out _ r4).mono ?_
  rintro e w6 ⟨ao6, cp6, rfl, ho6, r6, hb6⟩
  have n6 := hb6.size
  -- what has turned since the specification's answer; since the copy
  have p6 : Below w3.heap.size w3 w6 := hb4.trans (hb6.mono n4)
  go_wp2_with fail
  refine (eq_same _ _ _ _ _ _ P _ r6 (r3.below p6)).mono ?_
  rintro e w7 ⟨rfl, n7, rfl⟩
  have d7 : Below w6.heap.size w6 (w6.drewN n7) := below_drewN (Below.refl _ _) n7
  have q7 : Below w.heap.size w (w6.drewN n7) := (q3.trans (p6.mono n3)).trans (d7.mono (by omega))
  go_wp2_with fail
  refine (copyI_made _ _ _ z0 _ (h0.below q7) (by omega)).mono ?_
  rintro e w8 ⟨ao8, cp8, rfl, -, r8, hb8⟩
  have d8 : Below w6.heap.size w6 w8 := d7.trans hb8
  go_wp2_with fail
  refine (eqI_same _ _ _ _ _ _ z0 _ ((r4.below hb6).below d8) r8).mono ?_
  rintro e w9 ⟨rfl, n9, rfl⟩
  have d9 : Below w6.heap.size w6 (w8.drewN n9) := below_drewN d8 n9
  have n9' := d9.size
  clear d7 d8 hb8 r8 q7
  generalize w8.drewN n9 = w9 at *
  -- the marks
  have o4 : w9.ownsRow w3.heap.size 3 1 (.slice ao4 l0 cp4) l0 (cI z0) := own_below (own_below ho4 hb6) d9
  have o6 : w9.ownsRow w4.heap.size 5 1 (.slice ao6 P.length cp6) P.length (cB P) := own_below ho6 d9
  have b4 := ho4.lt
  have p9 : Below w3.heap.size w3 w9 := p6.trans (d9.mono (by omega))
  clear d9 p6 ho4 ho6 r4 r6 hb4 hb6
  go_wp2_with fail
  refine (markI_grown _ _ _ _ z0 _ _ o4 (by omega) (by omega) (by omega)).mono ?_
  rintro e w12 ⟨rfl, o12, g12⟩
  have o6 := own_above o6 g12 (fun k hk => (b4 k hk).2)
  have p12 := p9.grown g12 p9.size (fun k hk => (b4 k hk).1)
  clear o12 o4 p9 g12
  have r6 := row_own o6 r3.byte
  go_wp2_with fail
  refine (eq_same _ _ _ _ _ _ P _ r6 (r3.below p12)).mono ?_
  rintro e w14 ⟨rfl, n14, rfl⟩
  have d14 : Below w12.heap.size w12 (w12.drewN n14) := below_drewN (Below.refl _ _) n14
  have p14 : Below w3.heap.size w3 (w12.drewN n14) := below_drewN p12 n14
  have o6 := own_below o6 d14
  have n14' := p14.size
  clear d14 p12 r6 n6 n9'
  generalize w12.drewN n14 = w14 at *
  go_wp2_with fail
  refine (mark_grown _ _ _ _ P _ _ o6 (by omega) (by omega) (by omega)).mono ?_
  rintro e w15 ⟨rfl, o15, g15⟩
  have p15 := p14.grown g15 p14.size (fun k hk => Nat.le_trans n4 (o6.lt k hk).1)
  have r15 := row_own o15 (marks_byte _ _)
  clear g15 o6 p14 o15
  have f15 : Below w.heap.size w w15 := q3.trans (p15.mono n3)
  go_wp2_with fail
  refine (held_any _ _ _ _ _ r15 (by omega) (by omega) (by omega)).mono ?_
  rintro e w16 ⟨rfl, rfl⟩
  go_wp2_with fail
  refine (copyI_made _ _ _ z0 _ (h0.below f15) (by omega)).mono ?_
  rintro e w17 ⟨ao17, cp17, rfl, -, r17, hb17⟩
  go_wp2_with fail
  refine (implPut_made _ _ _ z0 P HP.out _ r17).mono ?_
  rintro e w19 ⟨ao19, cp19, rfl, -, r19, hb19⟩
  have t19 : Below w16.heap.size w16 w19 := hb17.trans (hb19.mono hb17.size)
  clear hb17 hb19 r17
  have p19 : Below w3.heap.size w3 w19 := p15.trans (t19.mono p15.size)
  go_wp2_with fail
  refine (eq_same _ _ _ _ _ _ P _ r19 (r3.below p19)).mono ?_
  rintro e w20 ⟨rfl, n20, rfl⟩
  go_wp2_with fail
  refine (held_any _ _ _ _ _ ((r15.below t19).below (below_drewN (Below.refl _ _) n20)) (by omega) (by omega) (by omega)).mono ?_
  rintro e w21 ⟨rfl, rfl⟩
  go_wp2
  go_ret
  exact ⟨rfl, below_drewN (f15.trans (t19.mono f15.size)) n20⟩

theorem fnExactPutOid_own : ownKnob Try.prog.godebug = none := by kernel_rfl
theorem fnExactPutOid_laid : laidOutB Try.prog = true := by kernel_rfl

open Go.ChangeShapes Go.WideShapes Go.ChangeAt in
open Go.ChangeMaps (open_string shut_string) in
set_option maxRecDepth 100000 in
theorem fnExactPutOid_lifted (os : Os) (started : os.Started) (H : Type) (enc : TypeId × Value → H) :
    ReturnsInHanded {} Try.checked os 7 .any (Rows.fnExactPutOidSpec.pre6 enc Try.prog Try.f7 Rows.fnExactPutOidRow.domain false) (Rows.fnExactPutOidSpec.post enc Try.prog Try.f7 false true false false) := by
  refine returnsInHanded_of_change (C := Try.checked) fnExactPutOid_own started (by kernel_rfl) Try.func7
    (ChangeSpec.witness6 (enc := enc) (C := Try.checked) false ⟨#[], #[.slice none 0 0], []⟩ 8 (by kernel_rfl) (by kernel_rfl) (by kernel_rfl) (by kernel_rfl)) ?_
  intro W base args ds gs before hval0 hW hcnd _
  have hval : ∀ (j : Nat) t v, Try.f7.params[j]? = some t → args[j]? = some v → Value.okWide Try.prog W .any base t v := hval0
  have hW' := hW
  obtain ⟨p, q, hA0, hV, rfl, hfz, hnd⟩ := hW
  have hA : DataW.TrodAll enc Try.prog W 0 (fun _ => true) true Try.f7.params.toList args.toList ds p := hA0
  rw [Try.params7] at hA hval
  obtain ⟨v0, vs0, d0, ds0, p0, q0, hargs, rfl, rfl, h0, r0⟩ := trodAll_cons hA
  obtain ⟨rfl, rfl, rfl⟩ := trodAll_nil r0
  obtain rfl : args = #[v0] := by cases args; simp_all
  obtain ⟨rfl, rfl⟩ := trodVars_none hV
  obtain ⟨a0, len0, cap0, rfl⟩ := okWide_slice Try.underlying24 (hval 0 24 v0 rfl rfl)
  have k0 := h0
  have lt0 : ∀ x ∈ p0, x.block < W.heap.size := by obtain ⟨m, hm⟩ := k0; exact DataW.trod_lt m _ _ _ hm
  obtain ⟨z0, w0⟩ : ∃ zs, IRow W a0 len0 cap0 zs := by
    obtain ⟨fuel, hf⟩ := h0
    rcases open_ints Try.underlying24 Try.underlying3 (by kernel_rfl) hf with ⟨hcs, _⟩ | ⟨x, l, c, zs, hcs, _, hl, hm, hz, _, hcell, hwz⟩
    · simp [Value.cells] at hcs
      obtain ⟨rfl, rfl, rfl⟩ := hcs
      exact ⟨[], irow_nil W⟩
    · simp [Value.cells] at hcs
      obtain ⟨rfl, rfl, rfl⟩ := hcs
      exact ⟨zs.take len0, irow_open hl hm (by simpa using hz) hcell hwz⟩
  clear hA0 hval0
  refine (exactPutOid_walk a0 len0 cap0 z0 W w0).mono fun e W' ⟨he, bel⟩ => ?_
  subst he
  exact ⟨_, rfl, _, _, _, [], _, [], hW', trodAll_mk1 (shut_bool Try.underlying4 _), (trodAll_cons_mk (Below.trod fnExactPutOid_laid (by kernel_rfl) (of_decide_eq_true (by kernel_rfl)) k0 bel lt0) trodAll_mk0), rfl, bel.frame _, fun h => by cases h⟩

theorem fnExactPutOid_holds : Rows.FnExactPutOidSaid :=
  OpenClaim.holds_of_wide 7 Try.f7 rfl rfl rfl rfl rfl rfl rfl ⟨rfl, rfl, rfl, rfl, rfl⟩ rfl rfl rfl rfl rfl (by kernel_rfl) Try.func7 (by kernel_rfl)
    (of_decide_eq_true (by kernel_rfl)) (by unfold Func.isWrapper; first | (rw [if_pos (by decide +kernel)]; kernel_rfl) | (rw [if_neg (by decide +kernel)]; exact ⟨rfl, rfl⟩))
    (fun os started H enc _ => fnExactPutOid_lifted os started H enc)

#print axioms fnExactPutOid_holds

end Go.Proofs.Ytpnhockgaajihaa
