/-
  FnExactGetOid answers true at all bytes: GetOid answers as the specification; it writes into no argument and keeps nothing of one; its answer owns its memory, behind another call too.
-/
import Derived.Test.YtpnhockgaajihabOidGet
import Derived.Test.YtpnhockgaajihabCopy
import Derived.WalkKit
import Derived.ProofKit
import Derived.OpenShut
import Derived.ShutString
import Derived.ChangeOld
import Derived.Below
namespace Go.Proofs.Ytpnhockgaajihab
open Go.RowKit

set_option maxRecDepth 100000 in
set_option maxHeartbeats 2000000 in
theorem exactGetOid_walk (a0 : Option Addr) (l0 c0 : Nat) (z0 : List Int) (w : World) (h0 : Row w a0 l0 c0 z0) :
    Calls Try.prog 3 #[.slice a0 l0 c0] w fun e w' => e = .returned (.bool true) ∧ Below w.heap.size w w' := by
  by_cases g0 : 1048576 < l0
  · go_enter Try.func3, Try.ntmps3
    go_wp2
    go_ret
    exact ⟨rfl, Below.refl _ _⟩
  obtain ⟨hrg, hlen⟩ := getO_range z0
  generalize hP : (getO z0).getD [] = P at hrg hlen
  generalize hK : (getO z0).isSome = ok
  have HP := hide hP
  have HK := hide hK
  clear hP hK
  go_enter Try.func3, Try.ntmps3
  go_wp2_with fail
  refine (copy_made _ _ _ z0 _ h0 (by omega)).mono ?_
  rintro e w1 ⟨ao1, cp1, rfl, -, r1, hb1⟩
  go_wp2_with fail
  refine (specGet_row _ _ _ z0 P ok HP.out HK.out _ r1 (by omega)).mono ?_
  rintro e w3 ⟨ao3, cp3, rfl, -, r3, hb3⟩
  have q3 : Below w.heap.size w w3 := hb1.trans (hb3.mono hb1.size)
  clear hb1 hb3 r1
  have n3 := q3.size
  go_wp2_with fail
  refine (copy_made _ _ _ z0 _ (h0.below q3) (by omega)).mono ?_
  rintro e w4 ⟨ao4, cp4, rfl, ho4, r4, hb4⟩
  have n4 := hb4.size
  go_wp2_with fail
  refine (implGet_row _ _ _ z0 P ok HP.out HK.out _ r4 (by omega)).mono ?_
  rintro e w6 ⟨ao6, cp6, rfl, ho6, r6, hb6⟩
  have n6 := hb6.size
  have p6 : Below w3.heap.size w3 w6 := hb4.trans (hb6.mono n4)
  go_wp2_with fail
  refine (eqI_same _ _ _ _ _ _ P _ r6 (r3.below p6)).mono ?_
  rintro e w7 ⟨rfl, n7, rfl⟩
  have d7 : Below w6.heap.size w6 (w6.drewN n7) := below_drewN (Below.refl _ _) n7
  have q7 : Below w.heap.size w (w6.drewN n7) := (q3.trans (p6.mono n3)).trans (d7.mono (by omega))
  go_wp2_with fail
  refine (copy_made _ _ _ z0 _ (h0.below q7) (by omega)).mono ?_
  rintro e w8 ⟨ao8, cp8, rfl, -, r8, hb8⟩
  have d8 : Below w6.heap.size w6 w8 := d7.trans hb8
  go_wp2_with fail
  refine (eq_same _ _ _ _ _ _ z0 _ ((r4.below hb6).below d8) r8).mono ?_
  rintro e w9 ⟨rfl, n9, rfl⟩
  have d9 : Below w6.heap.size w6 (w8.drewN n9) := below_drewN d8 n9
  have n9' := d9.size
  clear d7 d8 hb8 r8 q7
  generalize w8.drewN n9 = w9 at *
  -- the marks
  have o4 : w9.ownsRow w3.heap.size 5 1 (.slice ao4 l0 cp4) l0 (cB z0) := own_below (own_below ho4 hb6) d9
  have o6 : w9.ownsRow w4.heap.size 3 1 (.slice ao6 P.length cp6) P.length (cI P) := own_below ho6 d9
  have b4 := ho4.lt
  have p9 : Below w3.heap.size w3 w9 := p6.trans (d9.mono (by omega))
  clear d9 p6 ho4 ho6 r4 r6 hb4 hb6
  go_wp2_with fail
  refine (mark_grown _ _ _ _ z0 _ _ o4 (by omega) (by omega) (by omega)).mono ?_
  rintro e w12 ⟨rfl, o12, g12⟩
  have o6 := own_above o6 g12 (fun k hk => (b4 k hk).2)
  have p12 := p9.grown g12 p9.size (fun k hk => (b4 k hk).1)
  clear o12 o4 p9 g12
  have r6 := irow_own o6 hrg
  go_wp2_with fail
  refine (eqI_same _ _ _ _ _ _ P _ r6 (r3.below p12)).mono ?_
  rintro e w14 ⟨rfl, n14, rfl⟩
  have d14 : Below w12.heap.size w12 (w12.drewN n14) := below_drewN (Below.refl _ _) n14
  have p14 : Below w3.heap.size w3 (w12.drewN n14) := below_drewN p12 n14
  have o6 := own_below o6 d14
  have n14' := p14.size
  clear d14 p12 r6 n6 n9'
  generalize w12.drewN n14 = w14 at *
  go_wp2_with fail
  refine (markI_grown _ _ _ _ P _ _ o6 (by omega) (by omega) (by omega)).mono ?_
  rintro e w15 ⟨rfl, o15, g15⟩
  have p15 := p14.grown g15 p14.size (fun k hk => Nat.le_trans n4 (o6.lt k hk).1)
  have r15 := irow_own o15 (marksI_byte _ _ (by omega) (by omega) (by omega))
  clear g15 o6 p14 o15
  have f15 : Below w.heap.size w w15 := q3.trans (p15.mono n3)
  go_wp2_with fail
  refine (heldI_any _ _ _ _ _ r15 (by omega) (by omega) (by omega)).mono ?_
  rintro e w16 ⟨rfl, rfl⟩
  go_wp2_with fail
  refine (copy_made _ _ _ z0 _ (h0.below f15) (by omega)).mono ?_
  rintro e w17 ⟨ao17, cp17, rfl, -, r17, hb17⟩
  go_wp2_with fail
  refine (implGet_row _ _ _ z0 P ok HP.out HK.out _ r17 (by omega)).mono ?_
  rintro e w19 ⟨ao19, cp19, rfl, -, r19, hb19⟩
  have t19 : Below w16.heap.size w16 w19 := hb17.trans (hb19.mono hb17.size)
  clear hb17 hb19 r17
  have p19 : Below w3.heap.size w3 w19 := p15.trans (t19.mono p15.size)
  go_wp2_with fail
  refine (eqI_same _ _ _ _ _ _ P _ r19 (r3.below p19)).mono ?_
  rintro e w20 ⟨rfl, n20, rfl⟩
  go_wp2_with fail
  refine (heldI_any _ _ _ _ _ ((r15.below t19).below (below_drewN (Below.refl _ _) n20)) (by omega) (by omega) (by omega)).mono ?_
  rintro e w21 ⟨rfl, rfl⟩
  go_wp2
  go_ret
  exact ⟨rfl, below_drewN (f15.trans (t19.mono f15.size)) n20⟩

theorem fnExactGetOid_own : ownKnob Try.prog.godebug = none := by kernel_rfl
theorem fnExactGetOid_laid : laidOutB Try.prog = true := by kernel_rfl

open Go.ChangeShapes Go.WideShapes Go.ChangeAt in
open Go.ChangeMaps (open_string shut_string) in
set_option maxRecDepth 100000 in
theorem fnExactGetOid_lifted (os : Os) (started : os.Started) (H : Type) (enc : TypeId × Value → H) :
    ReturnsInHanded {} Try.checked os 3 .any (Rows.fnExactGetOidSpec.pre6 enc Try.prog Try.f3 Rows.fnExactGetOidRow.domain false) (Rows.fnExactGetOidSpec.post enc Try.prog Try.f3 false true false false) := by
  refine returnsInHanded_of_change (C := Try.checked) fnExactGetOid_own started (by kernel_rfl) Try.func3
    (ChangeSpec.witness6 (enc := enc) (C := Try.checked) false ⟨#[], #[.slice none 0 0], []⟩ 8 (by kernel_rfl) (by kernel_rfl) (by kernel_rfl) (by kernel_rfl)) ?_
  intro W base args ds gs before hval0 hW hcnd _
  have hval : ∀ (j : Nat) t v, Try.f3.params[j]? = some t → args[j]? = some v → Value.okWide Try.prog W .any base t v := hval0
  have hW' := hW
  obtain ⟨p, q, hA0, hV, rfl, hfz, hnd⟩ := hW
  have hA : DataW.TrodAll enc Try.prog W 0 (fun _ => true) true Try.f3.params.toList args.toList ds p := hA0
  rw [Try.params3] at hA hval
  obtain ⟨v0, vs0, d0, ds0, p0, q0, hargs, rfl, rfl, h0, r0⟩ := trodAll_cons hA
  obtain ⟨rfl, rfl, rfl⟩ := trodAll_nil r0
  obtain rfl : args = #[v0] := by cases args; simp_all
  obtain ⟨rfl, rfl⟩ := trodVars_none hV
  obtain ⟨a0, len0, cap0, rfl⟩ := okWide_slice Try.underlying22 (hval 0 22 v0 rfl rfl)
  have k0 := h0
  have lt0 : ∀ x ∈ p0, x.block < W.heap.size := by obtain ⟨m, hm⟩ := k0; exact DataW.trod_lt m _ _ _ hm
  obtain ⟨z0, w0⟩ : ∃ zs, Row W a0 len0 cap0 zs := by
    obtain ⟨fuel, hf⟩ := h0
    rcases open_ints Try.underlying22 Try.underlying5 (by kernel_rfl) hf with ⟨hcs, _⟩ | ⟨x, l, c, zs, hcs, _, hl, hm, hz, _, hcell, hwz⟩
    · simp [Value.cells] at hcs
      obtain ⟨rfl, rfl, rfl⟩ := hcs
      exact ⟨[], row_nil W⟩
    · simp [Value.cells] at hcs
      obtain ⟨rfl, rfl, rfl⟩ := hcs
      exact ⟨zs.take len0, row_open hl hm (by simpa using hz) hcell hwz⟩
  clear hA0 hval0
  refine (exactGetOid_walk a0 len0 cap0 z0 W w0).mono fun e W' ⟨he, bel⟩ => ?_
  subst he
  exact ⟨_, rfl, _, _, _, [], _, [], hW', trodAll_mk1 (shut_bool Try.underlying4 _), (trodAll_cons_mk (Below.trod fnExactGetOid_laid (by kernel_rfl) (of_decide_eq_true (by kernel_rfl)) k0 bel lt0) trodAll_mk0), rfl, bel.frame _, fun h => by cases h⟩

theorem fnExactGetOid_holds : Rows.FnExactGetOidSaid :=
  OpenClaim.holds_of_wide 3 Try.f3 rfl rfl rfl rfl rfl rfl rfl ⟨rfl, rfl, rfl, rfl, rfl⟩ rfl rfl rfl rfl rfl (by kernel_rfl) Try.func3 (by kernel_rfl)
    (of_decide_eq_true (by kernel_rfl)) (by unfold Func.isWrapper; first | (rw [if_pos (by decide +kernel)]; kernel_rfl) | (rw [if_neg (by decide +kernel)]; exact ⟨rfl, rfl⟩))
    (fun os started H enc _ => fnExactGetOid_lifted os started H enc)

#print axioms fnExactGetOid_holds

end Go.Proofs.Ytpnhockgaajihab
