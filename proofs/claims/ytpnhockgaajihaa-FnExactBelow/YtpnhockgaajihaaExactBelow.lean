/-
  FnExactBelow answers true at all arguments: Below answers as the specification and writes into no argument.
-/
import Derived.Test.YtpnhockgaajihaaOidLess
import Derived.WalkKit
import Derived.ProofKit
import Derived.OpenShut
import Derived.ShutString
import Derived.ChangeOld
import Derived.Below
namespace Go.Proofs.Ytpnhockgaajihaa
open Go.RowKit

set_option maxRecDepth 100000 in
set_option maxHeartbeats 1000000 in
theorem exactBelow_walk (a0 : Option Addr) (l0 c0 : Nat) (z0 : List Int) (a1 : Option Addr) (l1 c1 : Nat) (z1 : List Int) (w : World) (h0 : IRow w a0 l0 c0 z0) (h1 : IRow w a1 l1 c1 z1) :
    Calls Try.prog 6 #[.slice a0 l0 c0, .slice a1 l1 c1] w fun e w' => e = .returned (.bool true) ∧ Below w.heap.size w w' := by
  by_cases g0 : 1048576 < l0
  · go_enter Try.func6, Try.ntmps6
    go_wp2
    go_ret
    exact ⟨rfl, Below.refl _ _⟩
  by_cases g1 : 1048576 < l1
  · go_enter Try.func6, Try.ntmps6
    go_wp2
    go_ret
    exact ⟨rfl, Below.refl _ _⟩
  generalize hP : belowL z0 z1 = P
  have HP := hide hP
  clear hP
  go_enter Try.func6, Try.ntmps6
  go_wp2_with fail
  refine (copyI_made _ _ _ z0 _ h0 (by omega)).mono ?_
  rintro e w1 ⟨ao1, cp1, rfl, -, r1, hb1⟩
  go_wp2_with fail
  refine (copyI_made _ _ _ z1 _ (h1.below hb1) (by omega)).mono ?_
  rintro e w2 ⟨ao2, cp2, rfl, -, r2, hb2⟩
  go_wp2_with fail
  refine (specBelow_any _ _ _ z0 _ _ _ z1 _ (r1.below hb2) r2).mono ?_
  rintro e w3 ⟨rfl, n3, rfl⟩
  have hb3 : Below w2.heap.size w2 (w2.drewN n3) := below_drewN (Below.refl _ _) n3
  rw [HP.out]
  have q3 : Below w.heap.size w (w2.drewN n3) := (hb1.trans (hb2.mono hb1.size)).trans (hb3.mono (Nat.le_trans hb1.size hb2.size))
  clear hb1 hb2 hb3 r1 r2
  generalize w2.drewN n3 = w3 at *
  have n3' := q3.size
  go_wp2_with fail
  refine (copyI_made _ _ _ z0 _ (h0.below q3) (by omega)).mono ?_
  rintro e w4 ⟨ao4, cp4, rfl, -, r4, hb4⟩
  have q4 : Below w.heap.size w w4 := q3.trans (hb4.mono n3')
  go_wp2_with fail
  refine (copyI_made _ _ _ z1 _ (h1.below q4) (by omega)).mono ?_
  rintro e w5 ⟨ao5, cp5, rfl, -, r5, hb5⟩
  have q5 : Below w.heap.size w w5 := q4.trans (hb5.mono q4.size)
  have r4 := r4.below hb5
  clear hb4 hb5 q3 q4
  go_wp2_with fail
  refine (implBelow_any _ _ _ z0 _ _ _ z1 _ r4 r5).mono ?_
  rintro e w6 ⟨rfl, n6, rfl⟩
  rw [HP.out]
  have d6 : Below w5.heap.size w5 (w5.drewN n6) := below_drewN (Below.refl _ _) n6
  have q6 : Below w.heap.size w (w5.drewN n6) := q5.trans (d6.mono q5.size)
  have r4 := r4.below d6
  have r5 := r5.below d6
  clear d6 q5
  generalize (w5.drewN n6) = w6 at *
  go_wp2_with fail
  refine (copyI_made _ _ _ z0 _ (h0.below q6) (by omega)).mono ?_
  rintro e w7 ⟨ao7, cp7, rfl, -, r7, hb7⟩
  go_wp2_with fail
  refine (eqI_same _ _ _ _ _ _ z0 _ (r4.below hb7) r7).mono ?_
  rintro e w8 ⟨rfl, n8, rfl⟩
  have d8 : Below w6.heap.size w6 (w7.drewN n8) := below_drewN hb7 n8
  have q8 : Below w.heap.size w (w7.drewN n8) := q6.trans (d8.mono q6.size)
  have r5 := r5.below d8
  clear d8 q6 hb7 r7 r4
  generalize w7.drewN n8 = w8 at *
  go_wp2_with fail
  refine (copyI_made _ _ _ z1 _ (h1.below q8) (by omega)).mono ?_
  rintro e w9 ⟨ao9, cp9, rfl, -, r9, hb9⟩
  go_wp2_with fail
  refine (eqI_same _ _ _ _ _ _ z1 _ (r5.below hb9) r9).mono ?_
  rintro e w10 ⟨rfl, n10, rfl⟩
  go_wp2
  go_ret
  exact ⟨rfl, below_drewN (q8.trans (hb9.mono q8.size)) n10⟩

theorem fnExactBelow_own : ownKnob Try.prog.godebug = none := by kernel_rfl
theorem fnExactBelow_laid : laidOutB Try.prog = true := by kernel_rfl

open Go.ChangeShapes Go.WideShapes Go.ChangeAt in
open Go.ChangeMaps (open_string shut_string) in
set_option maxRecDepth 100000 in
theorem fnExactBelow_lifted (os : Os) (started : os.Started) (H : Type) (enc : TypeId × Value → H) :
    ReturnsInHanded {} Try.checked os 6 .any (Rows.fnExactBelowSpec.pre6 enc Try.prog Try.f6 Rows.fnExactBelowRow.domain false) (Rows.fnExactBelowSpec.post enc Try.prog Try.f6 false true false false) := by
  refine returnsInHanded_of_change (C := Try.checked) fnExactBelow_own started (by kernel_rfl) Try.func6
    (ChangeSpec.witness6 (enc := enc) (C := Try.checked) false ⟨#[], #[.slice none 0 0, .slice none 0 0], []⟩ 8 (by kernel_rfl) (by kernel_rfl) (by kernel_rfl) (by kernel_rfl)) ?_
  intro W base args ds gs before hval0 hW hcnd _
  have hval : ∀ (j : Nat) t v, Try.f6.params[j]? = some t → args[j]? = some v → Value.okWide Try.prog W .any base t v := hval0
  have hW' := hW
  obtain ⟨p, q, hA0, hV, rfl, hfz, hnd⟩ := hW
  have hA : DataW.TrodAll enc Try.prog W 0 (fun _ => true) true Try.f6.params.toList args.toList ds p := hA0
  rw [Try.params6] at hA hval
  obtain ⟨v0, vs0, d0, ds0, p0, q0, hargs, rfl, rfl, h0, r0⟩ := trodAll_cons hA
  obtain ⟨v1, vs1, d1, ds1, p1, q1, rfl, rfl, rfl, h1, r1⟩ := trodAll_cons r0
  obtain ⟨rfl, rfl, rfl⟩ := trodAll_nil r1
  obtain rfl : args = #[v0, v1] := by cases args; simp_all
  obtain ⟨rfl, rfl⟩ := trodVars_none hV
  obtain ⟨a0, len0, cap0, rfl⟩ := okWide_slice Try.underlying24 (hval 0 24 v0 rfl rfl)
  have k0 := h0
  have lt0 : ∀ x ∈ p0, x.block < W.heap.size := by obtain ⟨m, hm⟩ := k0; exact DataW.trod_lt m _ _ _ hm
  obtain ⟨z0, w0⟩ : ∃ zs, IRow W a0 len0 cap0 zs := by
    obtain ⟨fuel, hf⟩ := h0
    rcases open_ints Try.underlying24 Try.underlying3 (by kernel_rfl) hf with ⟨hcs, _⟩ | ⟨x, l, c, zs, hcs, _, hl, hm, hz, _, hcell, hwz⟩
    · simp [Value.cells] at hcs
      obtain ⟨rfl, rfl, rfl⟩ := hcs
      exact ⟨[], irow_nil W⟩
    · simp [Value.cells] at hcs
      obtain ⟨rfl, rfl, rfl⟩ := hcs
      exact ⟨zs.take len0, irow_open hl hm (by simpa using hz) hcell hwz⟩
  obtain ⟨a1, len1, cap1, rfl⟩ := okWide_slice Try.underlying24 (hval 1 24 v1 rfl rfl)
  have k1 := h1
  have lt1 : ∀ x ∈ p1, x.block < W.heap.size := by obtain ⟨m, hm⟩ := k1; exact DataW.trod_lt m _ _ _ hm
  obtain ⟨z1, w1⟩ : ∃ zs, IRow W a1 len1 cap1 zs := by
    obtain ⟨fuel, hf⟩ := h1
    rcases open_ints Try.underlying24 Try.underlying3 (by kernel_rfl) hf with ⟨hcs, _⟩ | ⟨x, l, c, zs, hcs, _, hl, hm, hz, _, hcell, hwz⟩
    · simp [Value.cells] at hcs
      obtain ⟨rfl, rfl, rfl⟩ := hcs
      exact ⟨[], irow_nil W⟩
    · simp [Value.cells] at hcs
      obtain ⟨rfl, rfl, rfl⟩ := hcs
      exact ⟨zs.take len1, irow_open hl hm (by simpa using hz) hcell hwz⟩
  clear hA0 hval0
  refine (exactBelow_walk a0 len0 cap0 z0 a1 len1 cap1 z1 W w0 w1).mono fun e W' ⟨he, bel⟩ => ?_
  subst he
  exact ⟨_, rfl, _, _, _, [], _, [], hW', trodAll_mk1 (shut_bool Try.underlying4 _), (trodAll_cons_mk (Below.trod fnExactBelow_laid (by kernel_rfl) (of_decide_eq_true (by kernel_rfl)) k0 bel lt0) (trodAll_cons_mk (Below.trod fnExactBelow_laid (by kernel_rfl) (of_decide_eq_true (by kernel_rfl)) k1 bel lt1) trodAll_mk0)), rfl, bel.frame _, fun h => by cases h⟩

theorem fnExactBelow_holds : Rows.FnExactBelowSaid :=
  OpenClaim.holds_of_wide 6 Try.f6 rfl rfl rfl rfl rfl rfl rfl ⟨rfl, rfl, rfl, rfl, rfl⟩ rfl rfl rfl rfl rfl (by kernel_rfl) Try.func6 (by kernel_rfl)
    (of_decide_eq_true (by kernel_rfl)) (by unfold Func.isWrapper; first | (rw [if_pos (by decide +kernel)]; kernel_rfl) | (rw [if_neg (by decide +kernel)]; exact ⟨rfl, rfl⟩))
    (fun os started H enc _ => fnExactBelow_lifted os started H enc)

#print axioms fnExactBelow_holds

end Go.Proofs.Ytpnhockgaajihaa
