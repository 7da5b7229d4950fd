/-
  FnOidOrder answers true at all bytes: of two drawn names one is less, or they are the same; what is below one is behind it.
-/
import Derived.Test.YtpnhockgaajihaaOidLess
import Derived.Test.YtpnhockgaajihaaDrawOid
import Derived.Test.YtpnhockgaajihaaBig
import Derived.WalkKit
import Derived.ProofKit
import Derived.OpenShut
import Derived.ShutString
import Derived.ChangeOld
import Derived.Below
namespace Go.Proofs.Ytpnhockgaajihaa
open Go.RowKit

theorem three (a b : List Int) : (lessL a b = true ∧ lessL b a = false ∧ decide (a = b) = false) ∨ (lessL a b = false ∧ lessL b a = true ∧ decide (a = b) = false) ∨ (lessL a b = false ∧ lessL b a = false ∧ decide (a = b) = true) := by
  by_cases h : a = b
  · subst h
    exact .inr (.inr ⟨less_same a, less_same a, by simp⟩)
  · have h1 := less_total a b h
    have h2 := less_anti a b
    cases hx : lessL a b with
    | true =>
      cases hy : lessL b a with
      | true => exact absurd ⟨hx, hy⟩ h2
      | false => exact .inl ⟨rfl, rfl, decide_eq_false h⟩
    | false =>
      cases hy : lessL b a with
      | true => exact .inr (.inl ⟨rfl, rfl, decide_eq_false h⟩)
      | false => rw [hx, hy] at h1; simp at h1

theorem drawLess_any (a0 : Option Addr) (l0 c0 : Nat) (z0 : List Int) (w : World) (h0 : Row w a0 l0 c0 z0) (hs : l0 ≤ 1048576) :
    Calls Try.prog 9 #[.slice a0 l0 c0] w fun e w' => DrawnTwo w w' e := by
  go_enter Try.func9, Try.ntmps9
  go_wp2_with fail
  refine (drawSame_any a0 l0 c0 z0 _ h0 hs).mono ?_
  rintro e w1 ⟨ao1, n1, c1, z1, ao2, n2, c2, z2, rfl, h1, h2, r1, r2, hb⟩
  go_wp2
  go_ret2
  exact ⟨ao1, n1, c1, z1, ao2, n2, c2, z2, rfl, h1, h2, r1, r2, hb⟩

theorem drawBelow_any (a0 : Option Addr) (l0 c0 : Nat) (z0 : List Int) (w : World) (h0 : Row w a0 l0 c0 z0) (hs : l0 ≤ 1048576) :
    Calls Try.prog 12 #[.slice a0 l0 c0] w fun e w' => DrawnTwo w w' e := by
  go_enter Try.func12, Try.ntmps12
  go_wp2_with fail
  refine (drawSame_any a0 l0 c0 z0 _ h0 hs).mono ?_
  rintro e w1 ⟨ao1, n1, c1, z1, ao2, n2, c2, z2, rfl, h1, h2, r1, r2, hb⟩
  go_wp2
  go_ret2
  exact ⟨ao2, n2, c2, z2, ao1, n1, c1, z1, rfl, h2, h1, r2, r1, hb⟩

set_option maxRecDepth 100000 in
set_option maxHeartbeats 1000000 in
theorem oidOrder_walk (a0 : Option Addr) (l0 c0 : Nat) (z0 : List Int) (w : World) (h0 : Row w a0 l0 c0 z0) :
    Calls Try.prog 3 #[.slice a0 l0 c0] w fun e w' => e = .returned (.bool true) ∧ Below w.heap.size w w' := by
  by_cases g0 : 1048576 < l0
  · have i1 : (1048576 : Int) < l0 := by omega
    have hbig : Calls Try.prog 8 #[.slice a0 l0 c0] w fun e w' => e = .returned (.bool true) ∧ w' = w := by
      go_enter Try.func8, Try.ntmps8
      go_wp2
      go_ret
      exact ⟨rfl, rfl⟩
    go_enter Try.func3, Try.ntmps3
    go_wp2_with fail
    refine hbig.mono ?_
    rintro e w' ⟨rfl, rfl⟩
    go_wp2
    go_ret
    exact ⟨rfl, Below.refl _ _⟩
  go_enter Try.func3, Try.ntmps3
  go_wp2_with fail
  refine (big_no _ _ _ _ g0).mono ?_
  rintro e w' ⟨rfl, rfl⟩
  go_wp2_with fail
  refine (drawLess_any _ _ _ z0 _ h0 (by omega)).mono ?_
  rintro e w1 ⟨ao1, n1, c1, z1, ao2, n2, c2, z2, rfl, -, -, r1, r2, hb1⟩
  go_wp2_with fail
  refine (implLess_any _ _ _ z1 _ _ _ z2 _ r1 r2).mono ?_
  rintro e w2 ⟨rfl, hw2⟩
  subst hw2
  go_wp2_with fail
  refine (implLess_any _ _ _ z2 _ _ _ z1 _ r2 r1).mono ?_
  rintro e w3 ⟨rfl, hw3⟩
  subst hw3
  go_wp2_with fail
  refine (implSame_any _ _ _ z1 _ _ _ z2 _ r1 r2).mono ?_
  rintro e w4 ⟨rfl, n4, hw4⟩
  have d4 : Below w3.heap.size w3 w4 := by rw [hw4]; exact below_drewN (Below.refl _ _) n4
  have r1 := r1.below d4
  have r2 := r2.below d4
  have f4 := hb1.trans (d4.mono hb1.size)
  clear hw4 d4 hb1
  go_wp2_with fail
  refine (drawBelow_any _ _ _ z0 _ (h0.below f4) (by omega)).mono ?_
  rintro e w5 ⟨ao5, n5, c5, z5, ao6, n6, c6, z6, rfl, -, -, r5, r6, hb5⟩
  have r1 := r1.below hb5
  have r2 := r2.below hb5
  have f5 := f4.trans (hb5.mono f4.size)
  clear hb5 f4
  go_wp2_with fail
  refine (implBelow_any _ _ _ z5 _ _ _ z6 _ r5 r6).mono ?_
  rintro e w6 ⟨rfl, n6', hw6⟩
  have d6 : Below w5.heap.size w5 w6 := by rw [hw6]; exact below_drewN (Below.refl _ _) n6'
  have r1 := r1.below d6
  have r2 := r2.below d6
  have r5 := r5.below d6
  have r6 := r6.below d6
  have f6 := f5.trans (d6.mono f5.size)
  clear hw6 d6 f5
  have hless := below_less z5 z6
  have hsame := sameInts_any _ _ _ z1 _ _ _ z2 _ r1 r2
  generalize hbl : belowL z5 z6 = bl at hless
  have HBL := hide hbl
  have HLS := hide hless
  clear hbl hless
  have h3 := three z1 z2
  generalize lessL z1 z2 = x at *
  generalize lessL z2 z1 = y at *
  generalize decide (z1 = z2) = sm at *
  rcases h3 with ⟨rfl, rfl, rfl⟩ | ⟨rfl, rfl, rfl⟩ | ⟨rfl, rfl, rfl⟩
  all_goals
    go_wp2_with fail
    refine hsame.mono ?_
    rintro e w7 ⟨rfl, n7, hw7⟩
    have d7 : Below w6.heap.size w6 w7 := by rw [hw7]; exact below_drewN (Below.refl _ _) n7
    have r5 := r5.below d7
    have r6 := r6.below d7
    have f7 := f6.trans (d7.mono f6.size)
    clear hw7 d7
    go_wp2_with fail
    refine (specBelow_any _ _ _ z5 _ _ _ z6 _ r5 r6).mono ?_
    rintro e w8 ⟨rfl, n8, hw8⟩
    have d8 : Below w7.heap.size w7 w8 := by rw [hw8]; exact below_drewN (Below.refl _ _) n8
    have r5 := r5.below d8
    have r6 := r6.below d8
    have f8 := f7.trans (d8.mono f7.size)
    clear hw8 d8 f7
    rw [HBL.out]
    cases bl with
    | false =>
      go_wp2
      go_ret
      exact ⟨rfl, f8⟩
    | true =>
      go_wp2_with fail
      refine (implLess_any _ _ _ z6 _ _ _ z5 _ r6 r5).mono ?_
      rintro e w9 ⟨rfl, hw9⟩
      subst hw9
      rw [HLS.out trivial]
      go_wp2
      go_ret
      exact ⟨rfl, f8⟩

theorem fnOidOrder_own : ownKnob Try.prog.godebug = none := by kernel_rfl
theorem fnOidOrder_laid : laidOutB Try.prog = true := by kernel_rfl

open Go.ChangeShapes Go.WideShapes Go.ChangeAt in
open Go.ChangeMaps (open_string shut_string) in
set_option maxRecDepth 100000 in
theorem fnOidOrder_lifted (os : Os) (started : os.Started) (H : Type) (enc : TypeId × Value → H) :
    ReturnsInHanded {} Try.checked os 3 .any (Rows.fnOidOrderSpec.pre6 enc Try.prog Try.f3 Rows.fnOidOrderRow.domain false) (Rows.fnOidOrderSpec.post enc Try.prog Try.f3 false true false false) := by
  refine returnsInHanded_of_change (C := Try.checked) fnOidOrder_own started (by kernel_rfl) Try.func3
    (ChangeSpec.witness6 (enc := enc) (C := Try.checked) false ⟨#[], #[.slice none 0 0], []⟩ 8 (by kernel_rfl) (by kernel_rfl) (by kernel_rfl) (by kernel_rfl)) ?_
  intro W base args ds gs before hval0 hW hcnd _
  have hval : ∀ (j : Nat) t v, Try.f3.params[j]? = some t → args[j]? = some v → Value.okWide Try.prog W .any base t v := hval0
  have hW' := hW
  obtain ⟨p, q, hA0, hV, rfl, hfz, hnd⟩ := hW
  have hA : DataW.TrodAll enc Try.prog W 0 (fun _ => true) true Try.f3.params.toList args.toList ds p := hA0
  rw [Try.params3] at hA hval
  obtain ⟨v0, vs0, d0, ds0, p0, q0, hargs, rfl, rfl, h0, r0⟩ := trodAll_cons hA
  obtain ⟨rfl, rfl, rfl⟩ := trodAll_nil r0
  obtain rfl : args = #[v0] := by cases args; simp_all
  obtain ⟨rfl, rfl⟩ := trodVars_none hV
  obtain ⟨a0, len0, cap0, rfl⟩ := okWide_slice Try.underlying22 (hval 0 22 v0 rfl rfl)
  have k0 := h0
  have lt0 : ∀ x ∈ p0, x.block < W.heap.size := by obtain ⟨m, hm⟩ := k0; exact DataW.trod_lt m _ _ _ hm
  obtain ⟨z0, w0⟩ : ∃ zs, Row W a0 len0 cap0 zs := by
    obtain ⟨fuel, hf⟩ := h0
    rcases open_ints Try.underlying22 Try.underlying5 (by kernel_rfl) hf with ⟨hcs, _⟩ | ⟨x, l, c, zs, hcs, _, hl, hm, hz, _, hcell, hwz⟩
    · simp [Value.cells] at hcs
      obtain ⟨rfl, rfl, rfl⟩ := hcs
      exact ⟨[], row_nil W⟩
    · simp [Value.cells] at hcs
      obtain ⟨rfl, rfl, rfl⟩ := hcs
      exact ⟨zs.take len0, row_open hl hm (by simpa using hz) hcell hwz⟩
  clear hA0 hval0
  refine (oidOrder_walk a0 len0 cap0 z0 W w0).mono fun e W' ⟨he, bel⟩ => ?_
  subst he
  exact ⟨_, rfl, _, _, _, [], _, [], hW', trodAll_mk1 (shut_bool Try.underlying4 _), (trodAll_cons_mk (Below.trod fnOidOrder_laid (by kernel_rfl) (of_decide_eq_true (by kernel_rfl)) k0 bel lt0) trodAll_mk0), rfl, bel.frame _, fun h => by cases h⟩

theorem fnOidOrder_holds : Rows.FnOidOrderSaid :=
  OpenClaim.holds_of_wide 3 Try.f3 rfl rfl rfl rfl rfl rfl rfl ⟨rfl, rfl, rfl, rfl, rfl⟩ rfl rfl rfl rfl rfl (by kernel_rfl) Try.func3 (by kernel_rfl)
    (of_decide_eq_true (by kernel_rfl)) (by unfold Func.isWrapper; first | (rw [if_pos (by decide +kernel)]; kernel_rfl) | (rw [if_neg (by decide +kernel)]; exact ⟨rfl, rfl⟩))
    (fun os started H enc _ => fnOidOrder_lifted os started H enc)

#print axioms fnOidOrder_holds

end Go.Proofs.Ytpnhockgaajihaa
