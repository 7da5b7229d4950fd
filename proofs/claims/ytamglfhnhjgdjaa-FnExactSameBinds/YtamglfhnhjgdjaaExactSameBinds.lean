/-
  FnExactSameBinds answers true at all arguments: SameBinds answers as the specification and writes into no argument.
-/
import Derived.Test.YtamglfhnhjgdjaaPduSame
import Derived.Test.YtamglfhnhjgdjaaPduTo
import Derived.Test.YtamglfhnhjgdjaaPduEq
import Derived.Test.YtamglfhnhjgdjaaPduOpen
import Derived.WalkKit
import Derived.ProofKit
import Derived.OpenShut
import Derived.ShutString
import Derived.ChangeOld
import Derived.Below
import Derived.Lib.SmallJoins
namespace Go.Proofs.Ytamglfhnhjgdjaa
open Go.RowKit

set_option maxRecDepth 100000 in
set_option maxHeartbeats 4000000 in
theorem exactSameBinds_walk (ao : Option Addr) (n c : Nat) (l : List BI) (ao' : Option Addr) (n' c' : Nat) (l' : List BI) (w : World) (hl : BRow w ao n c l) (hl' : BRow w ao' n' c' l') :
    Calls Try.prog 4 #[.slice ao n c, .slice ao' n' c'] w fun e w' => e = .returned (.bool true) ∧ Below w.heap.size w w' := by
  by_cases g0 : 1048576 < n + bulk l
  · go_enter Try.func4, Try.ntmps4
    go_wp2_with fail
    refine (szBinds_any ao n c l 1048576 _ hl (by omega) (by omega)).mono ?_
    rintro e w1 ⟨rfl, hb⟩
    rw [if_neg (by omega)]
    go_wp2
    go_ret
    exact ⟨rfl, hb⟩
  by_cases g1 : 1048576 < n + bulk l + (n' + bulk l')
  · go_enter Try.func4, Try.ntmps4
    go_wp2_with fail
    refine (szBinds_any ao n c l 1048576 _ hl (by omega) (by omega)).mono ?_
    rintro e w1 ⟨rfl, hb⟩
    rw [if_pos (by omega)]
    go_wp2_with fail
    refine (szBinds_any ao' n' c' l' _ _ (hl'.below hb) (by omega) (by omega)).mono ?_
    rintro e w2 ⟨rfl, hb2⟩
    rw [if_neg (by omega)]
    go_wp2
    go_ret
    exact ⟨rfl, hb.trans (hb2.mono hb.size)⟩
  generalize hP : sameD (l.map BI.d) (l'.map BI.d) = P
  have HP := hide hP
  clear hP
  go_enter Try.func4, Try.ntmps4
  go_wp2_with fail
  refine (szBinds_any ao n c l 1048576 _ hl (by omega) (by omega)).mono ?_
  rintro e w1 ⟨rfl, u1⟩
  rw [if_pos (by omega)]
  go_wp2_with fail
  refine (szBinds_any ao' n' c' l' _ _ (hl'.below u1) (by omega) (by omega)).mono ?_
  rintro e w2 ⟨rfl, hb2⟩
  rw [if_pos (by omega)]
  have u2 := u1.trans (hb2.mono u1.size)
  clear u1 hb2
  go_wp2_with fail
  refine (toBinds_made ao n c l _ (hl.below u2) (by omega)).mono ?_
  rintro e w3 ⟨ao3, cp3, y3, rfl, d3, -, o3, hb3⟩
  have u3 := u2.trans (hb3.mono u2.size)
  have D3 := hide d3
  clear d3 hb3 u2
  go_wp2_with fail
  refine (toBinds_made ao' n' c' l' _ (hl'.below u3) (by omega)).mono ?_
  rintro e w4 ⟨ao4, cp4, y4, rfl, d4, -, o4, hb4⟩
  have u4 := u3.trans (hb4.mono u3.size)
  have D4 := hide d4
  have r3 := o3.brow.below hb4
  clear d4 hb4 u3 o3
  go_wp2_with fail
  refine (specSameBinds_any _ _ _ y3 _ _ _ y4 _ r3 o4.brow).mono ?_
  rintro e w5 ⟨rfl, hb5⟩
  rw [D3.out, D4.out, HP.out]
  have u5 := u4.trans (hb5.mono u4.size)
  clear hb5 u4 r3 o4 D3 D4
  go_wp2_with fail
  refine (toBinds_made ao n c l _ (hl.below u5) (by omega)).mono ?_
  rintro e w6 ⟨ao6, cp6, y6, rfl, d6, -, o6, hb6⟩
  have u6 := u5.trans (hb6.mono u5.size)
  have D6 := hide d6
  clear d6 hb6 u5
  go_wp2_with fail
  refine (toBinds_made ao' n' c' l' _ (hl'.below u6) (by omega)).mono ?_
  rintro e w7 ⟨ao7, cp7, y7, rfl, d7, -, o7, hb7⟩
  have u7 := u6.trans (hb7.mono u6.size)
  have D7 := hide d7
  have r6 := o6.brow.below hb7
  have r7 := o7.brow
  clear d7 hb7 u6 o6 o7
  go_wp2_with fail
  refine (implSameBinds_any _ _ _ y6 _ _ _ y7 _ r6 r7).mono ?_
  rintro e w8 ⟨rfl, hb8⟩
  rw [D6.out, D7.out, HP.out]
  have u8 := u7.trans (hb8.mono u7.size)
  have r6 := r6.below hb8
  have r7 := r7.below hb8
  clear hb8 u7
  go_wp2_with fail
  refine (toBinds_made ao n c l _ (hl.below u8) (by omega)).mono ?_
  rintro e w9 ⟨ao9, cp9, y9, rfl, d9, -, o9, hb9⟩
  have u9 := u8.trans (hb9.mono u8.size)
  have D9 := hide d9
  have r6 := r6.below hb9
  have r7 := r7.below hb9
  clear d9 hb9 u8
  go_wp2_with fail
  refine (eqBinds_same _ _ _ y6 _ _ _ y9 (D6.out.trans D9.out.symm) _ r6 o9.brow).mono ?_
  rintro e w10 ⟨rfl, hb10⟩
  have u10 := u9.trans (hb10.mono u9.size)
  have r7 := r7.below hb10
  clear hb10 u9 o9 r6
  go_wp2_with fail
  refine (toBinds_made ao' n' c' l' _ (hl'.below u10) (by omega)).mono ?_
  rintro e w11 ⟨ao11, cp11, y11, rfl, d11, -, o11, hb11⟩
  have u11 := u10.trans (hb11.mono u10.size)
  have D11 := hide d11
  have r7 := r7.below hb11
  clear d11 hb11 u10
  go_wp2_with fail
  refine (eqBinds_same _ _ _ y7 _ _ _ y11 (D7.out.trans D11.out.symm) _ r7 o11.brow).mono ?_
  rintro e w12 ⟨rfl, hb12⟩
  go_wp2
  go_ret
  exact ⟨rfl, u11.trans (hb12.mono u11.size)⟩

theorem fnExactSameBinds_own : ownKnob Try.prog.godebug = none := by kernel_rfl
theorem fnExactSameBinds_laid : laidOutB Try.prog = true := by kernel_rfl

open Go.ChangeShapes Go.WideShapes Go.ChangeAt in
open Go.ChangeMaps (open_string shut_string) in
set_option maxRecDepth 100000 in
theorem fnExactSameBinds_lifted (os : Os) (started : os.Started) (H : Type) (enc : TypeId × Value → H) :
    ReturnsInHanded {} Try.checked os 4 .any (Rows.fnExactSameBindsSpec.pre6 enc Try.prog Try.f4 Rows.fnExactSameBindsRow.domain false) (Rows.fnExactSameBindsSpec.post enc Try.prog Try.f4 false true false false) := by
  refine returnsInHanded_of_change (C := Try.checked) fnExactSameBinds_own started (by kernel_rfl) Try.func4
    (ChangeSpec.witness6 (enc := enc) (C := Try.checked) false ⟨#[], #[.slice none 0 0, .slice none 0 0], []⟩ 8 (by kernel_rfl) (by kernel_rfl) (by kernel_rfl) (by kernel_rfl)) ?_
  intro W base args ds gs before hval0 hW hcnd _
  have hval : ∀ (j : Nat) t v, Try.f4.params[j]? = some t → args[j]? = some v → Value.okWide Try.prog W .any base t v := hval0
  have hW' := hW
  obtain ⟨p, q, hA0, hV, rfl, hfz, hnd⟩ := hW
  have hA : DataW.TrodAll enc Try.prog W 0 (fun _ => true) true Try.f4.params.toList args.toList ds p := hA0
  rw [Try.params4] at hA hval
  obtain ⟨v0, vs0, d0, ds0, p0, q0, hargs, rfl, rfl, h0, r0⟩ := trodAll_cons hA
  obtain ⟨v1, vs1, d1, ds1, p1, q1, rfl, rfl, rfl, h1, r1⟩ := trodAll_cons r0
  obtain ⟨rfl, rfl, rfl⟩ := trodAll_nil r1
  obtain rfl : args = #[v0, v1] := by cases args; simp_all
  obtain ⟨rfl, rfl⟩ := trodVars_none hV
  have bt0 : BindTypes Try.prog 22 56 54 43 3 9 _ _ _ _ _ _ := ⟨Try.underlying22, Try.underlying56, Try.underlying54, Try.underlying43, Try.underlying3, Try.underlying9, ⟨rfl, rfl⟩, ⟨rfl, rfl⟩, ⟨rfl, rfl⟩, ⟨rfl, rfl⟩, ⟨rfl, rfl⟩, ⟨rfl, rfl⟩, (by kernel_rfl), (by kernel_rfl), (by kernel_rfl), (by kernel_rfl), (by kernel_rfl)⟩
  have k0 := h0
  have lt0 : ∀ x ∈ p0, x.block < W.heap.size := by obtain ⟨m, hm⟩ := k0; exact DataW.trod_lt m _ _ _ hm
  obtain ⟨a0, len0, cap0, rfl⟩ := okWide_slice Try.underlying22 (hval 0 22 v0 rfl rfl)
  obtain ⟨z0, w0⟩ : ∃ zs, BRow W a0 len0 cap0 zs := by
    obtain ⟨fuel, hf⟩ := h0
    obtain ⟨ao, m, c, l, e, hl⟩ := open_binds (v := .slice a0 len0 cap0) bt0 hf
    cases e
    exact ⟨l, hl⟩
  have bt1 : BindTypes Try.prog 22 56 54 43 3 9 _ _ _ _ _ _ := ⟨Try.underlying22, Try.underlying56, Try.underlying54, Try.underlying43, Try.underlying3, Try.underlying9, ⟨rfl, rfl⟩, ⟨rfl, rfl⟩, ⟨rfl, rfl⟩, ⟨rfl, rfl⟩, ⟨rfl, rfl⟩, ⟨rfl, rfl⟩, (by kernel_rfl), (by kernel_rfl), (by kernel_rfl), (by kernel_rfl), (by kernel_rfl)⟩
  have k1 := h1
  have lt1 : ∀ x ∈ p1, x.block < W.heap.size := by obtain ⟨m, hm⟩ := k1; exact DataW.trod_lt m _ _ _ hm
  obtain ⟨a1, len1, cap1, rfl⟩ := okWide_slice Try.underlying22 (hval 1 22 v1 rfl rfl)
  obtain ⟨z1, w1⟩ : ∃ zs, BRow W a1 len1 cap1 zs := by
    obtain ⟨fuel, hf⟩ := h1
    obtain ⟨ao, m, c, l, e, hl⟩ := open_binds (v := .slice a1 len1 cap1) bt1 hf
    cases e
    exact ⟨l, hl⟩
  clear hA0 hval0
  refine (exactSameBinds_walk a0 len0 cap0 z0 a1 len1 cap1 z1 W w0 w1).mono fun e W' ⟨he, bel⟩ => ?_
  subst he
  exact ⟨_, rfl, _, _, _, [], _, [], hW', trodAll_mk1 (shut_bool Try.underlying4 _), (trodAll_cons_mk (Below.trod fnExactSameBinds_laid (by kernel_rfl) (of_decide_eq_true (by kernel_rfl)) k0 bel lt0) (trodAll_cons_mk (Below.trod fnExactSameBinds_laid (by kernel_rfl) (of_decide_eq_true (by kernel_rfl)) k1 bel lt1) trodAll_mk0)), rfl, bel.frame _, fun h => by cases h⟩

theorem fnExactSameBinds_holds : Rows.FnExactSameBindsSaid :=
  OpenClaim.holds_of_wide 4 Try.f4 rfl rfl rfl rfl rfl rfl rfl ⟨rfl, rfl, rfl, rfl, rfl⟩ rfl rfl rfl rfl rfl (by kernel_rfl) Try.func4 (by kernel_rfl)
    (of_decide_eq_true (by kernel_rfl)) (by unfold Func.isWrapper; first | (rw [if_pos (by decide +kernel)]; kernel_rfl) | (rw [if_neg (by decide +kernel)]; exact ⟨rfl, rfl⟩))
    (fun os started H enc _ => fnExactSameBinds_lifted os started H enc)

#print axioms fnExactSameBinds_holds

end Go.Proofs.Ytamglfhnhjgdjaa
