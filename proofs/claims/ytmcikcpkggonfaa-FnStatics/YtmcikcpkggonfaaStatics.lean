/-
  FnStatics answers true at all bytes: of drawn entries, one that is set is there, static, and stays at its port when it is heard elsewhere; dropped it is gone; what is told next is behind; where there is no room nothing changes.
-/
import Derived.Test.YtmcikcpkggonfaaDrawFdb
import Derived.Test.YtmcikcpkggonfaaFdbImplL
import Derived.Test.YtmcikcpkggonfaaFdbImplN
import Derived.Test.YtmcikcpkggonfaaFdbImplD
import Derived.Test.YtmcikcpkggonfaaSameFdb
import Derived.Test.YtmcikcpkggonfaaBig
import Derived.Deep.RegionHeld3
import Derived.WalkKit
import Derived.ProofKit
import Derived.OpenShut
import Derived.ShutString
import Derived.ChangeOld
import Derived.Below
namespace Go.Proofs.Ytmcikcpkggonfaa
open Go.RowKit

theorem next_cases (l : List FE) (t m : Int) : (∃ (i : Nat) (e : FE), nextF l t m = i ∧ i < l.length ∧ l[i]? = some e ∧ ¬ e.t < t ∧ ¬ (e.t = t ∧ e.m ≤ m)) ∨ nextF l t m = -1 := by
  unfold nextF
  cases hf : l.findIdx? (fun e => !ahead e t m && !both e t m) with
  | none => exact .inr rfl
  | some i =>
    obtain ⟨e, he, hn⟩ := next_says hf
    exact .inl ⟨i, e, rfl, (List.getElem?_eq_some_iff.1 he).1, he, fun h => hn (.inl h), fun h => hn (.inr h)⟩

set_option maxRecDepth 100000 in
set_option maxHeartbeats 8000000 in
theorem statics_walk (a0 : Option Addr) (l0 c0 : Nat) (z0 : List Int) (w : World) (h0 : Row w a0 l0 c0 z0) :
    Calls Try.prog 5 #[.slice a0 l0 c0] w fun e w' => e = .returned (.bool true) ∧ Below w.heap.size w w' := by
  by_cases g0 : 1048576 < l0
  · have i1 : (1048576 : Int) < l0 := by omega
    go_enter Try.func5, Try.ntmps5
    go_wp2
    go_ret
    exact ⟨rfl, Below.refl _ _⟩
  go_enter Try.func5, Try.ntmps5
  go_wp2_with fail
  refine (big_no _ _ _ _ g0).mono ?_
  rintro e w0 ⟨rfl, rfl⟩
  go_wp2_with fail
  refine (drawFdb_any _ _ _ z0 _ h0 (by omega)).mono ?_
  rintro e w1 ⟨ao, n, cap, l, t, m, p, rfl, hl, hok, o1, ht, hm, hp, hb1⟩
  obtain rfl := hl
  have r1 := grow_own (F := fentF) o1
  have h12 := ok_len hok
  have HOK := hide hok
  have HR := hide (ok_rng hok)
  have hent : entOk ⟨t, m, p, 0, true⟩ = true := (entOk_iff _).2 ⟨by simp only; omega, by simp only; omega, by simp only; omega, by simp only; omega, by simp⟩
  cases hcs : canSet l t m p
  · obtain ⟨hsx, hfull⟩ := set_no hok hent hcs
    have HSX := hide hsx
    have HCS := hide hcs
    have c4 : ((l.length : Int) == 12) = true := by rw [hfull]; rfl
    clear hok hent o1 hsx hcs hfull
    go_wp2_with fail
    refine (implSet_made _ _ _ l t m p _ r1 (by omega) HR.out).mono ?_
    rintro e w2 ⟨ao2, cap2, rfl, -, r2, hb2⟩
    rw [HSX.out] at r2 ⊢
    rw [HCS.out]
    go_wp2_with fail
    refine (sameFdb_same _ _ _ _ _ _ l _ r2 (r1.below hb2)).mono ?_
    rintro e w3 ⟨rfl, hb3⟩
    have HB := hide (gr_trans hb1 (gr_trans hb2 hb3))
    clear hb1 hb2 hb3
    go_wp2
    go_ret
    exact ⟨rfl, HB.out⟩
  · obtain ⟨hlk, hst, hcd, hsrt⟩ := set_says hcs
    have hsok := set_ok hok t m p
    have HCS := hide hcs
    have hlx := set_len l t m p
    have h12x := ok_len hsok
    clear hok hent o1 hcs
    go_wp2_with fail
    refine (implSet_made _ _ _ l t m p _ r1 (by omega) HR.out).mono ?_
    rintro e w2 ⟨ao2, cap2, rfl, -, r2, hb2⟩
    rw [HCS.out]
    generalize hX : setF l t m p = X at *
    clear hX
    have HXR := hide (ok_rng hsok)
    have HXO := hide hsok
    have HLK := hide hlk
    have HCD := hide hcd
    obtain ⟨hg1, hg2⟩ := drop_gone hsrt hcd
    have HG1 := hide (lookUp_no hg1)
    have HZO := hide (drop_ok hsok t m)
    have HG2 := hide hg2
    have h12z := ok_len (drop_ok hsok t m)
    have HST := hide (learn_static (p := (p + 1) % 4) hst)
    have hw1 : IntKind.i64.wrap (p + 1) = p + 1 := wrap_at _ (by omega)
    clear hlk hst hcd hsrt hsok hg1 hg2
    go_wp2_with fail
    refine (implLearn_made _ _ _ X t m ((p + 1) % 4) _ r2 (by omega) HXR.out).mono ?_
    rintro e w3 ⟨ao3, cap3, rfl, -, r3, hb3⟩
    rw [HST.out] at r3 ⊢
    go_wp2_with fail
    refine (implDrop_made _ _ _ X t m _ r3 (by omega) HXR.out).mono ?_
    rintro e w4 ⟨ao4, cap4, rfl, -, r4, hb4⟩
    rw [HCD.out]
    generalize hZ : dropF X t m = Z at *
    clear hZ
    go_wp2_with fail
    refine (implNext_all _ _ _ X t m _ (r3.below hb4) (by omega)).mono ?_
    rintro e w5 ⟨rfl, hb5⟩
    have q5 := gr_trans hb1 (gr_trans hb2 (gr_trans hb3 (gr_trans hb4 hb5)))
    have r2 := r2.below (gr_trans hb3 (gr_trans hb4 hb5))
    have r3 := r3.below (gr_trans hb4 hb5)
    have r4 := r4.below hb5
    clear hb1 hb2 hb3 hb4 hb5
    rcases next_cases X t m with ⟨i, x, hnx, hi, hx, hn1, hn2⟩ | hnx
    · obtain ⟨x', b, off, hx', rfl, a0', a1, -⟩ := fent_at r3 i hi
      rw [hx] at hx'
      cases hx'
      have i1 : (0 : Int) ≤ (i : Int) := by omega
      have i2 : (i : Int) < (X.length : Int) := by omega
      have i3 : (i : Int) ≥ 0 := by omega
      rw [hnx]
      clear hnx hx
      cases t1 : (x.t == t)
      · clear hn2
        go_wp2_with fail
        refine (implLookUp_all _ _ _ X t m _ r3 (by omega)).mono ?_
        rintro e w6 ⟨rfl, hb6⟩
        rw [HLK.out]
        have c6 : (p == p) = true := by simp
        go_wp2_with fail
        refine (implLookUp_all _ _ _ Z t m _ (r4.below hb6) (by omega)).mono ?_
        rintro e w7 ⟨rfl, hb7⟩
        rw [HG1.out]
        go_wp2_with fail
        refine (implFdbOk_all _ _ _ X _ (r2.below (gr_trans hb6 hb7)) (by omega)).mono ?_
        rintro e w8 ⟨rfl, hb8⟩
        rw [HXO.out]
        go_wp2_with fail
        refine (implFdbOk_all _ _ _ Z _ (r4.below (gr_trans hb6 (gr_trans hb7 hb8))) (by omega)).mono ?_
        rintro e w9 ⟨rfl, hb9⟩
        rw [HZO.out]
        have HB := hide (gr_trans q5 (gr_trans hb6 (gr_trans hb7 (gr_trans hb8 hb9))))
        have hzl : ((Z.length : Int) + 1 == (X.length : Int)) = true := by have := HG2.out; simp; omega
        have hwz : IntKind.i64.wrap ((Z.length : Int) + 1) = (Z.length : Int) + 1 := wrap_at _ (by omega)
        clear hb6 hb7 hb8 hb9
        go_wp2
        go_ret
        exact ⟨rfl, HB.out⟩
      · have hmm : ¬ x.m ≤ m := fun h => hn2 ⟨by simpa using t1, h⟩
        clear hn2
        go_wp2_with fail
        refine (implLookUp_all _ _ _ X t m _ r3 (by omega)).mono ?_
        rintro e w6 ⟨rfl, hb6⟩
        rw [HLK.out]
        have c6 : (p == p) = true := by simp
        go_wp2_with fail
        refine (implLookUp_all _ _ _ Z t m _ (r4.below hb6) (by omega)).mono ?_
        rintro e w7 ⟨rfl, hb7⟩
        rw [HG1.out]
        go_wp2_with fail
        refine (implFdbOk_all _ _ _ X _ (r2.below (gr_trans hb6 hb7)) (by omega)).mono ?_
        rintro e w8 ⟨rfl, hb8⟩
        rw [HXO.out]
        go_wp2_with fail
        refine (implFdbOk_all _ _ _ Z _ (r4.below (gr_trans hb6 (gr_trans hb7 hb8))) (by omega)).mono ?_
        rintro e w9 ⟨rfl, hb9⟩
        rw [HZO.out]
        have HB := hide (gr_trans q5 (gr_trans hb6 (gr_trans hb7 (gr_trans hb8 hb9))))
        have hzl : ((Z.length : Int) + 1 == (X.length : Int)) = true := by have := HG2.out; simp; omega
        have hwz : IntKind.i64.wrap ((Z.length : Int) + 1) = (Z.length : Int) + 1 := wrap_at _ (by omega)
        clear hb6 hb7 hb8 hb9
        go_wp2
        go_ret
        exact ⟨rfl, HB.out⟩
    · rw [hnx]
      clear hnx
      go_wp2_with fail
      refine (implLookUp_all _ _ _ X t m _ r3 (by omega)).mono ?_
      rintro e w6 ⟨rfl, hb6⟩
      rw [HLK.out]
      have c6 : (p == p) = true := by simp
      go_wp2_with fail
      refine (implLookUp_all _ _ _ Z t m _ (r4.below hb6) (by omega)).mono ?_
      rintro e w7 ⟨rfl, hb7⟩
      rw [HG1.out]
      go_wp2_with fail
      refine (implFdbOk_all _ _ _ X _ (r2.below (gr_trans hb6 hb7)) (by omega)).mono ?_
      rintro e w8 ⟨rfl, hb8⟩
      rw [HXO.out]
      go_wp2_with fail
      refine (implFdbOk_all _ _ _ Z _ (r4.below (gr_trans hb6 (gr_trans hb7 hb8))) (by omega)).mono ?_
      rintro e w9 ⟨rfl, hb9⟩
      rw [HZO.out]
      have HB := hide (gr_trans q5 (gr_trans hb6 (gr_trans hb7 (gr_trans hb8 hb9))))
      have hzl : ((Z.length : Int) + 1 == (X.length : Int)) = true := by have := HG2.out; simp; omega
      have hwz : IntKind.i64.wrap ((Z.length : Int) + 1) = (Z.length : Int) + 1 := wrap_at _ (by omega)
      clear hb6 hb7 hb8 hb9
      go_wp2
      go_ret
      exact ⟨rfl, HB.out⟩

theorem fnStatics_own : ownKnob Try.prog.godebug = none := by kernel_rfl
theorem fnStatics_laid : laidOutB Try.prog = true := by kernel_rfl

open Go.ChangeShapes Go.WideShapes Go.ChangeAt in
open Go.ChangeMaps (open_string shut_string) in
set_option maxRecDepth 100000 in
theorem fnStatics_lifted (os : Os) (started : os.Started) (H : Type) (enc : TypeId × Value → H) :
    ReturnsInHanded {} Try.checked os 5 .any (Rows.fnStaticsSpec.pre6 enc Try.prog Try.f5 Rows.fnStaticsRow.domain false) (Rows.fnStaticsSpec.post enc Try.prog Try.f5 false true false false) := by
  refine returnsInHanded_of_change (C := Try.checked) fnStatics_own started (by kernel_rfl) Try.func5
    (ChangeSpec.witness6 (enc := enc) (C := Try.checked) false ⟨#[], #[.slice none 0 0], []⟩ 8 (by kernel_rfl) (by kernel_rfl) (by kernel_rfl) (by kernel_rfl)) ?_
  intro W base args ds gs before hval0 hW hcnd _
  have hval : ∀ (j : Nat) t v, Try.f5.params[j]? = some t → args[j]? = some v → Value.okWide Try.prog W .any base t v := hval0
  have hW' := hW
  obtain ⟨p, q, hA0, hV, rfl, hfz, hnd⟩ := hW
  have hA : DataW.TrodAll enc Try.prog W 0 (fun _ => true) true Try.f5.params.toList args.toList ds p := hA0
  rw [Try.params5] at hA hval
  obtain ⟨v0, vs0, d0, ds0, p0, q0, hargs, rfl, rfl, h0, r0⟩ := trodAll_cons hA
  obtain ⟨rfl, rfl, rfl⟩ := trodAll_nil r0
  obtain rfl : args = #[v0] := by cases args; simp_all
  obtain ⟨rfl, rfl⟩ := trodVars_none hV
  obtain ⟨a0, len0, cap0, rfl⟩ := okWide_slice Try.underlying22 (hval 0 22 v0 rfl rfl)
  have k0 := h0
  have lt0 : ∀ x ∈ p0, x.block < W.heap.size := by obtain ⟨m, hm⟩ := k0; exact DataW.trod_lt m _ _ _ hm
  obtain ⟨z0, w0⟩ : ∃ zs, Row W a0 len0 cap0 zs := by
    obtain ⟨fuel, hf⟩ := h0
    rcases open_ints Try.underlying22 Try.underlying5 (by kernel_rfl) hf with ⟨hcs, _⟩ | ⟨x, l, c, zs, hcs, _, hl, hm, hz, _, hcell, hwz⟩
    · simp [Value.cells] at hcs
      obtain ⟨rfl, rfl, rfl⟩ := hcs
      exact ⟨[], row_nil W⟩
    · simp [Value.cells] at hcs
      obtain ⟨rfl, rfl, rfl⟩ := hcs
      exact ⟨zs.take len0, row_open hl hm (by simpa using hz) hcell hwz⟩
  clear hA0 hval0
  refine (statics_walk a0 len0 cap0 z0 W w0).mono fun e W' ⟨he, bel⟩ => ?_
  subst he
  exact ⟨_, rfl, _, _, _, [], _, [], hW', trodAll_mk1 (shut_bool Try.underlying4 _), (trodAll_cons_mk (Below.trod fnStatics_laid (by kernel_rfl) (of_decide_eq_true (by kernel_rfl)) k0 bel lt0) trodAll_mk0), rfl, bel.frame _, fun h => by cases h⟩

theorem fnStatics_holds : Rows.FnStaticsSaid :=
  OpenClaim.holds_of_wide 5 Try.f5 rfl rfl rfl rfl rfl rfl rfl ⟨rfl, rfl, rfl, rfl, rfl⟩ rfl rfl rfl rfl rfl (by kernel_rfl) Try.func5 (by kernel_rfl)
    (of_decide_eq_true (by kernel_rfl)) (by unfold Func.isWrapper; first | (rw [if_pos (by decide +kernel)]; kernel_rfl) | (rw [if_neg (by decide +kernel)]; exact ⟨rfl, rfl⟩))
    (fun os started H enc _ => fnStatics_lifted os started H enc)

#print axioms fnStatics_holds

end Go.Proofs.Ytmcikcpkggonfaa
