/-
  FnFdbsBent answers true at all bytes: of drawn entries, bent or not, what is set, dropped, learned, next, flushed and right is as the specification has it.
-/
import Derived.Test.YtmcikcpkggonfaaDrawFdb
import Derived.Test.YtmcikcpkggonfaaFdbImplL
import Derived.Test.YtmcikcpkggonfaaFdbImplN
import Derived.Test.YtmcikcpkggonfaaFdbImplD
import Derived.Test.YtmcikcpkggonfaaSameFdb
import Derived.Test.YtmcikcpkggonfaaBig
import Derived.Deep.RegionHeld3
import Derived.WalkKit
import Derived.ProofKit
import Derived.OpenShut
import Derived.ShutString
import Derived.ChangeOld
import Derived.Below
namespace Go.Proofs.Ytmcikcpkggonfaa
open Go.RowKit

set_option maxRecDepth 100000 in
set_option maxHeartbeats 8000000 in
theorem fdbsBent_walk (a0 : Option Addr) (l0 c0 : Nat) (z0 : List Int) (w : World) (h0 : Row w a0 l0 c0 z0) :
    Calls Try.prog 6 #[.slice a0 l0 c0] w fun e w' => e = .returned (.bool true) ∧ Below w.heap.size w w' := by
  by_cases g0 : 1048576 < l0
  · have i1 : (1048576 : Int) < l0 := by omega
    go_enter Try.func6, Try.ntmps6
    go_wp2
    go_ret
    exact ⟨rfl, Below.refl _ _⟩
  go_enter Try.func6, Try.ntmps6
  go_wp2_with fail
  refine (big_no _ _ _ _ g0).mono ?_
  rintro e w0 ⟨rfl, rfl⟩
  have q0 := Below.refl w0.heap.size w0
  go_wp2_with fail
  refine (drawLearn_any _ _ _ z0 _ h0 (by omega)).mono ?_
  rintro e w1 ⟨ao1, n1, cap1, l, t, m, p, rfl, hl, hn, hR, o1, hb1⟩
  obtain rfl := hl
  have rl := grow_own (F := fentF) o1
  have HRl := hide hR
  have q1 := gr_trans q0 hb1
  clear hR o1 hb1
  have hsl := set_len l t m p
  have hll := learn_len l t m p
  go_wp2_with fail
  refine (implSet_made _ _ _ l t m p _ rl (by omega) HRl.out).mono ?_
  rintro e w2 ⟨aox, capx, rfl, -, rx, hb2⟩
  have rl := rl.below hb2
  have q2 := gr_trans q1 hb2
  clear hb2
  go_wp2_with fail
  refine (specSet_any _ _ _ l t m p _ rl (by omega)).mono ?_
  rintro e w3 ⟨aoy, capy, rfl, -, ry, hb3⟩
  have rl := rl.below hb3
  have rx := rx.below hb3
  have q3 := gr_trans q2 hb3
  clear hb3
  generalize hX : setF l t m p = X at *
  generalize hok : canSet l t m p = okk at *
  clear hX hok
  go_wp2_with fail
  refine (drawDropStatic_any _ _ _ z0 _ (h0.below q3) (by omega)).mono ?_
  rintro e w4 ⟨ao4, n4, cap4, g, t4, m4, rfl, hl4, hn4, hR4, o4, hb4⟩
  obtain rfl := hl4
  have rg := grow_own (F := fentF) o4
  have HRg := hide hR4
  have rl := rl.below hb4
  have rx := rx.below hb4
  have ry := ry.below hb4
  have q4 := gr_trans q3 hb4
  clear hb4
  clear hR4 o4
  have hgl := drop_len g t4 m4
  go_wp2_with fail
  refine (implDrop_made _ _ _ g t4 m4 _ rg (by omega) HRg.out).mono ?_
  rintro e w5 ⟨aou, capu, rfl, -, ru, hb5⟩
  have rl := rl.below hb5
  have rx := rx.below hb5
  have ry := ry.below hb5
  have rg := rg.below hb5
  have q5 := gr_trans q4 hb5
  clear hb5
  go_wp2_with fail
  refine (specDrop_any _ _ _ g t4 m4 _ rg (by omega)).mono ?_
  rintro e w6 ⟨aow, capw, rfl, -, rw6, hb6⟩
  have rl := rl.below hb6
  have rx := rx.below hb6
  have ry := ry.below hb6
  have rg := rg.below hb6
  have ru := ru.below hb6
  have q6 := gr_trans q5 hb6
  clear hb6
  generalize hU : dropF g t4 m4 = U at *
  generalize hcd : canDrop g t4 m4 = cdd at *
  clear hU hcd
  go_wp2_with fail
  refine (drawNextEnt_any _ _ _ z0 _ (h0.below q6) (by omega)).mono ?_
  rintro e w7 ⟨ao7, n7, cap7, f, t7, m7, rfl, hl7, hn7, hR7, o7, hb7⟩
  obtain rfl := hl7
  have rf := grow_own (F := fentF) o7
  have rl := rl.below hb7
  have rx := rx.below hb7
  have ry := ry.below hb7
  have rg := rg.below hb7
  have ru := ru.below hb7
  have rw6 := rw6.below hb7
  have q7 := gr_trans q6 hb7
  clear hb7
  clear hR7 o7
  go_wp2_with fail
  refine (drawFlushPort_any _ _ _ z0 _ (h0.below q7) (by omega)).mono ?_
  rintro e w8 ⟨ao8, n8, cap8, v, p8, rfl, hl8, hn8, hR8, o8, hb8⟩
  obtain rfl := hl8
  have rv := grow_own (F := fentF) o8
  have HRv := hide hR8
  have rl := rl.below hb8
  have rx := rx.below hb8
  have ry := ry.below hb8
  have rg := rg.below hb8
  have ru := ru.below hb8
  have rw6 := rw6.below hb8
  have rf := rf.below hb8
  have q8 := gr_trans q7 hb8
  clear hb8
  clear hR8 o8
  have hvl := flush_len v p8
  have c1 : (okk == okk) = true := by simp
  have c2 : (cdd == cdd) = true := by simp
  go_wp2_with fail
  refine (sameFdb_same _ _ _ _ _ _ X _ rx ry).mono ?_
  rintro e w9 ⟨rfl, hb9⟩
  have rl := rl.below hb9
  have rx := rx.below hb9
  have ry := ry.below hb9
  have rg := rg.below hb9
  have ru := ru.below hb9
  have rw6 := rw6.below hb9
  have rf := rf.below hb9
  have rv := rv.below hb9
  have q9 := gr_trans q8 hb9
  clear hb9
  go_wp2_with fail
  refine (sameFdb_same _ _ _ _ _ _ U _ ru rw6).mono ?_
  rintro e w10 ⟨rfl, hb10⟩
  have rl := rl.below hb10
  have rx := rx.below hb10
  have ry := ry.below hb10
  have rg := rg.below hb10
  have ru := ru.below hb10
  have rw6 := rw6.below hb10
  have rf := rf.below hb10
  have rv := rv.below hb10
  have q10 := gr_trans q9 hb10
  clear hb10
  go_wp2_with fail
  refine (implLearn_made _ _ _ l t m p _ rl (by omega) HRl.out).mono ?_
  rintro e w11 ⟨ao11, cap11, rfl, -, ra, hb11⟩
  have rl := rl.below hb11
  have rx := rx.below hb11
  have ry := ry.below hb11
  have rg := rg.below hb11
  have ru := ru.below hb11
  have rw6 := rw6.below hb11
  have rf := rf.below hb11
  have rv := rv.below hb11
  have q11 := gr_trans q10 hb11
  clear hb11
  go_wp2_with fail
  refine (specLearn_any _ _ _ l t m p _ rl (by omega)).mono ?_
  rintro e w12 ⟨ao12, cap12, rfl, -, rb, hb12⟩
  have rl := rl.below hb12
  have rx := rx.below hb12
  have ry := ry.below hb12
  have rg := rg.below hb12
  have ru := ru.below hb12
  have rw6 := rw6.below hb12
  have rf := rf.below hb12
  have rv := rv.below hb12
  have ra := ra.below hb12
  have q12 := gr_trans q11 hb12
  clear hb12
  go_wp2_with fail
  refine (sameFdb_same _ _ _ _ _ _ (learnF l t m p) _ ra rb).mono ?_
  rintro e w13 ⟨rfl, hb13⟩
  have rl := rl.below hb13
  have rx := rx.below hb13
  have ry := ry.below hb13
  have rg := rg.below hb13
  have ru := ru.below hb13
  have rw6 := rw6.below hb13
  have rf := rf.below hb13
  have rv := rv.below hb13
  have ra := ra.below hb13
  have rb := rb.below hb13
  have q13 := gr_trans q12 hb13
  clear hb13
  go_wp2_with fail
  refine (implNext_all _ _ _ f t7 m7 _ rf (by omega)).mono ?_
  rintro e w14 ⟨rfl, hb14⟩
  have rl := rl.below hb14
  have rx := rx.below hb14
  have ry := ry.below hb14
  have rg := rg.below hb14
  have ru := ru.below hb14
  have rw6 := rw6.below hb14
  have rf := rf.below hb14
  have rv := rv.below hb14
  have ra := ra.below hb14
  have rb := rb.below hb14
  have q14 := gr_trans q13 hb14
  clear hb14
  go_wp2_with fail
  refine (specNext_all _ _ _ f t7 m7 _ rf (by omega)).mono ?_
  rintro e w15 ⟨rfl, hb15⟩
  have rl := rl.below hb15
  have rx := rx.below hb15
  have ry := ry.below hb15
  have rg := rg.below hb15
  have ru := ru.below hb15
  have rw6 := rw6.below hb15
  have rf := rf.below hb15
  have rv := rv.below hb15
  have ra := ra.below hb15
  have rb := rb.below hb15
  have q15 := gr_trans q14 hb15
  clear hb15
  generalize hnx : nextF f t7 m7 = nx at *
  clear hnx
  have c3 : (nx == nx) = true := by simp
  go_wp2_with fail
  refine (implFlush_rng _ _ _ v p8 _ rv (by omega) HRv.out).mono ?_
  rintro e w16 ⟨ao16, cap16, rfl, -, rc, hb16⟩
  have rl := rl.below hb16
  have rx := rx.below hb16
  have ry := ry.below hb16
  have rg := rg.below hb16
  have ru := ru.below hb16
  have rw6 := rw6.below hb16
  have rf := rf.below hb16
  have rv := rv.below hb16
  have ra := ra.below hb16
  have rb := rb.below hb16
  have q16 := gr_trans q15 hb16
  clear hb16
  go_wp2_with fail
  refine (specFlush_any _ _ _ v p8 _ rv (by omega)).mono ?_
  rintro e w17 ⟨ao17, cap17, rfl, -, rd, hb17⟩
  have rl := rl.below hb17
  have rx := rx.below hb17
  have ry := ry.below hb17
  have rg := rg.below hb17
  have ru := ru.below hb17
  have rw6 := rw6.below hb17
  have rf := rf.below hb17
  have rv := rv.below hb17
  have ra := ra.below hb17
  have rb := rb.below hb17
  have rc := rc.below hb17
  have q17 := gr_trans q16 hb17
  clear hb17
  go_wp2_with fail
  refine (sameFdb_same _ _ _ _ _ _ (flushF v p8) _ rc rd).mono ?_
  rintro e w18 ⟨rfl, hb18⟩
  have rl := rl.below hb18
  have rx := rx.below hb18
  have ry := ry.below hb18
  have rg := rg.below hb18
  have ru := ru.below hb18
  have rw6 := rw6.below hb18
  have rf := rf.below hb18
  have rv := rv.below hb18
  have ra := ra.below hb18
  have rb := rb.below hb18
  have rc := rc.below hb18
  have rd := rd.below hb18
  have q18 := gr_trans q17 hb18
  clear hb18
  go_wp2_with fail
  refine (implFdbOk_all _ _ _ l _ rl (by omega)).mono ?_
  rintro e w19 ⟨rfl, hb19⟩
  have rl := rl.below hb19
  have rx := rx.below hb19
  have ry := ry.below hb19
  have rg := rg.below hb19
  have ru := ru.below hb19
  have rw6 := rw6.below hb19
  have rf := rf.below hb19
  have rv := rv.below hb19
  have ra := ra.below hb19
  have rb := rb.below hb19
  have rc := rc.below hb19
  have rd := rd.below hb19
  have q19 := gr_trans q18 hb19
  clear hb19
  go_wp2_with fail
  refine (specFdbOk_all _ _ _ l _ rl (by omega)).mono ?_
  rintro e w20 ⟨rfl, hb20⟩
  have rl := rl.below hb20
  have rx := rx.below hb20
  have ry := ry.below hb20
  have rg := rg.below hb20
  have ru := ru.below hb20
  have rw6 := rw6.below hb20
  have rf := rf.below hb20
  have rv := rv.below hb20
  have ra := ra.below hb20
  have rb := rb.below hb20
  have rc := rc.below hb20
  have rd := rd.below hb20
  have q20 := gr_trans q19 hb20
  clear hb20
  generalize hfo : fdbOk l = fo at *
  clear hfo
  have c4 : (fo == fo) = true := by simp
  have HB := hide q20
  clear q0 q1 q2 q3 q4 q5 q6 q7 q8 q9 q10 q11 q12 q13 q14 q15 q16 q17 q18 q19 q20 rl rx ry rg ru rw6 rf rv ra rb rc rd
  go_wp2
  go_ret
  exact ⟨rfl, HB.out⟩

theorem fnFdbsBent_own : ownKnob Try.prog.godebug = none := by kernel_rfl
theorem fnFdbsBent_laid : laidOutB Try.prog = true := by kernel_rfl

open Go.ChangeShapes Go.WideShapes Go.ChangeAt in
open Go.ChangeMaps (open_string shut_string) in
set_option maxRecDepth 100000 in
theorem fnFdbsBent_lifted (os : Os) (started : os.Started) (H : Type) (enc : TypeId × Value → H) :
    ReturnsInHanded {} Try.checked os 6 .any (Rows.fnFdbsBentSpec.pre6 enc Try.prog Try.f6 Rows.fnFdbsBentRow.domain false) (Rows.fnFdbsBentSpec.post enc Try.prog Try.f6 false true false false) := by
  refine returnsInHanded_of_change (C := Try.checked) fnFdbsBent_own started (by kernel_rfl) Try.func6
    (ChangeSpec.witness6 (enc := enc) (C := Try.checked) false ⟨#[], #[.slice none 0 0], []⟩ 8 (by kernel_rfl) (by kernel_rfl) (by kernel_rfl) (by kernel_rfl)) ?_
  intro W base args ds gs before hval0 hW hcnd _
  have hval : ∀ (j : Nat) t v, Try.f6.params[j]? = some t → args[j]? = some v → Value.okWide Try.prog W .any base t v := hval0
  have hW' := hW
  obtain ⟨p, q, hA0, hV, rfl, hfz, hnd⟩ := hW
  have hA : DataW.TrodAll enc Try.prog W 0 (fun _ => true) true Try.f6.params.toList args.toList ds p := hA0
  rw [Try.params6] at hA hval
  obtain ⟨v0, vs0, d0, ds0, p0, q0, hargs, rfl, rfl, h0, r0⟩ := trodAll_cons hA
  obtain ⟨rfl, rfl, rfl⟩ := trodAll_nil r0
  obtain rfl : args = #[v0] := by cases args; simp_all
  obtain ⟨rfl, rfl⟩ := trodVars_none hV
  obtain ⟨a0, len0, cap0, rfl⟩ := okWide_slice Try.underlying22 (hval 0 22 v0 rfl rfl)
  have k0 := h0
  have lt0 : ∀ x ∈ p0, x.block < W.heap.size := by obtain ⟨m, hm⟩ := k0; exact DataW.trod_lt m _ _ _ hm
  obtain ⟨z0, w0⟩ : ∃ zs, Row W a0 len0 cap0 zs := by
    obtain ⟨fuel, hf⟩ := h0
    rcases open_ints Try.underlying22 Try.underlying5 (by kernel_rfl) hf with ⟨hcs, _⟩ | ⟨x, l, c, zs, hcs, _, hl, hm, hz, _, hcell, hwz⟩
    · simp [Value.cells] at hcs
      obtain ⟨rfl, rfl, rfl⟩ := hcs
      exact ⟨[], row_nil W⟩
    · simp [Value.cells] at hcs
      obtain ⟨rfl, rfl, rfl⟩ := hcs
      exact ⟨zs.take len0, row_open hl hm (by simpa using hz) hcell hwz⟩
  clear hA0 hval0
  refine (fdbsBent_walk a0 len0 cap0 z0 W w0).mono fun e W' ⟨he, bel⟩ => ?_
  subst he
  exact ⟨_, rfl, _, _, _, [], _, [], hW', trodAll_mk1 (shut_bool Try.underlying4 _), (trodAll_cons_mk (Below.trod fnFdbsBent_laid (by kernel_rfl) (of_decide_eq_true (by kernel_rfl)) k0 bel lt0) trodAll_mk0), rfl, bel.frame _, fun h => by cases h⟩

theorem fnFdbsBent_holds : Rows.FnFdbsBentSaid :=
  OpenClaim.holds_of_wide 6 Try.f6 rfl rfl rfl rfl rfl rfl rfl ⟨rfl, rfl, rfl, rfl, rfl⟩ rfl rfl rfl rfl rfl (by kernel_rfl) Try.func6 (by kernel_rfl)
    (of_decide_eq_true (by kernel_rfl)) (by unfold Func.isWrapper; first | (rw [if_pos (by decide +kernel)]; kernel_rfl) | (rw [if_neg (by decide +kernel)]; exact ⟨rfl, rfl⟩))
    (fun os started H enc _ => fnFdbsBent_lifted os started H enc)

#print axioms fnFdbsBent_holds

end Go.Proofs.Ytmcikcpkggonfaa
