/-
  FnExactPutTlv answers true at all arguments: PutTlv answers as the specification; it writes into no argument and keeps nothing of one; its answer owns its memory, behind another call too.
-/
import Derived.Test.YtjpfoofijjgpcaaTlv
import Derived.Test.YtjpfoofijjgpcaaCopy
import Derived.WalkKit
import Derived.ProofKit
import Derived.OpenShut
import Derived.ShutString
import Derived.ChangeOld
import Derived.Below
namespace Go.Proofs.Ytjpfoofijjgpcaa
open Go.RowKit

set_option maxHeartbeats 1000000 in
theorem exactPutTlv_walk (a0 : Option Addr) (l0 c0 : Nat) (z0 : List Int) (tag : Int) (a2 : Option Addr) (l2 c2 : Nat) (z2 : List Int) (w : World) (h0 : Row w a0 l0 c0 z0) (_h1 : (Lit.int .i64 tag).wf = true) (h2 : Row w a2 l2 c2 z2) :
    Calls Try.prog 6 #[.slice a0 l0 c0, .int .i64 tag, .slice a2 l2 c2] w fun e w' => e = .returned (.bool true) ∧ Below w.heap.size w w' := by
  by_cases g0 : 1048576 < l0
  · go_enter Try.func6, Try.ntmps6
    go_wp2
    go_ret
    exact ⟨rfl, Below.refl _ _⟩
  by_cases g2 : 1048576 < l2
  · go_enter Try.func6, Try.ntmps6
    go_wp2
    go_ret
    exact ⟨rfl, Below.refl _ _⟩
  have s0 := h0.size
  have s2 := h2.size
  have hlen : (putTlv z0 tag z2).length ≤ 3000000 := by have := putTlv_length z0 tag z2; omega
  generalize hP : putTlv z0 tag z2 = P at hlen
  have HP : Hid (putTlv z0 tag z2 = P) := hP
  clear hP
  go_enter Try.func6, Try.ntmps6
  go_wp2_with fail
  refine (copy_made _ _ _ z0 _ h0 (by omega)).mono ?_
  rintro e w1 ⟨ao1, cp1, rfl, -, r1, hb1⟩
  go_wp2_with fail
  refine (copy_made _ _ _ z2 _ (h2.below hb1) (by omega)).mono ?_
  rintro e w2 ⟨ao2, cp2, rfl, -, r2, hb2⟩
  go_wp2_with fail
  refine (specTlv_made _ _ _ z0 tag _ _ _ z2 P HP.out _ (r1.below hb2) r2 (by omega)).mono ?_
  rintro e w3 ⟨ao3, cp3, rfl, -, r3, hb3⟩
  have q3 : Below w.heap.size w w3 := (hb1.trans (hb2.mono hb1.size)).trans (hb3.mono (Nat.le_trans hb1.size hb2.size))
  clear hb1 hb2 hb3 r1 r2
  have n3 := q3.size
  go_wp2_with fail
  refine (copy_made _ _ _ z0 _ (h0.below q3) (by omega)).mono ?_
  rintro e w4 ⟨ao4, cp4, rfl, ho4, r4, hb4⟩
  have n4 := hb4.size
  go_wp2_with fail
  have q4 : Below w.heap.size w w4 := q3.trans (hb4.mono n3)
  refine (copy_made _ _ _ z2 _ (h2.below q4) (by omega)).mono ?_
  rintro e w5 ⟨ao5, cp5, rfl, ho5, r5, hb5⟩
  have n5 := hb5.size
  go_wp2_with fail
  refine (implTlv_made _ _ _ z0 tag _ _ _ z2 P HP.out _ (r4.below hb5) r5 (by omega)).mono ?_
  rintro e w6 ⟨ao6, cp6, rfl, ho6, r6, hb6⟩
  have n6 := hb6.size
  -- what has turned since the specification's answer; since the two copies
  have p6 : Below w3.heap.size w3 w6 := (hb4.trans (hb5.mono n4)).trans (hb6.mono (Nat.le_trans n4 n5))
  have e6 : Below w4.heap.size w4 w6 := hb5.trans (hb6.mono n5)
  go_wp2_with fail
  refine (eq_same _ _ _ _ _ _ P _ r6 (r3.below p6)).mono ?_
  rintro e w7 ⟨rfl, n7, rfl⟩
  have d7 : Below w6.heap.size w6 (w6.drewN n7) := below_drewN (Below.refl _ _) n7
  have q7 : Below w.heap.size w (w6.drewN n7) := (q3.trans (p6.mono n3)).trans (d7.mono (by omega))
  go_wp2_with fail
  refine (copy_made _ _ _ z0 _ (h0.below q7) (by omega)).mono ?_
  rintro e w8 ⟨ao8, cp8, rfl, -, r8, hb8⟩
  have d8 : Below w6.heap.size w6 w8 := d7.trans hb8
  go_wp2_with fail
  refine (eq_same _ _ _ _ _ _ z0 _ ((r4.below e6).below d8) r8).mono ?_
  rintro e w9 ⟨rfl, n9, rfl⟩
  have d9 : Below w6.heap.size w6 (w8.drewN n9) := below_drewN d8 n9
  have q9 : Below w.heap.size w (w8.drewN n9) := (q3.trans (p6.mono n3)).trans (d9.mono (by omega))
  clear d7 d8 hb8 r8 q7
  go_wp2_with fail
  refine (copy_made _ _ _ z2 _ (h2.below q9) (by omega)).mono ?_
  rintro e w10 ⟨ao10, cp10, rfl, -, r10, hb10⟩
  have d10 : Below w6.heap.size w6 w10 := d9.trans (hb10.mono d9.size)
  go_wp2_with fail
  refine (eq_same _ _ _ _ _ _ z2 _ ((r5.below hb6).below d10) r10).mono ?_
  rintro e w11 ⟨rfl, n11, rfl⟩
  have d11 : Below w6.heap.size w6 (w10.drewN n11) := below_drewN d10 n11
  have n11' := d11.size
  clear d9 d10 hb10 r10 q9
  generalize w10.drewN n11 = w11 at *
  -- the marks
  have o4 : w11.ownsRow w3.heap.size 5 1 (.slice ao4 l0 cp4) l0 (cB z0) := own_below ho4 (e6.trans (d11.mono (by omega)))
  have o5 : w11.ownsRow w4.heap.size 5 1 (.slice ao5 l2 cp5) l2 (cB z2) := own_below (own_below ho5 hb6) d11
  have o6 : w11.ownsRow w5.heap.size 5 1 (.slice ao6 P.length cp6) P.length (cB P) := own_below ho6 d11
  have b4 := ho4.lt
  have b5 := ho5.lt
  have p11 : Below w3.heap.size w3 w11 := p6.trans (d11.mono (by omega))
  have f11 : Below w.heap.size w w11 := q3.trans (p11.mono n3)
  clear d11 e6 p6 ho4 ho5 ho6 r4 r5 r6 hb4 hb5 hb6 q4
  go_wp2_with fail
  refine (mark_grown _ _ _ _ z0 _ _ o4 (by omega) (by omega) (by omega)).mono ?_
  rintro e w12 ⟨rfl, o12, g12⟩
  have o5 := own_above o5 g12 (fun k hk => (b4 k hk).2)
  have o6 := own_above o6 g12 (fun k hk => Nat.lt_of_lt_of_le (b4 k hk).2 n5)
  have p12 := p11.grown g12 p11.size (fun k hk => (b4 k hk).1)
  clear o12 o4 p11
  go_wp2_with fail
  refine (mark_grown _ _ _ _ z2 _ _ o5 (by omega) (by omega) (by omega)).mono ?_
  rintro e w13 ⟨rfl, o13, g13⟩
  have o6 := own_above o6 g13 (fun k hk => (b5 k hk).2)
  have p13 := p12.grown g13 p12.size (fun k hk => Nat.le_trans n4 (b5 k hk).1)
  clear o13 o5 p12 g12 g13
  have r6 := row_own o6 r3.byte
  go_wp2_with fail
  refine (eq_same _ _ _ _ _ _ P _ r6 (r3.below p13)).mono ?_
  rintro e w14 ⟨rfl, n14, rfl⟩
  have d14 : Below w13.heap.size w13 (w13.drewN n14) := below_drewN (Below.refl _ _) n14
  have p14 : Below w3.heap.size w3 (w13.drewN n14) := below_drewN p13 n14
  have o6 := own_below o6 d14
  have n14' := p14.size
  clear d14 p13 r6 n6 n11'
  generalize w13.drewN n14 = w14 at *
  go_wp2_with fail
  refine (mark_grown _ _ _ _ P _ _ o6 (by omega) (by omega) (by omega)).mono ?_
  rintro e w15 ⟨rfl, o15, g15⟩
  have p15 := p14.grown g15 p14.size (fun k hk => Nat.le_trans (Nat.le_trans n4 n5) (o6.lt k hk).1)
  have r15 := row_own o15 (marks_byte _ _)
  clear g15 o6 p14 o15
  have f15 : Below w.heap.size w w15 := q3.trans (p15.mono n3)
  go_wp2_with fail
  refine (held_any _ _ _ _ _ r15 (by omega) (by omega) (by omega)).mono ?_
  rintro e w16 ⟨rfl, rfl⟩
  go_wp2_with fail
  refine (copy_made _ _ _ z0 _ (h0.below f15) (by omega)).mono ?_
  rintro e w17 ⟨ao17, cp17, rfl, -, r17, hb17⟩
  have f17 := f15.trans (hb17.mono f15.size)
  go_wp2_with fail
  refine (copy_made _ _ _ z2 _ (h2.below f17) (by omega)).mono ?_
  rintro e w18 ⟨ao18, cp18, rfl, -, r18, hb18⟩
  go_wp2_with fail
  refine (implTlv_made _ _ _ z0 tag _ _ _ z2 P HP.out _ (r17.below hb18) r18 (by omega)).mono ?_
  rintro e w19 ⟨ao19, cp19, rfl, -, r19, hb19⟩
  have t19 : Below w16.heap.size w16 w19 := (hb17.trans (hb18.mono hb17.size)).trans (hb19.mono (Nat.le_trans hb17.size hb18.size))
  clear hb17 hb18 hb19 r17 r18 f17
  have p19 : Below w3.heap.size w3 w19 := p15.trans (t19.mono p15.size)
  go_wp2_with fail
  refine (eq_same _ _ _ _ _ _ P _ r19 (r3.below p19)).mono ?_
  rintro e w20 ⟨rfl, n20, rfl⟩
  go_wp2_with fail
  refine (held_any _ _ _ _ _ ((r15.below t19).below (below_drewN (Below.refl _ _) n20)) (by omega) (by omega) (by omega)).mono ?_
  rintro e w21 ⟨rfl, rfl⟩
  go_wp2
  go_ret
  exact ⟨rfl, below_drewN (f15.trans (t19.mono f15.size)) n20⟩

theorem fnExactPutTlv_own : ownKnob Try.prog.godebug = none := by kernel_rfl
theorem fnExactPutTlv_laid : laidOutB Try.prog = true := by kernel_rfl

open Go.ChangeShapes Go.WideShapes Go.ChangeAt in
open Go.ChangeMaps (open_string shut_string) in
set_option maxRecDepth 100000 in
theorem fnExactPutTlv_lifted (os : Os) (started : os.Started) (H : Type) (enc : TypeId × Value → H) :
    ReturnsInHanded {} Try.checked os 6 .any (Rows.fnExactPutTlvSpec.pre6 enc Try.prog Try.f6 Rows.fnExactPutTlvRow.domain false) (Rows.fnExactPutTlvSpec.post enc Try.prog Try.f6 false true false false) := by
  refine returnsInHanded_of_change (C := Try.checked) fnExactPutTlv_own started (by kernel_rfl) Try.func6
    (ChangeSpec.witness6 (enc := enc) (C := Try.checked) false ⟨#[], #[.slice none 0 0, .int .i64 0, .slice none 0 0], []⟩ 8 (by kernel_rfl) (by kernel_rfl) (by kernel_rfl) (by kernel_rfl)) ?_
  intro W base args ds gs before hval0 hW hcnd _
  have hval : ∀ (j : Nat) t v, Try.f6.params[j]? = some t → args[j]? = some v → Value.okWide Try.prog W .any base t v := hval0
  have hW' := hW
  obtain ⟨p, q, hA0, hV, rfl, hfz, hnd⟩ := hW
  have hA : DataW.TrodAll enc Try.prog W 0 (fun _ => true) true Try.f6.params.toList args.toList ds p := hA0
  rw [Try.params6] at hA hval
  obtain ⟨v0, vs0, d0, ds0, p0, q0, hargs, rfl, rfl, h0, r0⟩ := trodAll_cons hA
  obtain ⟨v1, vs1, d1, ds1, p1, q1, rfl, rfl, rfl, h1, r1⟩ := trodAll_cons r0
  obtain ⟨v2, vs2, d2, ds2, p2, q2, rfl, rfl, rfl, h2, r2⟩ := trodAll_cons r1
  obtain ⟨rfl, rfl, rfl⟩ := trodAll_nil r2
  obtain rfl : args = #[v0, v1, v2] := by cases args; simp_all
  obtain ⟨rfl, rfl⟩ := trodVars_none hV
  obtain ⟨a0, len0, cap0, rfl⟩ := okWide_slice Try.underlying22 (hval 0 22 v0 rfl rfl)
  have k0 := h0
  have lt0 : ∀ x ∈ p0, x.block < W.heap.size := by obtain ⟨m, hm⟩ := k0; exact DataW.trod_lt m _ _ _ hm
  obtain ⟨z0, w0⟩ : ∃ zs, Row W a0 len0 cap0 zs := by
    obtain ⟨fuel, hf⟩ := h0
    rcases open_ints Try.underlying22 Try.underlying5 (by kernel_rfl) hf with ⟨hcs, _⟩ | ⟨x, l, c, zs, hcs, _, hl, hm, hz, _, hcell, hwz⟩
    · simp [Value.cells] at hcs
      obtain ⟨rfl, rfl, rfl⟩ := hcs
      exact ⟨[], row_nil W⟩
    · simp [Value.cells] at hcs
      obtain ⟨rfl, rfl, rfl⟩ := hcs
      exact ⟨zs.take len0, row_open hl hm (by simpa using hz) hcell hwz⟩
  obtain ⟨a1, rfl, rfl, rfl, w1⟩ := open_int Try.underlying3 (hval 1 3 v1 rfl rfl) h1
  obtain ⟨a2, len2, cap2, rfl⟩ := okWide_slice Try.underlying22 (hval 2 22 v2 rfl rfl)
  have k2 := h2
  have lt2 : ∀ x ∈ p2, x.block < W.heap.size := by obtain ⟨m, hm⟩ := k2; exact DataW.trod_lt m _ _ _ hm
  obtain ⟨z2, w2⟩ : ∃ zs, Row W a2 len2 cap2 zs := by
    obtain ⟨fuel, hf⟩ := h2
    rcases open_ints Try.underlying22 Try.underlying5 (by kernel_rfl) hf with ⟨hcs, _⟩ | ⟨x, l, c, zs, hcs, _, hl, hm, hz, _, hcell, hwz⟩
    · simp [Value.cells] at hcs
      obtain ⟨rfl, rfl, rfl⟩ := hcs
      exact ⟨[], row_nil W⟩
    · simp [Value.cells] at hcs
      obtain ⟨rfl, rfl, rfl⟩ := hcs
      exact ⟨zs.take len2, row_open hl hm (by simpa using hz) hcell hwz⟩
  clear hA0 hval0
  refine (exactPutTlv_walk a0 len0 cap0 z0 a1 a2 len2 cap2 z2 W w0 w1 w2).mono fun e W' ⟨he, bel⟩ => ?_
  subst he
  exact ⟨_, rfl, _, _, _, [], _, [], hW', trodAll_mk1 (shut_bool Try.underlying4 _), (trodAll_cons_mk (Below.trod fnExactPutTlv_laid (by kernel_rfl) (of_decide_eq_true (by kernel_rfl)) k0 bel lt0) (trodAll_cons_mk (shut_int Try.underlying3 w1) (trodAll_cons_mk (Below.trod fnExactPutTlv_laid (by kernel_rfl) (of_decide_eq_true (by kernel_rfl)) k2 bel lt2) trodAll_mk0))), rfl, bel.frame _, fun h => by cases h⟩

theorem fnExactPutTlv_holds : Rows.FnExactPutTlvSaid :=
  OpenClaim.holds_of_wide 6 Try.f6 rfl rfl rfl rfl rfl rfl rfl ⟨rfl, rfl, rfl, rfl, rfl⟩ rfl rfl rfl rfl rfl (by kernel_rfl) Try.func6 (by kernel_rfl)
    (of_decide_eq_true (by kernel_rfl)) (by unfold Func.isWrapper; first | (rw [if_pos (by decide +kernel)]; kernel_rfl) | (rw [if_neg (by decide +kernel)]; exact ⟨rfl, rfl⟩))
    (fun os started H enc _ => fnExactPutTlv_lifted os started H enc)

#print axioms fnExactPutTlv_holds

end Go.Proofs.Ytjpfoofijjgpcaa
