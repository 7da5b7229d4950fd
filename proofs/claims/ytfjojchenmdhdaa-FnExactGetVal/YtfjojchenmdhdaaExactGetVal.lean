/-
  FnExactGetVal answers true at all arguments: GetVal answers as the specification; it writes into no argument and keeps nothing of one; its answer owns its memory, behind another call too.
-/
import Derived.Test.YtfjojchenmdhdaaValSpecGet
import Derived.Test.YtfjojchenmdhdaaValPutMade
import Derived.Test.YtfjojchenmdhdaaCopy
import Derived.WalkKit
import Derived.ProofKit
import Derived.OpenShut
import Derived.ShutString
import Derived.ChangeOld
import Derived.Below
import Derived.Lib.SmallJoins
namespace Go.Proofs.Ytfjojchenmdhdaa
open Go.RowKit

theorem getV_small {z1 : List Int} {t K N : Int} {S : ByteArray} {O : List Int} {next : Int} {ok : Bool} (hG : getV z1 t = (K, N, S, O, next, ok)) : O.length ≤ 10 := by
  rcases hT : getTlv z1 t with ⟨k, body, nx, okT⟩
  rcases getV_ways hG hT with ⟨_, e⟩ | ⟨_, _, _, e⟩ | ⟨_, _, _, e⟩ | ⟨_, _, _, e⟩ | ⟨_, _, _, e⟩ | ⟨_, _, o, ho, e⟩ | ⟨_, _, _, e⟩ | ⟨_, _, _, _, e⟩ | ⟨_, _, _, e⟩
  all_goals cases e
  all_goals first | exact (ok_all (getO_is ho).1).2.2 | simp

set_option maxRecDepth 100000 in
set_option maxHeartbeats 4000000 in
theorem exactGetVal_walk (a0 : Option Addr) (l0 c0 : Nat) (z0 : List Int) (t : Int) (w : World) (h0 : Row w a0 l0 c0 z0) (_h1 : (Lit.int .i64 t).wf = true) :
    Calls Try.prog 7 #[.slice a0 l0 c0, .int .i64 t] w fun e w' => e = .returned (.bool true) ∧ Below w.heap.size w w' := by
  by_cases g0 : 1048576 < l0
  · go_enter Try.func7, Try.ntmps7
    go_wp2
    go_ret
    exact ⟨rfl, Below.refl _ _⟩
  rcases hG : getV z0 t with ⟨K, N, S, O, next, ok⟩
  have hsm := getV_small hG
  have HG := hide hG
  clear hG
  go_enter Try.func7, Try.ntmps7
  go_wp2_with fail
  refine (copy_made _ _ _ z0 _ h0 (by omega)).mono ?_
  rintro e w1 ⟨ao1, cp1, rfl, -, r1, hb1⟩
  go_wp2_with fail
  refine (specGetVal_made _ _ _ z0 t K N S O next ok HG.out _ r1 (by omega)).mono ?_
  rintro e w2 ⟨ao2, cp2, rfl, -, r2, hb2⟩
  have q2 : Below w.heap.size w w2 := hb1.trans (hb2.mono hb1.size)
  have m2 := q2.size
  have u2 := q2.trans ((below_one w2 (.cells #[.int .i64 K, .int .i64 N, .string S, .slice ao2 O.length cp2] 26)).mono m2)
  clear hb1 hb2 r1
  go_wp2_with fail
  refine (copy_made _ _ _ z0 _ (h0.below u2) (by omega)).mono ?_
  rintro e w3 ⟨ao3, cp3, rfl, ho3, r3, hb3⟩
  have k5 := kept_block (block_last w2 _) hb3
  have v3 : Below w2.heap.size w2 w3 := (below_one w2 _).trans (hb3.mono (below_one w2 _).size)
  have m3 : w2.heap.size + 1 ≤ w3.heap.size := by have := hb3.size; simpa using this
  have ho3 := own_lt ho3 (base' := w2.heap.size + 1) (by simp)
  have b3 := ho3.lt
  clear hb3 u2
  go_wp2_with fail
  refine (implGetVal_made _ _ _ z0 t K N S O next ok HG.out _ r3 (by omega)).mono ?_
  rintro e w4 ⟨ao4, cp4, rfl, ho4, r4, hb4⟩
  have m4 := hb4.size
  have b4 := ho4.lt
  have k5 := kept_block k5 hb4
  have v4 : Below w2.heap.size w2 w4 := v3.trans (hb4.mono v3.size)
  have o3 := own_below ho3 hb4
  have r3 := r3.below hb4
  have KB5 := hide k5
  obtain ⟨⟨x0, x1, x2, x3⟩, -⟩ := cells4 (kept_block k5 (below_one w4 (.cells #[.int .i64 K, .int .i64 N, .string S, .slice ao4 O.length cp4] 26)))
  clear k5 hb4 v3 ho3
  go_wp2_with fail
  refine (eqVal_same K N S _ _ _ _ _ _ O _ (r4.below (below_one w4 _)) ((r2.below v4).below (below_one w4 _))).mono ?_
  rintro e w5 ⟨rfl, hb5⟩
  have k9 := kept_block (block_last w4 _) hb5
  have d5 : Below w4.heap.size w4 w5 := (below_one w4 _).trans (hb5.mono (below_one w4 _).size)
  have p5 := v4.trans (d5.mono (by omega))
  clear hb5 x0 x1 x2 x3
  go_wp2_with fail
  refine (copy_made _ _ _ z0 _ (h0.below (q2.trans (p5.mono m2))) (by omega)).mono ?_
  rintro e w6 ⟨ao6, cp6, rfl, -, r6, hb6⟩
  go_wp2_with fail
  refine (eq_same _ _ _ _ _ _ z0 _ ((r3.below d5).below hb6) r6).mono ?_
  rintro e w7 ⟨rfl, n7, rfl⟩
  have f7 : Below w5.heap.size w5 (w6.drewN n7) := below_drewN hb6 n7
  have d7 : Below w4.heap.size w4 (w6.drewN n7) := d5.trans (f7.mono d5.size)
  have p7 := v4.trans (d7.mono (by omega))
  have k9 := kept_block k9 f7
  have k5 := kept_block KB5.out d7
  have o3 := own_below o3 d7
  have o4 := own_below ho4 d7
  clear f7 d7 d5 p5 hb6 r6 r3 r4 ho4 KB5 v4
  generalize w6.drewN n7 = w7 at *
  have K9 := hide k9
  have K5 := hide k5
  clear k9 k5
  -- the marks
  go_wp2_with fail
  refine (mark_grown _ _ _ _ z0 _ _ o3 (by omega) (by omega) (by omega)).mono ?_
  rintro e w8 ⟨rfl, o8, g8⟩
  have o4 := own_above o4 g8 (fun k hk => (b3 k hk).2)
  have p8 := p7.grown g8 p7.size (fun k hk => by have := (b3 k hk).1; omega)
  have k9 := kept_grown K9.out g8 (fun k hk => by have := (b3 k hk).2; omega)
  have k5 := kept_grown K5.out g8 (fun k hk => by have := (b3 k hk).1; omega)
  obtain ⟨⟨x0, x1, x2, x3⟩, -⟩ := cells4 k9
  obtain ⟨⟨y0, y1, y2, y3⟩, -⟩ := cells4 k5
  have K9 := hide k9
  have K5 := hide k5
  clear o8 o3 p7 g8 k9 k5
  go_wp2_with fail
  refine (eqVal_same K N S _ _ _ _ _ _ O _ (irow_own o4 r2.byte) (r2.below p8)).mono ?_
  rintro e w9 ⟨rfl, hb9⟩
  have o4 := own_below o4 hb9
  have p9 := p8.trans (hb9.mono p8.size)
  have k9 := kept_block K9.out hb9
  have k5 := kept_block K5.out hb9
  clear x0 x1 x2 x3 y0 y1 y2 y3 K9 K5 p8 hb9
  obtain ⟨⟨x0, x1, x2, x3⟩, -⟩ := cells4 k9
  have K9 := hide k9
  have K5 := hide k5
  clear k9 k5
  go_wp2_with fail
  refine (markVal_grown K N S _ _ _ _ O _ _ o4 (by omega) (by omega) (by omega)).mono ?_
  rintro e w10 ⟨rfl, o10, g10⟩
  have p10 := p9.grown g10 p9.size (fun k hk => by have := (b4 k hk).1; omega)
  have k9 := kept_grown K9.out g10 (fun k hk => by have := (b4 k hk).2; omega)
  have k5 := kept_grown K5.out g10 (fun k hk => by have := (b4 k hk).1; omega)
  clear x0 x1 x2 x3 K9 K5 p9 o4 g10
  obtain ⟨⟨x0, x1, x2, x3⟩, -⟩ := cells4 k9
  have K9 := hide k9
  have K5 := hide k5
  have r10 := irow_own o10 (marksI_byte _ _ (by omega) (by omega) (by omega))
  clear k9 k5 o10
  go_wp2_with fail
  refine (heldVal_any K N S _ _ _ _ _ r10 (by omega) (by omega) (by omega)).mono ?_
  rintro e w11 ⟨rfl, hb11⟩
  have p11 := p10.trans (hb11.mono p10.size)
  have r11 := r10.below hb11
  have k9 := hide (kept_block K9.out hb11)
  have k5 := hide (kept_block K5.out hb11)
  clear x0 x1 x2 x3 K9 K5 p10 hb11 r10
  go_wp2_with fail
  refine (copy_made _ _ _ z0 _ (h0.below (q2.trans (p11.mono m2))) (by omega)).mono ?_
  rintro e w12 ⟨ao12, cp12, rfl, -, r12, hb12⟩
  go_wp2_with fail
  refine (implGetVal_made _ _ _ z0 t K N S O next ok HG.out _ r12 (by omega)).mono ?_
  rintro e w13 ⟨ao13, cp13, rfl, -, r13, hb13⟩
  have d13 := hb12.trans (hb13.mono hb12.size)
  have p13 := p11.trans (d13.mono p11.size)
  have K9 := hide (kept_block k9.out d13)
  have k5' := kept_block k5.out d13
  have r11 := r11.below d13
  obtain ⟨⟨y0, y1, y2, y3⟩, -⟩ := cells4 (kept_block k5' (below_one w13 (.cells #[.int .i64 K, .int .i64 N, .string S, .slice ao13 O.length cp13] 26)))
  clear hb12 hb13 d13 p11 k9 k5 k5' r12
  go_wp2_with fail
  refine (eqVal_same K N S _ _ _ _ _ _ O _ (r13.below (below_one w13 _)) ((r2.below p13).below (below_one w13 _))).mono ?_
  rintro e w14 ⟨rfl, hb14⟩
  have d14 : Below w13.heap.size w13 w14 := (below_one w13 _).trans (hb14.mono (below_one w13 _).size)
  have p14 := p13.trans (d14.mono p13.size)
  obtain ⟨⟨x0, x1, x2, x3⟩, -⟩ := cells4 (kept_block K9.out d14)
  clear y0 y1 y2 y3 hb14 p13 r13 K9
  go_wp2_with fail
  refine (heldVal_any K N S _ _ _ _ _ (r11.below d14) (by omega) (by omega) (by omega)).mono ?_
  rintro e w15 ⟨rfl, hb15⟩
  go_wp2
  go_ret
  exact ⟨rfl, q2.trans ((p14.trans (hb15.mono p14.size)).mono m2)⟩

theorem fnExactGetVal_own : ownKnob Try.prog.godebug = none := by kernel_rfl
theorem fnExactGetVal_laid : laidOutB Try.prog = true := by kernel_rfl

open Go.ChangeShapes Go.WideShapes Go.ChangeAt in
open Go.ChangeMaps (open_string shut_string) in
set_option maxRecDepth 100000 in
theorem fnExactGetVal_lifted (os : Os) (started : os.Started) (H : Type) (enc : TypeId × Value → H) :
    ReturnsInHanded {} Try.checked os 7 .any (Rows.fnExactGetValSpec.pre6 enc Try.prog Try.f7 Rows.fnExactGetValRow.domain false) (Rows.fnExactGetValSpec.post enc Try.prog Try.f7 false true false false) := by
  refine returnsInHanded_of_change (C := Try.checked) fnExactGetVal_own started (by kernel_rfl) Try.func7
    (ChangeSpec.witness6 (enc := enc) (C := Try.checked) false ⟨#[], #[.slice none 0 0, .int .i64 0], []⟩ 8 (by kernel_rfl) (by kernel_rfl) (by kernel_rfl) (by kernel_rfl)) ?_
  intro W base args ds gs before hval0 hW hcnd _
  have hval : ∀ (j : Nat) t v, Try.f7.params[j]? = some t → args[j]? = some v → Value.okWide Try.prog W .any base t v := hval0
  have hW' := hW
  obtain ⟨p, q, hA0, hV, rfl, hfz, hnd⟩ := hW
  have hA : DataW.TrodAll enc Try.prog W 0 (fun _ => true) true Try.f7.params.toList args.toList ds p := hA0
  rw [Try.params7] at hA hval
  obtain ⟨v0, vs0, d0, ds0, p0, q0, hargs, rfl, rfl, h0, r0⟩ := trodAll_cons hA
  obtain ⟨v1, vs1, d1, ds1, p1, q1, rfl, rfl, rfl, h1, r1⟩ := trodAll_cons r0
  obtain ⟨rfl, rfl, rfl⟩ := trodAll_nil r1
  obtain rfl : args = #[v0, v1] := by cases args; simp_all
  obtain ⟨rfl, rfl⟩ := trodVars_none hV
  obtain ⟨a0, len0, cap0, rfl⟩ := okWide_slice Try.underlying22 (hval 0 22 v0 rfl rfl)
  have k0 := h0
  have lt0 : ∀ x ∈ p0, x.block < W.heap.size := by obtain ⟨m, hm⟩ := k0; exact DataW.trod_lt m _ _ _ hm
  obtain ⟨z0, w0⟩ : ∃ zs, Row W a0 len0 cap0 zs := by
    obtain ⟨fuel, hf⟩ := h0
    rcases open_ints Try.underlying22 Try.underlying5 (by kernel_rfl) hf with ⟨hcs, _⟩ | ⟨x, l, c, zs, hcs, _, hl, hm, hz, _, hcell, hwz⟩
    · simp [Value.cells] at hcs
      obtain ⟨rfl, rfl, rfl⟩ := hcs
      exact ⟨[], row_nil W⟩
    · simp [Value.cells] at hcs
      obtain ⟨rfl, rfl, rfl⟩ := hcs
      exact ⟨zs.take len0, row_open hl hm (by simpa using hz) hcell hwz⟩
  obtain ⟨a1, rfl, rfl, rfl, w1⟩ := open_int Try.underlying3 (hval 1 3 v1 rfl rfl) h1
  clear hA0 hval0
  refine (exactGetVal_walk a0 len0 cap0 z0 a1 W w0 w1).mono fun e W' ⟨he, bel⟩ => ?_
  subst he
  exact ⟨_, rfl, _, _, _, [], _, [], hW', trodAll_mk1 (shut_bool Try.underlying4 _), (trodAll_cons_mk (Below.trod fnExactGetVal_laid (by kernel_rfl) (of_decide_eq_true (by kernel_rfl)) k0 bel lt0) (trodAll_cons_mk (shut_int Try.underlying3 w1) trodAll_mk0)), rfl, bel.frame _, fun h => by cases h⟩

theorem fnExactGetVal_holds : Rows.FnExactGetValSaid :=
  OpenClaim.holds_of_wide 7 Try.f7 rfl rfl rfl rfl rfl rfl rfl ⟨rfl, rfl, rfl, rfl, rfl⟩ rfl rfl rfl rfl rfl (by kernel_rfl) Try.func7 (by kernel_rfl)
    (of_decide_eq_true (by kernel_rfl)) (by unfold Func.isWrapper; first | (rw [if_pos (by decide +kernel)]; kernel_rfl) | (rw [if_neg (by decide +kernel)]; exact ⟨rfl, rfl⟩))
    (fun os started H enc _ => fnExactGetVal_lifted os started H enc)

#print axioms fnExactGetVal_holds

end Go.Proofs.Ytfjojchenmdhdaa
