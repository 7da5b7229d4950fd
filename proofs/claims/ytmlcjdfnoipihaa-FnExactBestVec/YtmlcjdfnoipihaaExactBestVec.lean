/-
  FnExactBestVec answers true at all arguments: BestVec answers as the specification; it writes into no argument.
-/
import Derived.Test.YtmlcjdfnoipihaaPtBestI
import Derived.Test.YtmlcjdfnoipihaaPtHelp
import Derived.Test.YtmlcjdfnoipihaaPtOpen
import Derived.WalkKit
import Derived.ProofKit
import Derived.OpenShut
import Derived.ShutString
import Derived.ChangeOld
import Derived.Below
import Derived.Lib.SmallJoins
namespace Go.Proofs.Ytmlcjdfnoipihaa
open Go.RowKit

set_option maxRecDepth 100000 in
set_option maxHeartbeats 4000000 in
theorem exactBestVec_walk (id : Int) (a0 : Option Addr) (l0 c0 : Nat) (z0 : List PT) (w : World) (_wi : (Lit.int .i64 id).wf = true) (h0 : GRow ptF w a0 l0 c0 z0) (_g0 : ∀ x ∈ z0, x.Rng) :
    Calls Try.prog 6 #[.int .i64 id, .slice a0 l0 c0] w fun e w' => e = .returned (.bool true) ∧ Below w.heap.size w w' := by
  have hle := h0.le
  have htop := h0.top
  by_cases gb : ¬ (l0 : Int) ≤ 1048576
  · go_enter Try.func6, Try.ntmps6
    go_wp2_with fail
    refine (szPts_any a0 l0 c0 1048576 _ (Nat.le_trans hle htop) (by omega) (by omega)).mono ?_
    rintro e w1 ⟨rfl, rfl⟩
    rw [if_neg (show ¬ (l0 : Int) ≤ 1048576 by omega)]
    go_wp2
    go_ret
    exact ⟨rfl, Below.refl _ _⟩
  have gb : (l0 : Int) ≤ 1048576 := by omega
  generalize hV : bestV id (bestOf id z0) = V
  generalize hP : bestP (bestOf id z0) = P
  have HV := hide hV
  have HP := hide hP
  clear hV hP
  go_enter Try.func6, Try.ntmps6
  go_wp2_with fail
  refine (szPts_any a0 l0 c0 1048576 _ (Nat.le_trans hle htop) (by omega) (by omega)).mono ?_
  rintro e w1 ⟨rfl, ew⟩
  obtain rfl := ew.symm
  rw [if_pos gb]
  go_wp2_with fail
  refine (toPts_made a0 l0 c0 z0 _ h0 (by omega)).mono ?_
  rintro e w2 ⟨ao2, cp2, rfl, -, r2, hb2⟩
  go_wp2_with fail
  refine (specBestVec_any id _ _ _ z0 _ r2).mono ?_
  rintro e w3 ⟨rfl, hb3⟩
  rw [HV.out, HP.out]
  have u3 := gr_trans hb2 hb3
  clear hb2 hb3 r2
  go_upto_region 6 with fail
  generalize hwb : w3.alloc (Obj.cells #[.int .i64 V.r, .int .i64 V.c, .int .i64 V.h, .int .i64 V.b, .int .i64 V.p] 28) = wb
  have ub : Below w.heap.size w wb := by rw [← hwb]; exact gr_trans u3 (below_one _ _)
  have kb : wb.heap[w3.heap.size]? = some (.cells #[.int .i64 V.r, .int .i64 V.c, .int .i64 V.h, .int .i64 V.b, .int .i64 V.p] 28) := by rw [← hwb]; exact block_last _ _
  clear hwb
  go_wp2_with fail
  refine (toPts_made a0 l0 c0 z0 _ (h0.below ub) (by omega)).mono ?_
  rintro e w4 ⟨ao4, cp4, rfl, -, r4, hb4⟩
  go_wp2_with fail
  refine (implBestVec_any id _ _ _ z0 _ r4).mono ?_
  rintro e w5 ⟨rfl, hb5⟩
  rw [HV.out, HP.out]
  have b45 := gr_trans hb4 hb5
  have u5 := gr_trans ub b45
  have r5 := r4.below hb5
  have kb5 := kept_block kb b45
  have hl5 := (Array.getElem?_eq_some_iff.1 kb5).1
  clear hb4 hb5 r4 kb b45
  go_upto_region 8 with fail
  generalize hwc : w5.alloc (Obj.cells #[.int .i64 V.r, .int .i64 V.c, .int .i64 V.h, .int .i64 V.b, .int .i64 V.p] 28) = wc
  have bc : Below w5.heap.size w5 wc := by rw [← hwc]; exact below_one _ _
  have kc : wc.heap[w5.heap.size]? = some (.cells #[.int .i64 V.r, .int .i64 V.c, .int .i64 V.h, .int .i64 V.b, .int .i64 V.p] 28) := by rw [← hwc]; exact block_last _ _
  obtain ⟨⟨x0, x1, x2, x3, x4⟩, -⟩ := cells5 kc
  obtain ⟨⟨y0, y1, y2, y3, y4⟩, -⟩ := cells5 (kept_block kb5 bc)
  have u6 := gr_trans u5 bc
  have r6 := r5.below bc
  clear hwc kc kb5 bc r5 hl5
  go_wp2_with fail
  refine (eqVec_same V.r V.c V.h V.b V.p _).mono ?_
  rintro e w6 ⟨rfl, hb6⟩
  have u7 := gr_trans u6 hb6
  have r7 := r6.below hb6
  clear hb6 x0 x1 x2 x3 x4 y0 y1 y2 y3 y4 r6 u6
  go_wp2_with fail
  refine (toPts_made a0 l0 c0 z0 _ (h0.below u7) (by omega)).mono ?_
  rintro e w8 ⟨ao8, cp8, rfl, -, r8, hb8⟩
  have u8 := gr_trans u7 hb8
  have r9 := r7.below hb8
  clear hb8
  go_wp2_with fail
  refine (eqPts_same _ _ _ _ _ _ z0 _ r9 r8).mono ?_
  rintro e w9 ⟨rfl, hb9⟩
  go_wp2
  go_ret
  exact ⟨rfl, gr_trans u8 hb9⟩

theorem fnExactBestVec_own : ownKnob Try.prog.godebug = none := by kernel_rfl
theorem fnExactBestVec_laid : laidOutB Try.prog = true := by kernel_rfl

open Go.ChangeShapes Go.WideShapes Go.ChangeAt in
open Go.ChangeMaps (open_string shut_string) in
set_option maxRecDepth 100000 in
theorem fnExactBestVec_lifted (os : Os) (started : os.Started) (H : Type) (enc : TypeId × Value → H) :
    ReturnsInHanded {} Try.checked os 6 .any (Rows.fnExactBestVecSpec.pre6 enc Try.prog Try.f6 Rows.fnExactBestVecRow.domain false) (Rows.fnExactBestVecSpec.post enc Try.prog Try.f6 false true false false) := by
  refine returnsInHanded_of_change (C := Try.checked) fnExactBestVec_own started (by kernel_rfl) Try.func6
    (ChangeSpec.witness6 (enc := enc) (C := Try.checked) false ⟨#[], #[.int .i64 0, .slice none 0 0], []⟩ 8 (by kernel_rfl) (by kernel_rfl) (by kernel_rfl) (by kernel_rfl)) ?_
  intro W base args ds gs before hval0 hW hcnd _
  have hval : ∀ (j : Nat) t v, Try.f6.params[j]? = some t → args[j]? = some v → Value.okWide Try.prog W .any base t v := hval0
  have hW' := hW
  obtain ⟨p, q, hA0, hV, rfl, hfz, hnd⟩ := hW
  have hA : DataW.TrodAll enc Try.prog W 0 (fun _ => true) true Try.f6.params.toList args.toList ds p := hA0
  rw [Try.params6] at hA hval
  obtain ⟨v0, vs0, d0, ds0, p0, q0, hargs, rfl, rfl, h0, r0⟩ := trodAll_cons hA
  obtain ⟨v1, vs1, d1, ds1, p1, q1, rfl, rfl, rfl, h1, r1⟩ := trodAll_cons r0
  obtain ⟨rfl, rfl, rfl⟩ := trodAll_nil r1
  obtain rfl : args = #[v0, v1] := by cases args; simp_all
  obtain ⟨rfl, rfl⟩ := trodVars_none hV
  obtain ⟨a0, rfl, rfl, rfl, w0⟩ := open_int Try.underlying3 (hval 0 3 v0 rfl rfl) h0
  have k1 := h1
  have lt1 : ∀ x ∈ p1, x.block < W.heap.size := by obtain ⟨m, hm⟩ := k1; exact DataW.trod_lt m _ _ _ hm
  obtain ⟨a1, len1, cap1, rfl⟩ := okWide_slice Try.underlying48 (hval 1 48 v1 rfl rfl)
  obtain ⟨z1, w1, g1⟩ : ∃ zs, GRow ptF W a1 len1 cap1 zs ∧ ∀ x ∈ zs, x.Rng := by
    obtain ⟨fuel, hf⟩ := h1
    obtain ⟨ao, m, c, l, e, hl, hr⟩ := open_pts Try.underlying48 Try.underlying45 Try.underlying43 Try.underlying3 Try.underlying4 ⟨rfl, rfl⟩ ⟨rfl, rfl⟩ ⟨rfl, rfl⟩ ⟨rfl, rfl⟩ ⟨rfl, rfl⟩ ⟨rfl, rfl⟩ ⟨rfl, rfl⟩ ⟨rfl, rfl⟩ ⟨rfl, rfl⟩ (by kernel_rfl) (by kernel_rfl) (by kernel_rfl) (by kernel_rfl) hf
    cases e
    exact ⟨l, hl, hr⟩
  clear hA0 hval0
  refine (exactBestVec_walk a0 a1 len1 cap1 z1 W w0 w1 g1).mono fun e W' ⟨he, bel⟩ => ?_
  subst he
  exact ⟨_, rfl, _, _, _, [], _, [], hW', trodAll_mk1 (shut_bool Try.underlying4 _), (trodAll_cons_mk (shut_int Try.underlying3 w0) (trodAll_cons_mk (Below.trod fnExactBestVec_laid (by kernel_rfl) (of_decide_eq_true (by kernel_rfl)) k1 bel lt1) trodAll_mk0)), rfl, bel.frame _, fun h => by cases h⟩

theorem fnExactBestVec_holds : Rows.FnExactBestVecSaid :=
  OpenClaim.holds_of_wide 6 Try.f6 rfl rfl rfl rfl rfl rfl rfl ⟨rfl, rfl, rfl, rfl, rfl⟩ rfl rfl rfl rfl rfl (by kernel_rfl) Try.func6 (by kernel_rfl)
    (of_decide_eq_true (by kernel_rfl)) (by unfold Func.isWrapper; first | (rw [if_pos (by decide +kernel)]; kernel_rfl) | (rw [if_neg (by decide +kernel)]; exact ⟨rfl, rfl⟩))
    (fun os started H enc _ => fnExactBestVec_lifted os started H enc)

#print axioms fnExactBestVec_holds

end Go.Proofs.Ytmlcjdfnoipihaa
