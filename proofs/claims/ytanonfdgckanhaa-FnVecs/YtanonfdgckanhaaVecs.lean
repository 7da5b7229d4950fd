/-
  FnVecs answers true at all bytes: a drawn vector that is right comes back of its bytes; of one that is not nothing is put; what is read of drawn bytes is read just where the specification reads it, is right, and has these bytes.
-/
import Derived.Test.YtanonfdgckanhaaDrawVecs
import Derived.Test.YtanonfdgckanhaaVecGet
import Derived.Test.YtanonfdgckanhaaVecSpecGet
import Derived.Test.YtanonfdgckanhaaVecPut
import Derived.Test.YtanonfdgckanhaaSame
import Derived.Test.YtanonfdgckanhaaBig
import Derived.Deep.RegionHeld3
import Derived.WalkKit
import Derived.ProofKit
import Derived.OpenShut
import Derived.ShutString
import Derived.ChangeOld
import Derived.Below
namespace Go.Proofs.Ytanonfdgckanhaa
open Go.RowKit

set_option maxRecDepth 100000 in
set_option maxHeartbeats 4000000 in
theorem vecs_walk (a0 : Option Addr) (l0 c0 : Nat) (z0 : List Int) (w : World) (h0 : Row w a0 l0 c0 z0) :
    Calls Try.prog 4 #[.slice a0 l0 c0] w fun e w' => e = .returned (.bool true) ∧ Below w.heap.size w w' := by
  by_cases g0 : 1048576 < l0
  · have i1 : (1048576 : Int) < l0 := by omega
    go_enter Try.func4, Try.ntmps4
    go_wp2
    go_ret
    exact ⟨rfl, Below.refl _ _⟩
  go_enter Try.func4, Try.ntmps4
  go_wp2_with fail
  refine (big_no _ _ _ _ g0).mono ?_
  rintro e w0 ⟨rfl, rfl⟩
  go_wp2_with fail
  refine (drawPutVec_any _ _ _ z0 _ h0 (by omega)).mono ?_
  rintro e w1 ⟨R, K, H, B, P, rfl, hb1⟩
  have hpl := putVc_len R K H B P
  generalize hP : putVc R K H B P = Q at hpl
  have HP := hide hP
  clear hP
  have c1 := below_one w1 (.cells #[.int .i64 R, .int .i64 K, .int .i64 H, .int .i64 B, .int .i64 P] 38)
  go_wp2_with fail
  refine (implPutVec_made R K H B P Q HP.out _).mono ?_
  rintro e w2 ⟨ao2, cp2, rfl, -, r2, hb2⟩
  have kb := kept_block (block_last w1 (.cells #[.int .i64 R, .int .i64 K, .int .i64 H, .int .i64 B, .int .i64 P] 38)) hb2
  have q2 := gr_trans hb1 (gr_trans c1 hb2)
  clear hb1 hb2 c1
  go_wp2_with fail
  refine (drawGetVec_any _ _ _ z0 _ (h0.below q2) (by omega)).mono ?_
  rintro e w3 ⟨ao3, n3, cp3, zs3, rfl, hn3, r3, hb3⟩
  obtain rfl := r3.size
  have kb := kept_block kb hb3
  have q3 := gr_trans q2 hb3
  have r2 := r2.below hb3
  rcases hG : gotVc zs3 with ⟨R3, K3, H3, B3, P3, is⟩
  have HG := hide hG
  clear hb3 q2
  go_wp2_with fail
  refine (implGetVec_made _ _ _ zs3 R3 K3 H3 B3 P3 is HG.out _ r3 (by omega)).mono ?_
  rintro e w4 ⟨rfl, hb4⟩
  have e4 := gr_alloc hb4 (.cells #[.int .i64 R3, .int .i64 K3, .int .i64 H3, .int .i64 B3, .int .i64 P3] 38)
  have kb := kept_block kb e4
  have ky := block_last w4 (.cells #[.int .i64 R3, .int .i64 K3, .int .i64 H3, .int .i64 B3, .int .i64 P3] 38)
  have q4 := gr_trans q3 e4
  have r2 := r2.below e4
  have r3 := r3.below e4
  clear hb4 e4 q3
  go_wp2_with fail
  generalize w4.alloc (.cells #[.int .i64 R3, .int .i64 K3, .int .i64 H3, .int .i64 B3, .int .i64 P3] 38) = w4' at *
  refine (specGetVec_made _ _ _ zs3 R3 K3 H3 B3 P3 is HG.out _ r3 (by omega)).mono ?_
  rintro e w5 ⟨rfl, hb5⟩
  have e5 := gr_alloc hb5 (.cells #[.int .i64 R3, .int .i64 K3, .int .i64 H3, .int .i64 B3, .int .i64 P3] 38)
  have kb := kept_block kb e5
  have ky := kept_block ky e5
  have q5 := gr_trans q4 e5
  have r2 := r2.below e5
  have r3 := r3.below e5
  clear hb5 e5 q4 HG
  have KB0 := hide kb
  have KY := hide ky
  clear kb ky
  cases is
  · clear hG
    have q8 := q5
    have KB := KB0
    clear q5 KB0 KY r3
    obtain ⟨⟨x0, x1, x2, x3, x4⟩, -⟩ := cells5 KB.out
    go_upto_region 10 with fail
    generalize w5.alloc (.cells #[.int .i64 R3, .int .i64 K3, .int .i64 H3, .int .i64 B3, .int .i64 P3] 38) = w8 at *
    clear x0 x1 x2 x3 x4
    obtain ⟨⟨x0, x1, x2, x3, x4⟩, -⟩ := cells5 KB.out
    go_wp2_with fail
    refine (specVecOk_any R K H B P _).mono ?_
    rintro e w9 ⟨rfl, hb9⟩
    have kb := kept_block KB.out hb9
    have q9 := gr_trans q8 hb9
    have r2 := r2.below hb9
    clear hb9 q8 x0 x1 x2 x3 x4 KB
    cases hok : okVc R K H B P
    · have hPz : Q = [] := by rw [← HP.out]; exact putVc_no hok
      subst hPz
      have HOK := hide hok
      clear hok
      obtain ⟨⟨x0, x1, x2, x3, x4⟩, -⟩ := cells5 kb
      clear kb
      go_wp2_with fail
      refine (implVecOk_any R K H B P _).mono ?_
      rintro e w10 ⟨rfl, hb10⟩
      rw [HOK.out]
      go_wp2
      go_ret
      exact ⟨rfl, gr_trans q9 hb10⟩
    · have HBK := hide (show gotVc Q = (R, K, H, B, P, true) by rw [← HP.out]; exact gotVc_back hok)
      have HOK := hide hok
      clear hok
      have KB := hide kb
      clear kb
      go_wp2_with fail
      refine (implGetVec_made _ _ _ Q R K H B P true HBK.out _ r2 (by omega)).mono ?_
      rintro e w10 ⟨rfl, hb10⟩
      have e10 := gr_alloc hb10 (.cells #[.int .i64 R, .int .i64 K, .int .i64 H, .int .i64 B, .int .i64 P] 38)
      have kb := kept_block KB.out e10
      have q10 := gr_trans q9 e10
      have kx := block_last w10 (.cells #[.int .i64 R, .int .i64 K, .int .i64 H, .int .i64 B, .int .i64 P] 38)
      obtain ⟨⟨x0, x1, x2, x3, x4⟩, -⟩ := cells5 kb
      obtain ⟨⟨y0, y1, y2, y3, y4⟩, -⟩ := cells5 kx
      have he : ∀ W, (binOp .eql 38 (.agg #[.int .i64 R, .int .i64 K, .int .i64 H, .int .i64 B, .int .i64 P]) (.agg #[.int .i64 R, .int .i64 K, .int .i64 H, .int .i64 B, .int .i64 P])).run Try.prog W = .ok (.bool true) W := fun W => by rw [vec_eql]; simp
      have hgd : Try.prog.eqGuardType Try.prog.depth 38 = false := by kernel_rfl
      clear hb10 e10 q9 KB r2 HBK kb kx
      go_wp2_with fail
      generalize w10.alloc (.cells #[.int .i64 R, .int .i64 K, .int .i64 H, .int .i64 B, .int .i64 P] 38) = w10' at *
      refine (implVecOk_any R K H B P _).mono ?_
      rintro e w12 ⟨rfl, hb12⟩
      rw [HOK.out]
      go_wp2
      go_ret
      exact ⟨rfl, gr_trans q10 hb12⟩
  · obtain ⟨hoky, hput, -⟩ := gotVc_yes r3.byte hG
    have HOKY := hide hoky
    have HPUT := hide hput
    clear hG hoky hput
    obtain ⟨⟨z0, z1, z2, z3, z4⟩, -⟩ := cells5 KY.out
    go_wp2_with fail
    generalize w5.alloc (.cells #[.int .i64 R3, .int .i64 K3, .int .i64 H3, .int .i64 B3, .int .i64 P3] 38) = w5' at *
    refine (implVecOk_any R3 K3 H3 B3 P3 _).mono ?_
    rintro e wa ⟨rfl, hba⟩
    rw [HOKY.out]
    have KB1 := hide (kept_block KB0.out hba)
    have ky := kept_block KY.out hba
    have qa := gr_trans q5 hba
    have r2 := r2.below hba
    have r3 := r3.below hba
    clear z0 z1 z2 z3 z4 hba q5 KB0 KY
    obtain ⟨⟨z0, z1, z2, z3, z4⟩, -⟩ := cells5 ky
    clear ky
    go_wp2_with fail
    refine (implPutVec_made R3 K3 H3 B3 P3 zs3 HPUT.out _).mono ?_
    rintro e wb ⟨aob, cpb, rfl, -, rb, hbb⟩
    have KB2 := hide (kept_block KB1.out hbb)
    have qb := gr_trans qa hbb
    have r2 := r2.below hbb
    have r3 := r3.below hbb
    clear z0 z1 z2 z3 z4 hbb qa KB1
    go_wp2_with fail
    refine (same_same _ _ _ _ _ _ zs3 _ rb r3).mono ?_
    rintro e wc ⟨rfl, nc, rfl⟩
    have ec : Below wb.heap.size wb (wb.drewN nc) := below_drewN (Below.refl _ _) nc
    have KB := hide (kept_block KB2.out ec)
    have q8 := gr_trans qb ec
    have r2 := r2.below ec
    generalize wb.drewN nc = wc at *
    clear ec qb KB2 r3 rb
    obtain ⟨⟨x0, x1, x2, x3, x4⟩, -⟩ := cells5 KB.out
    go_wp2_with fail
    refine (specVecOk_any R K H B P _).mono ?_
    rintro e w9 ⟨rfl, hb9⟩
    have kb := kept_block KB.out hb9
    have q9 := gr_trans q8 hb9
    have r2 := r2.below hb9
    clear hb9 q8 x0 x1 x2 x3 x4 KB
    cases hok : okVc R K H B P
    · have hPz : Q = [] := by rw [← HP.out]; exact putVc_no hok
      subst hPz
      have HOK := hide hok
      clear hok
      obtain ⟨⟨x0, x1, x2, x3, x4⟩, -⟩ := cells5 kb
      clear kb
      go_wp2_with fail
      refine (implVecOk_any R K H B P _).mono ?_
      rintro e w10 ⟨rfl, hb10⟩
      rw [HOK.out]
      go_wp2
      go_ret
      exact ⟨rfl, gr_trans q9 hb10⟩
    · have HBK := hide (show gotVc Q = (R, K, H, B, P, true) by rw [← HP.out]; exact gotVc_back hok)
      have HOK := hide hok
      clear hok
      have KB := hide kb
      clear kb
      go_wp2_with fail
      refine (implGetVec_made _ _ _ Q R K H B P true HBK.out _ r2 (by omega)).mono ?_
      rintro e w10 ⟨rfl, hb10⟩
      have e10 := gr_alloc hb10 (.cells #[.int .i64 R, .int .i64 K, .int .i64 H, .int .i64 B, .int .i64 P] 38)
      have kb := kept_block KB.out e10
      have q10 := gr_trans q9 e10
      have kx := block_last w10 (.cells #[.int .i64 R, .int .i64 K, .int .i64 H, .int .i64 B, .int .i64 P] 38)
      obtain ⟨⟨x0, x1, x2, x3, x4⟩, -⟩ := cells5 kb
      obtain ⟨⟨y0, y1, y2, y3, y4⟩, -⟩ := cells5 kx
      have he : ∀ W, (binOp .eql 38 (.agg #[.int .i64 R, .int .i64 K, .int .i64 H, .int .i64 B, .int .i64 P]) (.agg #[.int .i64 R, .int .i64 K, .int .i64 H, .int .i64 B, .int .i64 P])).run Try.prog W = .ok (.bool true) W := fun W => by rw [vec_eql]; simp
      have hgd : Try.prog.eqGuardType Try.prog.depth 38 = false := by kernel_rfl
      clear hb10 e10 q9 KB r2 HBK kb kx
      go_wp2_with fail
      generalize w10.alloc (.cells #[.int .i64 R, .int .i64 K, .int .i64 H, .int .i64 B, .int .i64 P] 38) = w10' at *
      refine (implVecOk_any R K H B P _).mono ?_
      rintro e w12 ⟨rfl, hb12⟩
      rw [HOK.out]
      go_wp2
      go_ret
      exact ⟨rfl, gr_trans q10 hb12⟩

theorem fnVecs_own : ownKnob Try.prog.godebug = none := by kernel_rfl
theorem fnVecs_laid : laidOutB Try.prog = true := by kernel_rfl

open Go.ChangeShapes Go.WideShapes Go.ChangeAt in
open Go.ChangeMaps (open_string shut_string) in
set_option maxRecDepth 100000 in
theorem fnVecs_lifted (os : Os) (started : os.Started) (H : Type) (enc : TypeId × Value → H) :
    ReturnsInHanded {} Try.checked os 4 .any (Rows.fnVecsSpec.pre6 enc Try.prog Try.f4 Rows.fnVecsRow.domain false) (Rows.fnVecsSpec.post enc Try.prog Try.f4 false true false false) := by
  refine returnsInHanded_of_change (C := Try.checked) fnVecs_own started (by kernel_rfl) Try.func4
    (ChangeSpec.witness6 (enc := enc) (C := Try.checked) false ⟨#[], #[.slice none 0 0], []⟩ 8 (by kernel_rfl) (by kernel_rfl) (by kernel_rfl) (by kernel_rfl)) ?_
  intro W base args ds gs before hval0 hW hcnd _
  have hval : ∀ (j : Nat) t v, Try.f4.params[j]? = some t → args[j]? = some v → Value.okWide Try.prog W .any base t v := hval0
  have hW' := hW
  obtain ⟨p, q, hA0, hV, rfl, hfz, hnd⟩ := hW
  have hA : DataW.TrodAll enc Try.prog W 0 (fun _ => true) true Try.f4.params.toList args.toList ds p := hA0
  rw [Try.params4] at hA hval
  obtain ⟨v0, vs0, d0, ds0, p0, q0, hargs, rfl, rfl, h0, r0⟩ := trodAll_cons hA
  obtain ⟨rfl, rfl, rfl⟩ := trodAll_nil r0
  obtain rfl : args = #[v0] := by cases args; simp_all
  obtain ⟨rfl, rfl⟩ := trodVars_none hV
  obtain ⟨a0, len0, cap0, rfl⟩ := okWide_slice Try.underlying22 (hval 0 22 v0 rfl rfl)
  have k0 := h0
  have lt0 : ∀ x ∈ p0, x.block < W.heap.size := by obtain ⟨m, hm⟩ := k0; exact DataW.trod_lt m _ _ _ hm
  obtain ⟨z0, w0⟩ : ∃ zs, Row W a0 len0 cap0 zs := by
    obtain ⟨fuel, hf⟩ := h0
    rcases open_ints Try.underlying22 Try.underlying5 (by kernel_rfl) hf with ⟨hcs, _⟩ | ⟨x, l, c, zs, hcs, _, hl, hm, hz, _, hcell, hwz⟩
    · simp [Value.cells] at hcs
      obtain ⟨rfl, rfl, rfl⟩ := hcs
      exact ⟨[], row_nil W⟩
    · simp [Value.cells] at hcs
      obtain ⟨rfl, rfl, rfl⟩ := hcs
      exact ⟨zs.take len0, row_open hl hm (by simpa using hz) hcell hwz⟩
  clear hA0 hval0
  refine (vecs_walk a0 len0 cap0 z0 W w0).mono fun e W' ⟨he, bel⟩ => ?_
  subst he
  exact ⟨_, rfl, _, _, _, [], _, [], hW', trodAll_mk1 (shut_bool Try.underlying4 _), (trodAll_cons_mk (Below.trod fnVecs_laid (by kernel_rfl) (of_decide_eq_true (by kernel_rfl)) k0 bel lt0) trodAll_mk0), rfl, bel.frame _, fun h => by cases h⟩

theorem fnVecs_holds : Rows.FnVecsSaid :=
  OpenClaim.holds_of_wide 4 Try.f4 rfl rfl rfl rfl rfl rfl rfl ⟨rfl, rfl, rfl, rfl, rfl⟩ rfl rfl rfl rfl rfl (by kernel_rfl) Try.func4 (by kernel_rfl)
    (of_decide_eq_true (by kernel_rfl)) (by unfold Func.isWrapper; first | (rw [if_pos (by decide +kernel)]; kernel_rfl) | (rw [if_neg (by decide +kernel)]; exact ⟨rfl, rfl⟩))
    (fun os started H enc _ => fnVecs_lifted os started H enc)

#print axioms fnVecs_holds

end Go.Proofs.Ytanonfdgckanhaa
