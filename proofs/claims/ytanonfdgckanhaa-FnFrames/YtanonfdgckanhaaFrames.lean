/-
  FnFrames answers true at all bytes: a drawn frame that is right comes back of its bytes; of one that is not nothing is put; what is read of drawn bytes is read just where the specification reads it, is right, and has these bytes; one with another tag is the same but for it.
-/
import Derived.Test.YtanonfdgckanhaaDrawFrames
import Derived.Test.YtanonfdgckanhaaFrameGet
import Derived.Test.YtanonfdgckanhaaFrameSpecGet
import Derived.Test.YtanonfdgckanhaaFramePut
import Derived.Test.YtanonfdgckanhaaFrameTag
import Derived.Test.YtanonfdgckanhaaFrameSame
import Derived.Test.YtanonfdgckanhaaSame
import Derived.Test.YtanonfdgckanhaaBig
import Derived.Deep.RegionHeld3
import Derived.WalkKit
import Derived.ProofKit
import Derived.OpenShut
import Derived.ShutString
import Derived.ChangeOld
import Derived.Below
namespace Go.Proofs.Ytanonfdgckanhaa
open Go.RowKit

set_option maxRecDepth 100000 in
set_option maxHeartbeats 4000000 in
theorem frames_walk (a0 : Option Addr) (l0 c0 : Nat) (z0 : List Int) (w : World) (h0 : Row w a0 l0 c0 z0) :
    Calls Try.prog 3 #[.slice a0 l0 c0] w fun e w' => e = .returned (.bool true) ∧ Below w.heap.size w w' := by
  by_cases g0 : 1048576 < l0
  · have i1 : (1048576 : Int) < l0 := by omega
    go_enter Try.func3, Try.ntmps3
    go_wp2
    go_ret
    exact ⟨rfl, Below.refl _ _⟩
  go_enter Try.func3, Try.ntmps3
  go_wp2_with fail
  refine (big_no _ _ _ _ g0).mono ?_
  rintro e w0 ⟨rfl, rfl⟩
  go_wp2_with fail
  refine (drawPutFrame_any _ _ _ z0 _ h0 (by omega)).mono ?_
  rintro e w1 ⟨K, N, S, ao, n, cap, zs, rfl, hn, v1, hb1⟩
  obtain rfl := v1.size
  have hpl := putF_short K N S zs
  generalize hP : putF K N S zs = P at hpl
  have HP := hide hP
  clear hP
  have c1 := below_one w1 (.cells #[.int .i64 K, .int .i64 N, .int .i64 S, .slice ao zs.length cap] 25)
  go_wp2_with fail
  refine (implPutFrame_made K N S _ _ _ zs P HP.out _ (v1.below c1) (by omega)).mono ?_
  rintro e w2 ⟨ao2, cp2, rfl, -, r2, hb2⟩
  have kb := kept_block (block_last w1 (.cells #[.int .i64 K, .int .i64 N, .int .i64 S, .slice ao zs.length cap] 25)) hb2
  have d2 := gr_trans c1 hb2
  have q2 := gr_trans hb1 d2
  have v1 := v1.below d2
  clear hb1 hb2 d2 c1
  go_wp2_with fail
  refine (drawGetFrame_any _ _ _ z0 _ (h0.below q2) (by omega)).mono ?_
  rintro e w3 ⟨ao3, n3, cp3, zs3, rfl, hn3, r3, hb3⟩
  obtain rfl := r3.size
  have kb := kept_block kb hb3
  have q3 := gr_trans q2 hb3
  have r2 := r2.below hb3
  have v1 := v1.below hb3
  rcases hG : gotF zs3 with ⟨K3, N3, S3, O3, is⟩
  have hO3 := gotF_small r3.byte hG
  have HG := hide hG
  clear hb3 q2
  go_wp2_with fail
  refine (implGetFrame_made _ _ _ zs3 K3 N3 S3 O3 is HG.out _ r3 (by omega)).mono ?_
  rintro e w4 ⟨ao4, cp4, rfl, -, r4, hb4⟩
  have e4 := gr_alloc hb4 (.cells #[.int .i64 K3, .int .i64 N3, .int .i64 S3, .slice ao4 O3.length cp4] 25)
  have kb := kept_block kb e4
  have ky := block_last w4 (.cells #[.int .i64 K3, .int .i64 N3, .int .i64 S3, .slice ao4 O3.length cp4] 25)
  have q4 := gr_trans q3 e4
  have r2 := r2.below e4
  have v1 := v1.below e4
  have r3 := r3.below e4
  have r4 := r4.below (below_one w4 (.cells #[.int .i64 K3, .int .i64 N3, .int .i64 S3, .slice ao4 O3.length cp4] 25))
  clear hb4 e4 q3
  go_wp2_with fail
  generalize w4.alloc (.cells #[.int .i64 K3, .int .i64 N3, .int .i64 S3, .slice ao4 O3.length cp4] 25) = w4' at *
  refine (specGetFrame_made _ _ _ zs3 K3 N3 S3 O3 is HG.out _ r3 (by omega)).mono ?_
  rintro e w5 ⟨ao5, cp5, rfl, -, -, hb5⟩
  have e5 := gr_alloc hb5 (.cells #[.int .i64 K3, .int .i64 N3, .int .i64 S3, .slice ao5 O3.length cp5] 25)
  have kb := kept_block kb e5
  have ky := kept_block ky e5
  have q5 := gr_trans q4 e5
  have r2 := r2.below e5
  have v1 := v1.below e5
  have r3 := r3.below e5
  have r4 := r4.below e5
  clear hb5 e5 q4 HG
  go_wp2_with fail
  generalize w5.alloc (.cells #[.int .i64 K3, .int .i64 N3, .int .i64 S3, .slice ao5 O3.length cp5] 25) = w5' at *
  refine (drawTagged_any _ _ _ z0 _ (h0.below q5) (by omega)).mono ?_
  rintro e w6 ⟨K6, N6, S6, ao6, n6, cp6, zs6, g, rfl, hn6, r6, hb6⟩
  obtain rfl := r6.size
  have e6 := gr_alloc hb6 (.cells #[.int .i64 K6, .int .i64 N6, .int .i64 S6, .slice ao6 zs6.length cp6] 25)
  have kb := kept_block kb e6
  have ky := kept_block ky e6
  have kg := block_last w6 (.cells #[.int .i64 K6, .int .i64 N6, .int .i64 S6, .slice ao6 zs6.length cp6] 25)
  have q6 := gr_trans q5 e6
  have r2 := r2.below e6
  have v1 := v1.below e6
  have r3 := r3.below e6
  have r4 := r4.below e6
  have r6 := r6.below (below_one w6 (.cells #[.int .i64 K6, .int .i64 N6, .int .i64 S6, .slice ao6 zs6.length cp6] 25))
  clear hb6 e6 q5
  go_wp2_with fail
  generalize w6.alloc (.cells #[.int .i64 K6, .int .i64 N6, .int .i64 S6, .slice ao6 zs6.length cp6] 25) = w6' at *
  refine (implTagged_made K6 N6 S6 _ _ _ zs6 g _ r6 (by omega)).mono ?_
  rintro e w7 ⟨ao7, cp7, rfl, -, r7, hb7⟩
  have e7 := gr_alloc hb7 (.cells #[.int .i64 K6, .int .i64 N6, .int .i64 g, .slice ao7 zs6.length cp7] 25)
  have kb := kept_block kb e7
  have ky := kept_block ky e7
  have kg := kept_block kg e7
  have kh := block_last w7 (.cells #[.int .i64 K6, .int .i64 N6, .int .i64 g, .slice ao7 zs6.length cp7] 25)
  have q7 := gr_trans q6 e7
  have r2 := r2.below e7
  have v1 := v1.below e7
  have r3 := r3.below e7
  have r4 := r4.below e7
  have r6 := r6.below e7
  have r7 := r7.below (below_one w7 (.cells #[.int .i64 K6, .int .i64 N6, .int .i64 g, .slice ao7 zs6.length cp7] 25))
  clear hb7 e7 q6
  have KB0 := hide kb
  have KY := hide ky
  have KGG := hide kg
  have KH := hide kh
  clear kb ky kg kh
  cases is
  · clear hG
    obtain ⟨⟨x0, x1, x2, x3⟩, -⟩ := cells4 KGG.out
    obtain ⟨⟨y0, y1, y2, y3⟩, -⟩ := cells4 KH.out
    go_wp2_with fail
    generalize w7.alloc (.cells #[.int .i64 K6, .int .i64 N6, .int .i64 g, .slice ao7 zs6.length cp7] 25) = w7' at *
    refine (same_same _ _ _ _ _ _ zs6 _ r7 r6).mono ?_
    rintro e w8 ⟨rfl, n8, rfl⟩
    have e8 : Below w7'.heap.size w7' (w7'.drewN n8) := below_drewN (Below.refl _ _) n8
    have kb := kept_block KB0.out e8
    have q8 := gr_trans q7 e8
    have r2 := r2.below e8
    have v1 := v1.below e8
    generalize w7'.drewN n8 = w8 at *
    have KB := hide kb
    clear kb e8 KB0 q7 r6 r7 r3 r4 x0 x1 x2 x3 y0 y1 y2 y3 KGG KH KY
    obtain ⟨⟨x0, x1, x2, x3⟩, -⟩ := cells4 KB.out
    go_wp2_with fail
    refine (specFrameOk_any K N S _ _ _ zs _ v1).mono ?_
    rintro e w9 ⟨rfl, hb9⟩
    have kb := kept_block KB.out hb9
    have q9 := gr_trans q8 hb9
    have r2 := r2.below hb9
    have v1 := v1.below hb9
    clear hb9 q8 x0 x1 x2 x3 KB
    cases hok : okF K N S zs.length
    · have hPz : P = [] := by rw [← HP.out]; unfold putF; rw [hok]; rfl
      subst hPz
      have HOK := hide hok
      clear hok
      obtain ⟨⟨x0, x1, x2, x3⟩, -⟩ := cells4 kb
      clear kb
      go_wp2_with fail
      refine (implFrameOk_any K N S _ _ _ zs _ v1).mono ?_
      rintro e w10 ⟨rfl, hb10⟩
      rw [HOK.out]
      go_wp2
      go_ret
      exact ⟨rfl, gr_trans q9 hb10⟩
    · have HBK := hide (show gotF P = (K, N, S, zs, true) by rw [← HP.out]; exact gotF_some (frame_back hok))
      have HOK := hide hok
      clear hok
      have KB := hide kb
      clear kb
      go_wp2_with fail
      refine (implGetFrame_made _ _ _ P K N S zs true HBK.out _ r2 (by omega)).mono ?_
      rintro e w10 ⟨ao10, cp10, rfl, -, r10, hb10⟩
      have e10 := gr_alloc hb10 (.cells #[.int .i64 K, .int .i64 N, .int .i64 S, .slice ao10 zs.length cp10] 25)
      have kb := kept_block KB.out e10
      have q10 := gr_trans q9 e10
      have v1 := v1.below e10
      have r10 := r10.below (below_one w10 (.cells #[.int .i64 K, .int .i64 N, .int .i64 S, .slice ao10 zs.length cp10] 25))
      have kx := block_last w10 (.cells #[.int .i64 K, .int .i64 N, .int .i64 S, .slice ao10 zs.length cp10] 25)
      obtain ⟨⟨x0, x1, x2, x3⟩, -⟩ := cells4 kb
      obtain ⟨⟨y0, y1, y2, y3⟩, -⟩ := cells4 kx
      have KB2 := hide kb
      have HSS := hide (sameF_self K N S zs)
      clear hb10 e10 q9 KB r2 HBK kb kx
      go_wp2_with fail
      generalize w10.alloc (.cells #[.int .i64 K, .int .i64 N, .int .i64 S, .slice ao10 zs.length cp10] 25) = w10' at *
      refine (implSameFrame_any K N S _ _ _ zs K N S _ _ _ zs _ r10 v1).mono ?_
      rintro e w11 ⟨rfl, hb11⟩
      rw [HSS.out]
      have kb := kept_block KB2.out hb11
      have q11 := gr_trans q10 hb11
      have v1 := v1.below hb11
      clear x0 x1 x2 x3 y0 y1 y2 y3 hb11 q10 KB2 r10 HSS
      obtain ⟨⟨x0, x1, x2, x3⟩, -⟩ := cells4 kb
      go_wp2_with fail
      refine (implFrameOk_any K N S _ _ _ zs _ v1).mono ?_
      rintro e w12 ⟨rfl, hb12⟩
      rw [HOK.out]
      go_wp2
      go_ret
      exact ⟨rfl, gr_trans q11 hb12⟩
  · have hgs : ∃ y, getF zs3 = some y ∧ y = ⟨K3, N3, S3, O3⟩ := by
      cases e : getF zs3 with
      | none => rw [gotF_none e] at hG; cases hG
      | some y => rw [gotF_some e] at hG; cases hG; exact ⟨_, rfl, rfl⟩
    obtain ⟨y, hgy, rfl⟩ := hgs
    obtain ⟨hoky, hput, -⟩ := frame_read r3.byte hgy
    have HOKY : Hid (okF K3 N3 S3 O3.length = true) := hide hoky
    have HPUT : Hid (putF K3 N3 S3 O3 = zs3) := hide hput
    clear hG hgy hoky hput
    obtain ⟨⟨z0', z1, z2, z3⟩, -⟩ := cells4 KY.out
    go_wp2_with fail
    generalize w7.alloc (.cells #[.int .i64 K6, .int .i64 N6, .int .i64 g, .slice ao7 zs6.length cp7] 25) = w7' at *
    refine (implFrameOk_any K3 N3 S3 _ _ _ O3 _ r4).mono ?_
    rintro e wa ⟨rfl, hba⟩
    rw [HOKY.out]
    have kb := kept_block KB0.out hba
    have ky := kept_block KY.out hba
    have KG1 := hide (kept_block KGG.out hba)
    have KH1 := hide (kept_block KH.out hba)
    have qa := gr_trans q7 hba
    have r2 := r2.below hba
    have v1 := v1.below hba
    have r3 := r3.below hba
    have r4 := r4.below hba
    have r6 := r6.below hba
    have r7 := r7.below hba
    have KB1 := hide kb
    clear z0' z1 z2 z3 hba q7 KB0 KY KGG KH kb
    obtain ⟨⟨z0', z1, z2, z3⟩, -⟩ := cells4 ky
    clear ky
    go_wp2_with fail
    refine (implPutFrame_made K3 N3 S3 _ _ _ O3 zs3 HPUT.out _ r4 (by omega)).mono ?_
    rintro e wb ⟨aob, cpb, rfl, -, rb, hbb⟩
    have KB2 := hide (kept_block KB1.out hbb)
    have KG2 := hide (kept_block KG1.out hbb)
    have KH2 := hide (kept_block KH1.out hbb)
    have qb := gr_trans qa hbb
    have r2 := r2.below hbb
    have v1 := v1.below hbb
    have r3 := r3.below hbb
    have r6 := r6.below hbb
    have r7 := r7.below hbb
    clear z0' z1 z2 z3 hbb qa KB1 KG1 KH1 r4
    go_wp2_with fail
    refine (same_same _ _ _ _ _ _ zs3 _ rb r3).mono ?_
    rintro e wc ⟨rfl, nc, rfl⟩
    have ec : Below wb.heap.size wb (wb.drewN nc) := below_drewN (Below.refl _ _) nc
    have KB3 := hide (kept_block KB2.out ec)
    have kg := kept_block KG2.out ec
    have kh := kept_block KH2.out ec
    have qc := gr_trans qb ec
    have r2 := r2.below ec
    have v1 := v1.below ec
    have r6 := r6.below ec
    have r7 := r7.below ec
    generalize wb.drewN nc = wc at *
    clear ec qb KB2 KG2 KH2 r3 rb
    obtain ⟨⟨x0, x1, x2, x3⟩, -⟩ := cells4 kg
    obtain ⟨⟨y0, y1, y2, y3⟩, -⟩ := cells4 kh
    clear kg kh
    go_wp2_with fail
    refine (same_same _ _ _ _ _ _ zs6 _ r7 r6).mono ?_
    rintro e w8 ⟨rfl, n8, rfl⟩
    have e8 : Below wc.heap.size wc (wc.drewN n8) := below_drewN (Below.refl _ _) n8
    have kb := kept_block KB3.out e8
    have q8 := gr_trans qc e8
    have r2 := r2.below e8
    have v1 := v1.below e8
    generalize wc.drewN n8 = w8 at *
    have KB := hide kb
    clear kb e8 KB3 qc r6 r7 x0 x1 x2 x3 y0 y1 y2 y3
    obtain ⟨⟨x0, x1, x2, x3⟩, -⟩ := cells4 KB.out
    go_wp2_with fail
    refine (specFrameOk_any K N S _ _ _ zs _ v1).mono ?_
    rintro e w9 ⟨rfl, hb9⟩
    have kb := kept_block KB.out hb9
    have q9 := gr_trans q8 hb9
    have r2 := r2.below hb9
    have v1 := v1.below hb9
    clear hb9 q8 x0 x1 x2 x3 KB
    cases hok : okF K N S zs.length
    · have hPz : P = [] := by rw [← HP.out]; unfold putF; rw [hok]; rfl
      subst hPz
      have HOK := hide hok
      clear hok
      obtain ⟨⟨x0, x1, x2, x3⟩, -⟩ := cells4 kb
      clear kb
      go_wp2_with fail
      refine (implFrameOk_any K N S _ _ _ zs _ v1).mono ?_
      rintro e w10 ⟨rfl, hb10⟩
      rw [HOK.out]
      go_wp2
      go_ret
      exact ⟨rfl, gr_trans q9 hb10⟩
    · have HBK := hide (show gotF P = (K, N, S, zs, true) by rw [← HP.out]; exact gotF_some (frame_back hok))
      have HOK := hide hok
      clear hok
      have KB := hide kb
      clear kb
      go_wp2_with fail
      refine (implGetFrame_made _ _ _ P K N S zs true HBK.out _ r2 (by omega)).mono ?_
      rintro e w10 ⟨ao10, cp10, rfl, -, r10, hb10⟩
      have e10 := gr_alloc hb10 (.cells #[.int .i64 K, .int .i64 N, .int .i64 S, .slice ao10 zs.length cp10] 25)
      have kb := kept_block KB.out e10
      have q10 := gr_trans q9 e10
      have v1 := v1.below e10
      have r10 := r10.below (below_one w10 (.cells #[.int .i64 K, .int .i64 N, .int .i64 S, .slice ao10 zs.length cp10] 25))
      have kx := block_last w10 (.cells #[.int .i64 K, .int .i64 N, .int .i64 S, .slice ao10 zs.length cp10] 25)
      obtain ⟨⟨x0, x1, x2, x3⟩, -⟩ := cells4 kb
      obtain ⟨⟨y0, y1, y2, y3⟩, -⟩ := cells4 kx
      have KB2 := hide kb
      have HSS := hide (sameF_self K N S zs)
      clear hb10 e10 q9 KB r2 HBK kb kx
      go_wp2_with fail
      generalize w10.alloc (.cells #[.int .i64 K, .int .i64 N, .int .i64 S, .slice ao10 zs.length cp10] 25) = w10' at *
      refine (implSameFrame_any K N S _ _ _ zs K N S _ _ _ zs _ r10 v1).mono ?_
      rintro e w11 ⟨rfl, hb11⟩
      rw [HSS.out]
      have kb := kept_block KB2.out hb11
      have q11 := gr_trans q10 hb11
      have v1 := v1.below hb11
      clear x0 x1 x2 x3 y0 y1 y2 y3 hb11 q10 KB2 r10 HSS
      obtain ⟨⟨x0, x1, x2, x3⟩, -⟩ := cells4 kb
      go_wp2_with fail
      refine (implFrameOk_any K N S _ _ _ zs _ v1).mono ?_
      rintro e w12 ⟨rfl, hb12⟩
      rw [HOK.out]
      go_wp2
      go_ret
      exact ⟨rfl, gr_trans q11 hb12⟩

theorem fnFrames_own : ownKnob Try.prog.godebug = none := by kernel_rfl
theorem fnFrames_laid : laidOutB Try.prog = true := by kernel_rfl

open Go.ChangeShapes Go.WideShapes Go.ChangeAt in
open Go.ChangeMaps (open_string shut_string) in
set_option maxRecDepth 100000 in
theorem fnFrames_lifted (os : Os) (started : os.Started) (H : Type) (enc : TypeId × Value → H) :
    ReturnsInHanded {} Try.checked os 3 .any (Rows.fnFramesSpec.pre6 enc Try.prog Try.f3 Rows.fnFramesRow.domain false) (Rows.fnFramesSpec.post enc Try.prog Try.f3 false true false false) := by
  refine returnsInHanded_of_change (C := Try.checked) fnFrames_own started (by kernel_rfl) Try.func3
    (ChangeSpec.witness6 (enc := enc) (C := Try.checked) false ⟨#[], #[.slice none 0 0], []⟩ 8 (by kernel_rfl) (by kernel_rfl) (by kernel_rfl) (by kernel_rfl)) ?_
  intro W base args ds gs before hval0 hW hcnd _
  have hval : ∀ (j : Nat) t v, Try.f3.params[j]? = some t → args[j]? = some v → Value.okWide Try.prog W .any base t v := hval0
  have hW' := hW
  obtain ⟨p, q, hA0, hV, rfl, hfz, hnd⟩ := hW
  have hA : DataW.TrodAll enc Try.prog W 0 (fun _ => true) true Try.f3.params.toList args.toList ds p := hA0
  rw [Try.params3] at hA hval
  obtain ⟨v0, vs0, d0, ds0, p0, q0, hargs, rfl, rfl, h0, r0⟩ := trodAll_cons hA
  obtain ⟨rfl, rfl, rfl⟩ := trodAll_nil r0
  obtain rfl : args = #[v0] := by cases args; simp_all
  obtain ⟨rfl, rfl⟩ := trodVars_none hV
  obtain ⟨a0, len0, cap0, rfl⟩ := okWide_slice Try.underlying22 (hval 0 22 v0 rfl rfl)
  have k0 := h0
  have lt0 : ∀ x ∈ p0, x.block < W.heap.size := by obtain ⟨m, hm⟩ := k0; exact DataW.trod_lt m _ _ _ hm
  obtain ⟨z0, w0⟩ : ∃ zs, Row W a0 len0 cap0 zs := by
    obtain ⟨fuel, hf⟩ := h0
    rcases open_ints Try.underlying22 Try.underlying5 (by kernel_rfl) hf with ⟨hcs, _⟩ | ⟨x, l, c, zs, hcs, _, hl, hm, hz, _, hcell, hwz⟩
    · simp [Value.cells] at hcs
      obtain ⟨rfl, rfl, rfl⟩ := hcs
      exact ⟨[], row_nil W⟩
    · simp [Value.cells] at hcs
      obtain ⟨rfl, rfl, rfl⟩ := hcs
      exact ⟨zs.take len0, row_open hl hm (by simpa using hz) hcell hwz⟩
  clear hA0 hval0
  refine (frames_walk a0 len0 cap0 z0 W w0).mono fun e W' ⟨he, bel⟩ => ?_
  subst he
  exact ⟨_, rfl, _, _, _, [], _, [], hW', trodAll_mk1 (shut_bool Try.underlying4 _), (trodAll_cons_mk (Below.trod fnFrames_laid (by kernel_rfl) (of_decide_eq_true (by kernel_rfl)) k0 bel lt0) trodAll_mk0), rfl, bel.frame _, fun h => by cases h⟩

theorem fnFrames_holds : Rows.FnFramesSaid :=
  OpenClaim.holds_of_wide 3 Try.f3 rfl rfl rfl rfl rfl rfl rfl ⟨rfl, rfl, rfl, rfl, rfl⟩ rfl rfl rfl rfl rfl (by kernel_rfl) Try.func3 (by kernel_rfl)
    (of_decide_eq_true (by kernel_rfl)) (by unfold Func.isWrapper; first | (rw [if_pos (by decide +kernel)]; kernel_rfl) | (rw [if_neg (by decide +kernel)]; exact ⟨rfl, rfl⟩))
    (fun os started H enc _ => fnFrames_lifted os started H enc)

#print axioms fnFrames_holds

end Go.Proofs.Ytanonfdgckanhaa
