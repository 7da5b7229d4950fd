/-
  FnExactRound answers true at all arguments: Round answers as the specification; it writes into no argument; its answer owns its memory, behind another call too.
-/
import Derived.Test.YtpgdahenmpkcnaaGreatPAKW
import Derived.Test.YtpgdahenmpkcnaaGreatPAK01
import Derived.Test.YtpgdahenmpkcnaaGreatPAK03
import Derived.Test.YtpgdahenmpkcnaaGreatPAK31
import Derived.Test.YtpgdahenmpkcnaaGreatPAK33
import Derived.WalkKit
import Derived.ProofKit
import Derived.OpenShut
import Derived.ShutString
import Derived.ChangeOld
import Derived.Below
import Derived.Lib.SmallJoins
namespace Go.Proofs.YtpgdahenmpkcnaaGreat
open Go.RowKit

set_option maxRecDepth 100000 in
set_option maxHeartbeats 16000000 in
theorem exactRound_walk (N0 : NV) (w : World) (h0 : NetRow w N0) (g0 : N0.Rng) :
  Calls Tryz.prog 5 #[.agg #[.slice N0.ba N0.bn N0.bc, .slice N0.la N0.ln N0.lc, .slice N0.sa N0.sn N0.sc]] w fun e w' => e = .returned (.bool true) ∧ Below w.heap.size w w' := by
 generalize hwA : w.alloc (Obj.cells #[.slice N0.ba N0.bn N0.bc, .slice N0.la N0.ln N0.lc, .slice N0.sa N0.sn N0.sc] 26) = wA
 have uA : Below w.heap.size w wA := by subst hwA; exact below_one _ _
 have kA : wA.heap[w.heap.size]? = some (.cells #[.slice N0.ba N0.bn N0.bc, .slice N0.la N0.ln N0.lc, .slice N0.sa N0.sn N0.sc] 26) := by rw [← hwA]; exact block_last _ _
 have HZA : Hid (wA.heap.size = w.heap.size + 1) := hide (by rw [← hwA]; simp)
 obtain ⟨x0, x1, x2⟩ := cells3n kA
 by_cases gb : ¬ sizeN N0 ≤ 1048576
 ·go_enter Tryz.func5, Tryz.ntmps5
  go_wp2_with fail
  refine (szNet_any N0 1048576 _ (h0.below uA) g0 (by omega) (by omega)).mono ?_
  rintro e w1 ⟨rfl, hb1⟩
  rw [if_neg (show ¬ sizeN N0 ≤ 1048576 by omega)]
  have HB := hide (gr_trans uA hb1)
  clear x0 x1 x2
  go_wp2
  go_ret
  exact ⟨rfl, HB.out⟩
 have gb : sizeN N0 ≤ 1048576 := by omega
 have gs : ¬ ((1048576 : Int) - sizeN N0 < 0) := by omega
 have HRG : Hid (∀ B ∈ N0.brs, B.Rg) := hide (roundTo_rg g0.b)
 go_enter Tryz.func5, Tryz.ntmps5
 go_wp2_with fail
 refine (szNet_any N0 1048576 _ (h0.below uA) g0 (by omega) (by omega)).mono ?_
 rintro e w1 ⟨rfl, hb1⟩
 rw [if_pos gb]
 have kA := kept_block kA hb1
 have u1 := gr_trans uA hb1
 have HZ1 : Hid (w.heap.size < w1.heap.size) := hide (by have := hb1.size; have := HZA.out; omega)
 clear hb1 x0 x1 x2
 obtain ⟨x0, x1, x2⟩ := cells3n kA
 have HZ := hide gb
 generalize hSZ : sizeN N0 = SZ at gs
 clear gb hSZ
 go_wp2_with fail
 refine (toNet_own N0 _ (h0.below u1) HZ.out).mono ?_
 rintro e w2 ⟨M2, rfl, o2, s2, z2, hb2⟩
 have hz2 := small_sized o2.row (by rw [z2]; exact HZ.out)
 go_wp2_with fail
 refine (specRound_made M2 _ o2.row hz2.n hz2.l hz2.s hz2.m).mono ?_
 rintro e w4 ⟨M4, rfl, n4, r4, hb4⟩
 generalize hwS : w4.alloc (Obj.cells #[.slice M4.ba M4.bn M4.bc, .slice M4.la M4.ln M4.lc, .slice M4.sa M4.sn M4.sc] 34) = wS
 have bS : Below w4.heap.size w4 wS := by rw [← hwS]; exact below_one _ _
 have kS : wS.heap[w4.heap.size]? = some (.cells #[.slice M4.ba M4.bn M4.bc, .slice M4.la M4.ln M4.lc, .slice M4.sa M4.sn M4.sc] 34) := by rw [← hwS]; exact block_last _ _
 have rS := (n4.below bS).row
 have d := gr_trans (gr_trans hb2 hb4) bS
 have kA := kept_block kA d
 have uS := gr_trans u1 d
 have R4 := hide r4.r
 have HZS : Hid (w.heap.size < wS.heap.size) := hide (by have := d.size; have := HZ1.out; omega)
 clear hb2 hb4 bS n4 o2 hz2 x0 x1 x2 u1 d r4 z2
 obtain ⟨x0, x1, x2⟩ := cells3n kA
 go_wp2_with fail
 refine (toNet_own N0 _ (h0.below uS) HZ.out).mono ?_
 rintro e w6 ⟨M6, rfl, o6, s6, z6, hb6⟩
 generalize hwX : w6.alloc (Obj.cells #[.slice M6.ba M6.bn M6.bc, .slice M6.la M6.ln M6.lc, .slice M6.sa M6.sn M6.sc] 34) = wX
 have bX : Below w6.heap.size w6 wX := by rw [← hwX]; exact below_one _ _
 have kX : wX.heap[w6.heap.size]? = some (.cells #[.slice M6.ba M6.bn M6.bc, .slice M6.la M6.ln M6.lc, .slice M6.sa M6.sn M6.sc] 34) := by rw [← hwX]; exact block_last _ _
 have o6 := o6.below bX
 have pS := gr_trans hb6 bX
 have kA := kept_block kA pS
 have uX := gr_trans uS pS
 have hz6 := small_sized o6.row (by rw [z6]; exact HZ.out)
 have HF6 := hide (net_fits o6.row (by rw [z6]; exact HZ.out))
 have HS6 : Hid (wS.heap.size ≤ wS.heap.size) := hide (Nat.le_refl _)
 have HU6 : Hid (w.heap.size ≤ wS.heap.size) := hide uS.size
 have HU7 : Hid (w.heap.size < wS.heap.size) := HZS
 have HX6 : Hid (∀ b ∈ M6.blksA, b < wX.heap.size) := hide (fun b hb => (o6.blk b hb).2)
 clear hb6 bX x0 x1 x2 z6
 generalize hXX : w6.heap.size = X at *
 obtain ⟨y0, y1, y2⟩ := cells3n kX
 go_wp2_with fail
 refine (implRound_made M6 _ o6.row hz6.n hz6.l hz6.s hz6.m (by rw [show M6.brs = N0.brs from s6.b]; exact HRG.out)).mono ?_
 rintro e w8 ⟨M8, rfl, n8, r8, hb8⟩
 generalize hwG : w8.alloc (Obj.cells #[.slice M8.ba M8.bn M8.bc, .slice M8.la M8.ln M8.lc, .slice M8.sa M8.sn M8.sc] 34) = wG
 have bG : Below w8.heap.size w8 wG := by rw [← hwG]; exact below_one _ _
 have kG : wG.heap[w8.heap.size]? = some (.cells #[.slice M8.ba M8.bn M8.bc, .slice M8.la M8.ln M8.lc, .slice M8.sa M8.sn M8.sc] 34) := by rw [← hwG]; exact block_last _ _
 have tG := n8.below bG
 have d := gr_trans hb8 bG
 have HZ8 : Hid (wS.heap.size ≤ wX.heap.size) := hide pS.size
 have HZ9 : Hid (w.heap.size ≤ wX.heap.size) := hide uX.size
 have HSM8 : Hid (M8.Same M4) := hide (t_same (roundR_one (by have := r8.r; rwa [same_t s6] at this) (by have := R4.out; rwa [same_t s2] at this)))
 have HT : Hid M8.Fits := hide (fits_of (N := N0) tG.row h0 (by have := roundR_fit r8.r; rwa [same_t s6] at this) HZ.out)
 have pS := gr_trans pS d
 have uG := gr_trans uX d
 have kA := kept_block kA d
 have kX := kept_block kX d
 have o6 := o6.below d
 clear hb8 bG d n8 r8 y0 y1 y2 uX hz6
 obtain ⟨z0, z1, z2⟩ := cells3n kG
 obtain ⟨c0, c1, c2⟩ := cells3n (kept_block kS pS)
 go_wp2_with fail
 refine (eqNet_same M8 M4 _ tG.row (rS.below pS) HSM8.out).mono ?_
 rintro e w9 ⟨rfl, hb⟩
 have pS := gr_trans pS hb
 have tG := tG.below hb
 have kG := kept_block kG hb
 have kX := kept_block kX hb
 have kA := kept_block kA hb
 have o6 := o6.below hb
 have uG := gr_trans uG hb
 clear hb z0 z1 z2 c0 c1 c2
 have vv : Below w9.heap.size w9 w9.drew := gr_drew (Below.refl _ _)
 go_upto_region 10 with fail
 refine wp_region_held_drew (S := (fun W => (W.cell? ⟨w.heap.size, 0, none⟩ = some (.slice N0.ba N0.bn N0.bc) ∧ W.cell? ⟨w.heap.size, 1, none⟩ = some (.slice N0.la N0.ln N0.lc) ∧ W.cell? ⟨w.heap.size, 2, none⟩ = some (.slice N0.sa N0.sn N0.sc)) ∧ (W.cell? ⟨X, 0, none⟩ = some (.slice M6.ba M6.bn M6.bc) ∧ W.cell? ⟨X, 1, none⟩ = some (.slice M6.la M6.ln M6.lc) ∧ W.cell? ⟨X, 2, none⟩ = some (.slice M6.sa M6.sn M6.sc)))) (by kernel_rfl) (⟨cells3n (kept_block kA vv), cells3n (kept_block kX vv)⟩) (fun hHeld => ?_)
 refine kK 0 ⟨some 27, .load 34 (.tmp 5), 34, "exact.go:4468", #[], none⟩ ?_
 refine kK 1 ⟨some 28, .load 26 (.tmp 1), 26, "exact.go:4468", #[], none⟩ ?_
 refine kR 2 ⟨some 29, .call ⟨.value (.func 9), #[.tmp 28], #[26]⟩, 34, "exact.go:4468", #[⟨1, .data⟩], none⟩ (fun K hK => ?_)
 go_simp
 refine (toNet_own N0 _ (h0.below (gr_trans uG vv)) HZ.out).mono ?_
 rintro r wz ⟨M7, rfl, o7, s7, z7, hbz⟩
 have vv := gr_trans vv hbz
 go_wp2_with fail
 refine hK.out _ _ (⟨cells3n (kept_block kA vv), cells3n (kept_block kX vv)⟩) (fun hHeld => ?_)
 clear hK K
 try simp only [Act.put, lA, lB, lC]
 refine kR 3 ⟨some 30, .call ⟨.value (.func 12), #[.tmp 27, .tmp 29], #[34, 34]⟩, 4, "exact.go:4468", #[⟨0, .data⟩, ⟨2, .data⟩, ⟨2, .chain⟩], none⟩ (fun K hK => ?_)
 go_simp
 refine (eqNet_same M6 M7 _ (o6.row.below vv) o7.row ⟨s6.b.trans s7.b.symm, s6.l.trans s7.l.symm, s6.s.trans s7.s.symm⟩).mono ?_
 rintro r wy ⟨rfl, hby⟩
 have vv := gr_trans vv hby
 go_wp2_with fail
 refine hK.out _ _ (⟨cells3n (kept_block kA vv), cells3n (kept_block kX vv)⟩) (fun hHeld => ?_)
 clear hK K
 try simp only [Act.put, lA, lB, lC]
 refine kK 4 ⟨some 31, .unOp .not 4 (.tmp 30), 4, "exact.go:4468", #[⟨3, .data⟩], none⟩ ?_
 refine wpAnyH_done (by kernel_rfl) ?_ _
 have pS := gr_trans pS vv
 have tG := tG.below vv
 have kG := kept_block kG vv
 have kX := kept_block kX vv
 have kA := kept_block kA vv
 have o6 := o6.below vv
 have uG := gr_trans uG vv
 obtain ⟨w11, hw11⟩ : ∃ u, u = wy := ⟨_, rfl⟩
 subst hw11
 clear hHeld vv hbz hby o7 s7 z7
 obtain ⟨x0, x1, x2⟩ := cells3n kX
 go_wp2_with fail
 refine (markNet_big _ M6 _ o6 HF6.out).mono ?_
 rintro e w12 ⟨rfl, oM6, O⟩
 have tG := tG.only O (fun b hb hc => by have h1 := (tG.blk b hb).1; have h2 := HX6.out b hc; omega)
 have kG := O.kept kG (o6.box_apart kG)
 have pS := pS.trans (O.below pS.size (fun b hb => Nat.le_trans HS6.out (o6.blk b hb).1))
 have uG := uG.trans (O.below uG.size (fun b hb => Nat.le_trans HU6.out (o6.blk b hb).1))
 have kA := O.kept kA (fun hc => by have h1 := (o6.blk _ hc).1; have h2 := HU7.out; omega)
 have HE6 : Hid (0 ≤ endM M6) := hide (by unfold endM; have := endVs_up M6.bs 1; omega)
 clear x0 x1 x2 o6 oM6 O kX
 generalize hE6 : endM M6 = E6 at *
 have j0 : ¬ (E6 < 0) := by have := HE6.out; omega
 obtain ⟨z0, z1, z2⟩ := cells3n kG
 obtain ⟨s0, s1, s2⟩ := cells3n (kept_block kS pS)
 go_wp2_with fail
 refine (eqNet_same M8 M4 _ tG.row (rS.below pS) HSM8.out).mono ?_
 rintro e w16 ⟨rfl, hb⟩
 have pS := gr_trans pS hb
 have tG := tG.below hb
 have kG := kept_block kG hb
 have uG := gr_trans uG hb
 have kA := kept_block kA hb
 clear hb j0 z0 z1 z2 s0 s1 s2
 obtain ⟨z0, z1, z2⟩ := cells3n kG
 go_wp2_with fail
 refine (markNet_big _ M8 _ tG HT.out).mono ?_
 rintro e w17 ⟨rfl, tM, O⟩
 have pS := pS.trans (O.below pS.size (fun b hb => Nat.le_trans HZ8.out (tG.blk b hb).1))
 have uG := uG.trans (O.below uG.size (fun b hb => Nat.le_trans HZ9.out (tG.blk b hb).1))
 have kA := O.kept kA (fun hc => by have h1 := (tG.blk _ hc).1; have h2 := HZ8.out; have h3 := HU7.out; omega)
 have kG := O.kept kG (tG.box_apart kG)
 clear tG O z0 z1 z2
 obtain ⟨z0, z1, z2⟩ := cells3n kG
 go_wp2_with fail
 refine (heldNet_big _ M8 _ tM HT.out).mono ?_
 rintro e w18 ⟨rfl, hb⟩
 have pS := gr_trans pS hb
 have tM := tM.below hb
 have kG := kept_block kG hb
 have uG := gr_trans uG hb
 have kA := kept_block kA hb
 clear hb z0 z1 z2
 have HE : Hid (0 ≤ endM M8) := hide (by unfold endM; have := endVs_up M8.bs 1; omega)
 generalize hEN : endM M8 = EN at *
 have j1 : ¬ (EN < 0) := by have := HE.out; omega
 obtain ⟨x0, x1, x2⟩ := cells3n kA
 go_wp2_with fail
 refine (toNet_own N0 _ (h0.below uG) HZ.out).mono ?_
 rintro e w19 ⟨M9, rfl, o9, s9, z9, hb⟩
 have hz9 := small_sized o9.row (by rw [z9]; exact HZ.out)
 have pS := gr_trans pS hb
 have tM := tM.below hb
 have kG := kept_block kG hb
 have uG := gr_trans uG hb
 clear hb z9 x0 x1 x2
 go_wp2_with fail
 refine (implRound_made M9 _ o9.row hz9.n hz9.l hz9.s hz9.m (by rw [show M9.brs = N0.brs from s9.b]; exact HRG.out)).mono ?_
 rintro e w21 ⟨MH, rfl, nH, rH0, hbH⟩
 have HSMH : Hid (MH.Same M4) := hide (t_same (roundR_one (by have := rH0.r; rwa [same_t s9] at this) (by have := R4.out; rwa [same_t s2] at this)))
 generalize hwH : w21.alloc (Obj.cells #[.slice MH.ba MH.bn MH.bc, .slice MH.la MH.ln MH.lc, .slice MH.sa MH.sn MH.sc] 34) = wH
 have bH : Below w21.heap.size w21 wH := by rw [← hwH]; exact below_one _ _
 have kH : wH.heap[w21.heap.size]? = some (.cells #[.slice MH.ba MH.bn MH.bc, .slice MH.la MH.ln MH.lc, .slice MH.sa MH.sn MH.sc] 34) := by rw [← hwH]; exact block_last _ _
 have hb := gr_trans hbH bH
 have rH := (nH.below bH).row
 have pS := gr_trans pS hb
 have tM := tM.below hb
 have kG := kept_block kG hb
 have uG := gr_trans uG hb
 clear hb hbH bH nH o9 hz9 rH0
 obtain ⟨v0, v1, v2⟩ := cells3n kH
 obtain ⟨s0, s1, s2⟩ := cells3n (kept_block kS pS)
 go_wp2_with fail
 refine (eqNet_same MH M4 _ rH (rS.below pS) HSMH.out).mono ?_
 rintro e w22 ⟨rfl, hb⟩
 have pS := gr_trans pS hb
 have tM := tM.below hb
 have kG := kept_block kG hb
 have uG := gr_trans uG hb
 clear hb v0 v1 v2 kH s0 s1 s2
 obtain ⟨z0, z1, z2⟩ := cells3n kG
 go_wp2_with fail
 refine (heldNet_big _ M8 _ tM HT.out).mono ?_
 rintro e w23 ⟨rfl, hb⟩
 rw [hEN]
 have HB := hide (gr_trans uG hb)
 clear hb pS tM kG kS rS uG z0 z1 z2
 go_wp2
 go_ret
 exact ⟨rfl, HB.out⟩

theorem fnExactRound_own : ownKnob Tryz.prog.godebug = none := by kernel_rfl
theorem fnExactRound_laid : laidOutB Tryz.prog = true := by kernel_rfl

open Go.ChangeShapes Go.WideShapes Go.ChangeAt in
open Go.ChangeMaps (open_string shut_string) in
set_option maxRecDepth 100000 in
theorem fnExactRound_lifted (os : Os) (started : os.Started) (H : Type) (enc : TypeId × Value → H) :
  ReturnsInHanded {} Tryz.checked os 5 .any (Rows.fnExactRoundSpec.pre6 enc Tryz.prog Tryz.f5 Rows.fnExactRoundRow.domain false) (Rows.fnExactRoundSpec.post enc Tryz.prog Tryz.f5 false true false false) := by
 refine returnsInHanded_of_change (C := Tryz.checked) fnExactRound_own started (by kernel_rfl) Tryz.func5
  (ChangeSpec.witness6 (enc := enc) (C := Tryz.checked) false ⟨#[], #[.agg #[.slice none 0 0, .slice none 0 0, .slice none 0 0]], []⟩ 8 (by kernel_rfl) (by kernel_rfl) (by kernel_rfl) (by kernel_rfl)) ?_
 intro W base args ds gs before hval0 hW hcnd _
 have hval : ∀ (j : Nat) t v, Tryz.f5.params[j]? = some t → args[j]? = some v → Value.okWide Tryz.prog W .any base t v := hval0
 have hW' := hW
 obtain ⟨p, q, hA0, hV, rfl, hfz, hnd⟩ := hW
 have hA : DataW.TrodAll enc Tryz.prog W 0 (fun _ => true) true Tryz.f5.params.toList args.toList ds p := hA0
 rw [Tryz.params5] at hA hval
 obtain ⟨v0, vs0, d0, ds0, p0, q0, hargs, rfl, rfl, h0, r0⟩ := trodAll_cons hA
 obtain ⟨rfl, rfl, rfl⟩ := trodAll_nil r0
 obtain rfl : args = #[v0] := by cases args; simp_all
 obtain ⟨rfl, rfl⟩ := trodVars_none hV
 have k0 := h0
 have lt0 : ∀ x ∈ p0, x.block < W.heap.size := by obtain ⟨m, hm⟩ := k0; exact DataW.trod_lt m _ _ _ hm
 have bt : BrTypes Tryz.prog 108 9 102 202 123 103 204 106 104 221 63 3 4 _ _ _ _ _ _ _ _ _ _ _ _ _ _ _ _ _ _ _ _ _ _ _ _ _ _ _ _ _ := ⟨Tryz.underlying108, Tryz.underlying9, Tryz.underlying102, Tryz.underlying202, Tryz.underlying123, Tryz.underlying103, Tryz.underlying204, Tryz.underlying106, Tryz.underlying104, Tryz.underlying221, Tryz.underlying63, Tryz.underlying3, Tryz.underlying4, ⟨rfl, rfl⟩, ⟨rfl, rfl⟩, ⟨rfl, rfl⟩, ⟨rfl, rfl⟩, ⟨rfl, rfl⟩, ⟨rfl, rfl⟩, ⟨rfl, rfl⟩, ⟨rfl, rfl⟩, ⟨rfl, rfl⟩, ⟨rfl, rfl⟩, ⟨rfl, rfl⟩, ⟨rfl, rfl⟩, ⟨rfl, rfl⟩, ⟨rfl, rfl⟩, ⟨rfl, rfl⟩, ⟨rfl, rfl⟩, ⟨rfl, rfl⟩, ⟨rfl, rfl⟩, ⟨rfl, rfl⟩, ⟨rfl, rfl⟩, ⟨rfl, rfl⟩, ⟨rfl, rfl⟩, ⟨rfl, rfl⟩, ⟨rfl, rfl⟩, ⟨rfl, rfl⟩, ⟨rfl, rfl⟩, ⟨rfl, rfl⟩, ⟨rfl, rfl⟩, ⟨rfl, rfl⟩, (by kernel_rfl), (by kernel_rfl), (by kernel_rfl), (by kernel_rfl), (by kernel_rfl), (by kernel_rfl), (by kernel_rfl), (by kernel_rfl), (by kernel_rfl), (by kernel_rfl), (by kernel_rfl), (by kernel_rfl), (by kernel_rfl)⟩
 have bl : LkTypes Tryz.prog 23 121 3 _ _ _ _ := ⟨Tryz.underlying23, Tryz.underlying121, Tryz.underlying3, ⟨rfl, rfl⟩, ⟨rfl, rfl⟩, ⟨rfl, rfl⟩, ⟨rfl, rfl⟩, (by kernel_rfl), (by kernel_rfl)⟩
 have bn : NtTypes Tryz.prog 26 22 108 23 24 125 123 3 4 _ _ _ _ _ _ _ _ _ _ _ := ⟨Tryz.underlying26, Tryz.underlying22, Tryz.underlying24, Tryz.underlying125, Tryz.underlying123, Tryz.underlying3, Tryz.underlying4, ⟨rfl, rfl⟩, ⟨rfl, rfl⟩, ⟨rfl, rfl⟩, ⟨rfl, rfl⟩, ⟨rfl, rfl⟩, ⟨rfl, rfl⟩, ⟨rfl, rfl⟩, ⟨rfl, rfl⟩, ⟨rfl, rfl⟩, ⟨rfl, rfl⟩, ⟨rfl, rfl⟩, (by kernel_rfl), (by kernel_rfl), (by kernel_rfl), (by kernel_rfl), (by kernel_rfl), (by kernel_rfl), (by kernel_rfl), (by kernel_rfl)⟩
 obtain ⟨N0, rfl, w0, g0⟩ := open_net bt bl bn (hval 0 26 v0 rfl rfl) h0
 clear hA0 hval0
 refine (exactRound_walk N0 W w0 g0).mono fun e W' ⟨he, bel⟩ => ?_
 subst he
 exact ⟨_, rfl, _, _, _, [], _, [], hW', trodAll_mk1 (shut_bool Tryz.underlying4 _), (trodAll_cons_mk (Below.trod fnExactRound_laid (by kernel_rfl) (of_decide_eq_true (by kernel_rfl)) k0 bel lt0) trodAll_mk0), rfl, bel.frame _, fun h => by cases h⟩

theorem fnExactRound_holds : Rows.FnExactRoundSaid :=
 OpenClaim.holds_of_wide 5 Tryz.f5 rfl rfl rfl rfl rfl rfl rfl ⟨rfl, rfl, rfl, rfl, rfl⟩ rfl rfl rfl rfl rfl (by kernel_rfl) Tryz.func5 (by kernel_rfl)
  (of_decide_eq_true (by kernel_rfl)) (by unfold Func.isWrapper; first | (rw [if_pos (by decide +kernel)]; kernel_rfl) | (rw [if_neg (by decide +kernel)]; exact ⟨rfl, rfl⟩))
  (fun os started H enc _ => fnExactRound_lifted os started H enc)

#print axioms fnExactRound_holds

end Go.Proofs.YtpgdahenmpkcnaaGreat
