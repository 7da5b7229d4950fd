/-
  FnExactUpLinks answers true at all arguments: UpLinks answers as the specification; it writes into no argument; its answer owns its memory, behind another call too.
-/
import Derived.Test.YtnichegfadgpdaaPUKW
import Derived.Test.YtnichegfadgpdaaPUK01
import Derived.Test.YtnichegfadgpdaaPUK02
import Derived.Test.YtnichegfadgpdaaPUK08
import Derived.Test.YtnichegfadgpdaaPUK10
import Derived.Test.YtnichegfadgpdaaPUK11
import Derived.WalkKit
import Derived.ProofKit
import Derived.OpenShut
import Derived.ShutString
import Derived.ChangeOld
import Derived.Below
import Derived.Lib.SmallJoins
namespace Go.Proofs.Ytnichegfadgpdaa
open Go.RowKit

set_option maxRecDepth 100000 in
set_option maxHeartbeats 16000000 in
theorem exactUpLinks_walk (N0 : NV) (w : World) (h0 : NetRow w N0) (g0 : N0.Rng) :
  Calls Try.prog 3 #[.agg #[.slice N0.ba N0.bn N0.bc, .slice N0.la N0.ln N0.lc, .slice N0.sa N0.sn N0.sc]] w fun e w' => e = .returned (.bool true) ∧ Below w.heap.size w w' := by
 generalize hwA : w.alloc (Obj.cells #[.slice N0.ba N0.bn N0.bc, .slice N0.la N0.ln N0.lc, .slice N0.sa N0.sn N0.sc] 26) = wA
 have uA : Below w.heap.size w wA := by subst hwA; exact below_one _ _
 have kA : wA.heap[w.heap.size]? = some (.cells #[.slice N0.ba N0.bn N0.bc, .slice N0.la N0.ln N0.lc, .slice N0.sa N0.sn N0.sc] 26) := by rw [← hwA]; exact block_last _ _
 have HZA : Hid (wA.heap.size = w.heap.size + 1) := hide (by rw [← hwA]; simp)
 obtain ⟨x0, x1, x2⟩ := cells3n kA
 by_cases gb : ¬ sizeN N0 ≤ 1048576
 ·go_enter Try.func3, Try.ntmps3
  go_wp2_with fail
  refine (szNet_any N0 1048576 _ (h0.below uA) g0 (by omega) (by omega)).mono ?_
  rintro e w1 ⟨rfl, hb1⟩
  rw [if_neg (show ¬ sizeN N0 ≤ 1048576 by omega)]
  have HB := hide (gr_trans uA hb1)
  clear x0 x1 x2
  go_wp2
  go_ret
  exact ⟨rfl, HB.out⟩
 have gb : sizeN N0 ≤ 1048576 := by omega
 have gs : ¬ ((1048576 : Int) - sizeN N0 < 0) := by omega
 obtain ⟨LL, hLL⟩ : ∃ l : List Int, l = upTo N0.brs N0.ls N0.ls.length := ⟨_, rfl⟩
 have HN20 : Hid (LL.length ≤ 1048576) := hide (by have := (net_small h0 gb).2.1; have h1 := h0.l.size; rw [hLL]; exact Nat.le_trans (upTo_len _ _ _) (by omega))
 have HI : Hid (I64s LL) := hide (by rw [hLL]; exact upTo_64 _ _ _ (by have := (net_small h0 gb).2.1; have h1 := h0.l.size; omega))
 have HIM : Hid (I64s (marksI 1 LL.length)) := hide (marksI_byte 1 LL.length (by omega) (by omega) (by have := HN20.out; omega))
 have HLL := hide hLL
 clear hLL
 go_enter Try.func3, Try.ntmps3
 go_wp2_with fail
 refine (szNet_any N0 1048576 _ (h0.below uA) g0 (by omega) (by omega)).mono ?_
 rintro e w1 ⟨rfl, hb1⟩
 rw [if_pos gb]
 have kA := kept_block kA hb1
 have u1 := gr_trans uA hb1
 have HZ1 : Hid (w.heap.size < w1.heap.size) := hide (by have := hb1.size; have := HZA.out; omega)
 clear hb1 x0 x1 x2
 obtain ⟨x0, x1, x2⟩ := cells3n kA
 have HZ := hide gb
 generalize hSZ : sizeN N0 = SZ at gs
 clear gb hSZ
 go_wp2_with fail
 refine (toNet_own N0 _ (h0.below u1) HZ.out).mono ?_
 rintro e w2 ⟨M2, rfl, o2, s2, z2, hb2⟩
 go_wp2_with fail
 refine (specUpLinks_l M2 LL _ (o2.row) (by rw [HLL.out, show M2.brs = N0.brs from s2.b, s2.l]) (by have := (net_small h0 HZ.out).2.1; have h1 := h0.l.size; have h2 := (o2.row).l.size; rw [s2.l] at h2; omega)).mono ?_
 rintro e w4 ⟨aS, cS, rfl, sO, hb4⟩
 have d := gr_trans hb2 hb4
 have kA := kept_block kA d
 have uS := gr_trans u1 d
 have HZS : Hid (w.heap.size < w4.heap.size) := hide (by have := d.size; have := HZ1.out; omega)
 have HS4 : Hid (∀ b, (Value.slice aS LL.length cS).ownBlock = some b → b < w4.heap.size) := hide (fun b hb => (sO.lt b hb).2)
 clear hb2 hb4 o2 x0 x1 x2 u1 d z2
 obtain ⟨x0, x1, x2⟩ := cells3n kA
 go_wp2_with fail
 refine (toNet_own N0 _ (h0.below uS) HZ.out).mono ?_
 rintro e w6 ⟨M6, rfl, o6, s6, z6, hb6⟩
 generalize hwX : w6.alloc (Obj.cells #[.slice M6.ba M6.bn M6.bc, .slice M6.la M6.ln M6.lc, .slice M6.sa M6.sn M6.sc] 34) = wX
 have bX : Below w6.heap.size w6 wX := by rw [← hwX]; exact below_one _ _
 have kX : wX.heap[w6.heap.size]? = some (.cells #[.slice M6.ba M6.bn M6.bc, .slice M6.la M6.ln M6.lc, .slice M6.sa M6.sn M6.sc] 34) := by rw [← hwX]; exact block_last _ _
 have o6 := o6.below bX
 have pS := gr_trans hb6 bX
 have kA := kept_block kA pS
 have sO := own5_below sO pS
 have uX := gr_trans uS pS
 have HF6 := hide (net_fits o6.row (by rw [z6]; exact HZ.out))
 have HU6 : Hid (w.heap.size ≤ w4.heap.size) := hide uS.size
 have HU7 : Hid (w.heap.size < w4.heap.size) := HZS
 have HU8 : Hid (w.heap.size < wX.heap.size) := hide (by have := pS.size; have := HZS.out; omega)
 have HU9 : Hid (w.heap.size ≤ wX.heap.size) := hide uX.size
 have HX6 : Hid (∀ b ∈ M6.blksA, b < wX.heap.size) := hide (fun b hb => (o6.blk b hb).2)
 have HP4 : Hid (w4.heap.size ≤ wX.heap.size) := hide pS.size
 clear hb6 bX x0 x1 x2 z6 pS
 generalize hXX : w6.heap.size = X at *
 obtain ⟨y0, y1, y2⟩ := cells3n kX
 go_wp2_with fail
 refine (implUpLinks_l M6 LL _ (o6.row) (by rw [HLL.out, show M6.brs = N0.brs from s6.b, s6.l]) (by have := (net_small h0 HZ.out).2.1; have h1 := h0.l.size; have h2 := (o6.row).l.size; rw [s6.l] at h2; omega)).mono ?_
 rintro e w8 ⟨aG, cG, rfl, gO, hb8⟩
 have HNE : Hid (∀ b, (Value.slice aS LL.length cS).ownBlock = some b → (Value.slice aG LL.length cG).ownBlock ≠ some b) := hide (fun b hb hc => by have h1 := (gO.lt b hc).1; have h2 := HS4.out b hb; have h3 := HP4.out; omega)
 have sO := own5_below sO hb8
 have uG := gr_trans uX hb8
 have kA := kept_block kA hb8
 have kX := kept_block kX hb8
 have o6 := o6.below hb8
 clear hb8 y0 y1 y2 uX
 go_wp2_with fail
 refine (eqI_same aG LL.length cG aS LL.length cS LL _ (irow_own gO HI.out) (irow_own sO HI.out)).mono ?_
 rintro e w9 ⟨rfl, n9, rfl⟩
 have d9 := below_drewN (Below.refl w8.heap.size w8) n9
 generalize w8.drewN n9 = w9 at *
 have sO := own5_below sO d9
 have gO := own5_below gO d9
 have uG := gr_trans uG d9
 have kA := kept_block kA d9
 have kX := kept_block kX d9
 have o6 := o6.below d9
 clear d9
 have vv : Below w9.heap.size w9 w9.drew := gr_drew (Below.refl _ _)
 go_wp2_with fail
 refine wp_region_held_drew (S := (fun W => (W.cell? ⟨w.heap.size, 0, none⟩ = some (.slice N0.ba N0.bn N0.bc) ∧ W.cell? ⟨w.heap.size, 1, none⟩ = some (.slice N0.la N0.ln N0.lc) ∧ W.cell? ⟨w.heap.size, 2, none⟩ = some (.slice N0.sa N0.sn N0.sc)) ∧ (W.cell? ⟨X, 0, none⟩ = some (.slice M6.ba M6.bn M6.bc) ∧ W.cell? ⟨X, 1, none⟩ = some (.slice M6.la M6.ln M6.lc) ∧ W.cell? ⟨X, 2, none⟩ = some (.slice M6.sa M6.sn M6.sc)))) (by kernel_rfl) (⟨cells3n (kept_block kA vv), cells3n (kept_block kX vv)⟩) (fun hHeld => ?_)
 refine kK 0 ⟨some 27, .load 34 (.tmp 5), 34, "exact.go:4705", #[], none⟩ ?_
 refine kK 1 ⟨some 28, .load 26 (.tmp 1), 26, "exact.go:4705", #[], none⟩ ?_
 refine kR 2 ⟨some 29, .call ⟨.value (.func 7), #[.tmp 28], #[26]⟩, 34, "exact.go:4705", #[⟨1, .data⟩], none⟩ (fun K hK => ?_)
 go_simp
 refine (toNet_own N0 _ (h0.below (gr_trans uG vv)) HZ.out).mono ?_
 rintro r wz ⟨M7, rfl, o7, s7, z7, hbz⟩
 have vv := gr_trans vv hbz
 go_wp2_with fail
 refine hK.out _ _ (⟨cells3n (kept_block kA vv), cells3n (kept_block kX vv)⟩) (fun hHeld => ?_)
 clear hK K
 try simp only [Act.put, lA, lB, lC]
 refine kR 3 ⟨some 30, .call ⟨.value (.func 10), #[.tmp 27, .tmp 29], #[34, 34]⟩, 4, "exact.go:4705", #[⟨0, .data⟩, ⟨2, .data⟩, ⟨2, .chain⟩], none⟩ (fun K hK => ?_)
 go_simp
 refine (eqNet_same M6 M7 _ (o6.row.below vv) o7.row ⟨s6.b.trans s7.b.symm, s6.l.trans s7.l.symm, s6.s.trans s7.s.symm⟩).mono ?_
 rintro r wy ⟨rfl, hby⟩
 have vv := gr_trans vv hby
 go_wp2_with fail
 refine hK.out _ _ (⟨cells3n (kept_block kA vv), cells3n (kept_block kX vv)⟩) (fun hHeld => ?_)
 clear hK K
 try simp only [Act.put, lA, lB, lC]
 refine kK 4 ⟨some 31, .unOp .not 4 (.tmp 30), 4, "exact.go:4705", #[⟨3, .data⟩], none⟩ ?_
 refine wpAnyH_done (by kernel_rfl) ?_ _
 have sO := own5_below sO vv
 have gO := own5_below gO vv
 have kX := kept_block kX vv
 have kA := kept_block kA vv
 have o6 := o6.below vv
 have uG := gr_trans uG vv
 obtain ⟨w11, hw11⟩ : ∃ u, u = wy := ⟨_, rfl⟩
 subst hw11
 clear hHeld vv hbz hby o7 s7 z7
 obtain ⟨x0, x1, x2⟩ := cells3n kX
 go_wp2_with fail
 refine (markNet_big _ M6 _ o6 HF6.out).mono ?_
 rintro e w12 ⟨rfl, oM6, O⟩
 have gO := O.own gO (fun b hb hc => by have h1 := (gO.lt b hb).1; have h2 := HX6.out b hc; omega)
 have sO := O.own sO (fun b hb hc => by have h1 := HS4.out b hb; have h2 := (o6.blk b hc).1; omega)
 have uG := uG.trans (O.below uG.size (fun b hb => Nat.le_trans HU6.out (o6.blk b hb).1))
 have kA := O.kept kA (fun hc => by have h1 := (o6.blk _ hc).1; have h2 := HU7.out; omega)
 have HE6 : Hid (0 ≤ endM M6) := hide (by unfold endM; have := endVs_up M6.bs 1; omega)
 clear x0 x1 x2 o6 oM6 O kX
 generalize hE6 : endM M6 = E6 at *
 have j0 : ¬ (E6 < 0) := by have := HE6.out; omega
 go_wp2_with fail
 refine (eqI_same aG LL.length cG aS LL.length cS LL _ (irow_own gO HI.out) (irow_own sO HI.out)).mono ?_
 rintro e w16 ⟨rfl, n16, rfl⟩
 have d16 := below_drewN (Below.refl w12.heap.size w12) n16
 generalize w12.drewN n16 = w16 at *
 have sO := own5_below sO d16
 have gO := own5_below gO d16
 have uG := gr_trans uG d16
 have kA := kept_block kA d16
 clear d16 j0
 go_wp2_with fail
 refine (markI_grown _ aG LL.length cG LL 1 _ gO (by have := HN20.out; omega) (by omega) (by omega)).mono ?_
 rintro e w17 ⟨rfl, gM, hg17⟩
 have sO := (Only.of_grown hg17).own sO (fun b hb hc => HNE.out b hb (mem_blkL.2 hc))
 have uG := uG.trans ((Only.of_grown hg17).below uG.size (fun b hb => Nat.le_trans HU9.out (gO.lt b (mem_blkL.2 hb)).1))
 have kA := (Only.of_grown hg17).kept kA (fun hc => by have h1 := (gO.lt _ (mem_blkL.2 hc)).1; have h2 := HU8.out; omega)
 clear gO hg17
 have j1 : ¬ ((1 : Int) + (LL.length : Int) < 0) := by omega
 go_wp2_with fail
 refine (heldI_any aG LL.length cG 1 _ (irow_own gM HIM.out) (by have := HN20.out; omega) (by omega) (by omega)).mono ?_
 rintro e w18 ⟨rfl, e18⟩
 obtain rfl := e18.symm
 obtain ⟨x0, x1, x2⟩ := cells3n kA
 go_wp2_with fail
 refine (toNet_own N0 _ (h0.below uG) HZ.out).mono ?_
 rintro e w19 ⟨M9, rfl, o9, s9, z9, hb⟩
 have sO := own5_below sO hb
 have gM := own5_below gM hb
 have uG := gr_trans uG hb
 clear hb z9 x0 x1 x2
 go_wp2_with fail
 refine (implUpLinks_l M9 LL _ (o9.row) (by rw [HLL.out, show M9.brs = N0.brs from s9.b, s9.l]) (by have := (net_small h0 HZ.out).2.1; have h1 := h0.l.size; have h2 := (o9.row).l.size; rw [s9.l] at h2; omega)).mono ?_
 rintro e w21 ⟨aH, cH, rfl, hO, hb⟩
 have sO := own5_below sO hb
 have gM := own5_below gM hb
 have uG := gr_trans uG hb
 clear hb o9
 go_wp2_with fail
 refine (eqI_same aH LL.length cH aS LL.length cS LL _ (irow_own hO HI.out) (irow_own sO HI.out)).mono ?_
 rintro e w22 ⟨rfl, n22, rfl⟩
 have d22 := below_drewN (Below.refl w21.heap.size w21) n22
 generalize w21.drewN n22 = w22 at *
 have gM := own5_below gM d22
 have uG := gr_trans uG d22
 clear d22 sO hO
 go_wp2_with fail
 refine (heldI_any aG LL.length cG 1 _ (irow_own gM HIM.out) (by have := HN20.out; omega) (by omega) (by omega)).mono ?_
 rintro e w23 ⟨rfl, e23⟩
 obtain rfl := e23.symm
 have HB := hide uG
 clear uG gM kA
 go_wp2
 go_ret
 exact ⟨rfl, HB.out⟩

theorem fnExactUpLinks_own : ownKnob Try.prog.godebug = none := by kernel_rfl
theorem fnExactUpLinks_laid : laidOutB Try.prog = true := by kernel_rfl

open Go.ChangeShapes Go.WideShapes Go.ChangeAt in
open Go.ChangeMaps (open_string shut_string) in
set_option maxRecDepth 100000 in
theorem fnExactUpLinks_lifted (os : Os) (started : os.Started) (H : Type) (enc : TypeId × Value → H) :
  ReturnsInHanded {} Try.checked os 3 .any (Rows.fnExactUpLinksSpec.pre6 enc Try.prog Try.f3 Rows.fnExactUpLinksRow.domain false) (Rows.fnExactUpLinksSpec.post enc Try.prog Try.f3 false true false false) := by
 refine returnsInHanded_of_change (C := Try.checked) fnExactUpLinks_own started (by kernel_rfl) Try.func3
  (ChangeSpec.witness6 (enc := enc) (C := Try.checked) false ⟨#[], #[.agg #[.slice none 0 0, .slice none 0 0, .slice none 0 0]], []⟩ 8 (by kernel_rfl) (by kernel_rfl) (by kernel_rfl) (by kernel_rfl)) ?_
 intro W base args ds gs before hval0 hW hcnd _
 have hval : ∀ (j : Nat) t v, Try.f3.params[j]? = some t → args[j]? = some v → Value.okWide Try.prog W .any base t v := hval0
 have hW' := hW
 obtain ⟨p, q, hA0, hV, rfl, hfz, hnd⟩ := hW
 have hA : DataW.TrodAll enc Try.prog W 0 (fun _ => true) true Try.f3.params.toList args.toList ds p := hA0
 rw [Try.params3] at hA hval
 obtain ⟨v0, vs0, d0, ds0, p0, q0, hargs, rfl, rfl, h0, r0⟩ := trodAll_cons hA
 obtain ⟨rfl, rfl, rfl⟩ := trodAll_nil r0
 obtain rfl : args = #[v0] := by cases args; simp_all
 obtain ⟨rfl, rfl⟩ := trodVars_none hV
 have k0 := h0
 have lt0 : ∀ x ∈ p0, x.block < W.heap.size := by obtain ⟨m, hm⟩ := k0; exact DataW.trod_lt m _ _ _ hm
 have bt : BrTypes Try.prog 72 9 66 141 85 67 143 70 68 153 28 3 4 _ _ _ _ _ _ _ _ _ _ _ _ _ _ _ _ _ _ _ _ _ _ _ _ _ _ _ _ _ := ⟨Try.underlying72, Try.underlying9, Try.underlying66, Try.underlying141, Try.underlying85, Try.underlying67, Try.underlying143, Try.underlying70, Try.underlying68, Try.underlying153, Try.underlying28, Try.underlying3, Try.underlying4, ⟨rfl, rfl⟩, ⟨rfl, rfl⟩, ⟨rfl, rfl⟩, ⟨rfl, rfl⟩, ⟨rfl, rfl⟩, ⟨rfl, rfl⟩, ⟨rfl, rfl⟩, ⟨rfl, rfl⟩, ⟨rfl, rfl⟩, ⟨rfl, rfl⟩, ⟨rfl, rfl⟩, ⟨rfl, rfl⟩, ⟨rfl, rfl⟩, ⟨rfl, rfl⟩, ⟨rfl, rfl⟩, ⟨rfl, rfl⟩, ⟨rfl, rfl⟩, ⟨rfl, rfl⟩, ⟨rfl, rfl⟩, ⟨rfl, rfl⟩, ⟨rfl, rfl⟩, ⟨rfl, rfl⟩, ⟨rfl, rfl⟩, ⟨rfl, rfl⟩, ⟨rfl, rfl⟩, ⟨rfl, rfl⟩, ⟨rfl, rfl⟩, ⟨rfl, rfl⟩, ⟨rfl, rfl⟩, (by kernel_rfl), (by kernel_rfl), (by kernel_rfl), (by kernel_rfl), (by kernel_rfl), (by kernel_rfl), (by kernel_rfl), (by kernel_rfl), (by kernel_rfl), (by kernel_rfl), (by kernel_rfl), (by kernel_rfl), (by kernel_rfl)⟩
 have bl : LkTypes Try.prog 23 79 3 _ _ _ _ := ⟨Try.underlying23, Try.underlying79, Try.underlying3, ⟨rfl, rfl⟩, ⟨rfl, rfl⟩, ⟨rfl, rfl⟩, ⟨rfl, rfl⟩, (by kernel_rfl), (by kernel_rfl)⟩
 have bn : NtTypes Try.prog 26 22 72 23 24 87 85 3 4 _ _ _ _ _ _ _ _ _ _ _ := ⟨Try.underlying26, Try.underlying22, Try.underlying24, Try.underlying87, Try.underlying85, Try.underlying3, Try.underlying4, ⟨rfl, rfl⟩, ⟨rfl, rfl⟩, ⟨rfl, rfl⟩, ⟨rfl, rfl⟩, ⟨rfl, rfl⟩, ⟨rfl, rfl⟩, ⟨rfl, rfl⟩, ⟨rfl, rfl⟩, ⟨rfl, rfl⟩, ⟨rfl, rfl⟩, ⟨rfl, rfl⟩, (by kernel_rfl), (by kernel_rfl), (by kernel_rfl), (by kernel_rfl), (by kernel_rfl), (by kernel_rfl), (by kernel_rfl), (by kernel_rfl)⟩
 obtain ⟨N0, rfl, w0, g0⟩ := open_net bt bl bn (hval 0 26 v0 rfl rfl) h0
 clear hA0 hval0
 refine (exactUpLinks_walk N0 W w0 g0).mono fun e W' ⟨he, bel⟩ => ?_
 subst he
 exact ⟨_, rfl, _, _, _, [], _, [], hW', trodAll_mk1 (shut_bool Try.underlying4 _), (trodAll_cons_mk (Below.trod fnExactUpLinks_laid (by kernel_rfl) (of_decide_eq_true (by kernel_rfl)) k0 bel lt0) trodAll_mk0), rfl, bel.frame _, fun h => by cases h⟩

theorem fnExactUpLinks_holds : Rows.FnExactUpLinksSaid :=
 OpenClaim.holds_of_wide 3 Try.f3 rfl rfl rfl rfl rfl rfl rfl ⟨rfl, rfl, rfl, rfl, rfl⟩ rfl rfl rfl rfl rfl (by kernel_rfl) Try.func3 (by kernel_rfl)
  (of_decide_eq_true (by kernel_rfl)) (by unfold Func.isWrapper; first | (rw [if_pos (by decide +kernel)]; kernel_rfl) | (rw [if_neg (by decide +kernel)]; exact ⟨rfl, rfl⟩))
  (fun os started H enc _ => fnExactUpLinks_lifted os started H enc)

#print axioms fnExactUpLinks_holds

end Go.Proofs.Ytnichegfadgpdaa
