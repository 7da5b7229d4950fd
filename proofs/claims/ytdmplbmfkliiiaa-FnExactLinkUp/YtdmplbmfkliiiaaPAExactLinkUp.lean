/-
  FnExactLinkUp answers true at all arguments: LinkUp answers as the specification; it writes into no argument.
-/
import Derived.Test.YtdmplbmfkliiiaaPAKW
import Derived.Test.YtdmplbmfkliiiaaPAK01
import Derived.Test.YtdmplbmfkliiiaaPAK12
import Derived.Test.YtdmplbmfkliiiaaPAK16
import Derived.WalkKit
import Derived.ProofKit
import Derived.OpenShut
import Derived.ShutString
import Derived.ChangeOld
import Derived.Below
import Derived.Lib.SmallJoins
namespace Go.Proofs.Ytdmplbmfkliiiaa
open Go.RowKit

set_option maxRecDepth 100000 in
set_option maxHeartbeats 8000000 in
theorem exactLinkUp_walk (N0 : NV) (k1 : Int) (w : World) (h0 : NetRow w N0) (g0 : N0.Rng) (_w1 : (Lit.int .i64 k1).wf = true) :
  Calls Try.prog 5 #[.agg #[.slice N0.ba N0.bn N0.bc, .slice N0.la N0.ln N0.lc, .slice N0.sa N0.sn N0.sc], .int .i64 k1] w fun e w' => e = .returned (.bool true) ∧ Below w.heap.size w w' := by
 generalize hwA : w.alloc (Obj.cells #[.slice N0.ba N0.bn N0.bc, .slice N0.la N0.ln N0.lc, .slice N0.sa N0.sn N0.sc] 26) = wA
 have uA : Below w.heap.size w wA := by subst hwA; exact below_one _ _
 have kA : wA.heap[w.heap.size]? = some (.cells #[.slice N0.ba N0.bn N0.bc, .slice N0.la N0.ln N0.lc, .slice N0.sa N0.sn N0.sc] 26) := by rw [← hwA]; exact block_last _ _
 obtain ⟨x0, x1, x2⟩ := cells3n kA
 by_cases gb : ¬ sizeN N0 ≤ 1048576
 ·go_enter Try.func5, Try.ntmps5
  go_wp2_with fail
  refine (szNet_any N0 1048576 _ (h0.below uA) g0 (by omega) (by omega)).mono ?_
  rintro e w1 ⟨rfl, hb1⟩
  rw [if_neg (show ¬ sizeN N0 ≤ 1048576 by omega)]
  have HB := hide (gr_trans uA hb1)
  clear x0 x1 x2
  go_wp2
  go_ret
  exact ⟨rfl, HB.out⟩
 have gb : sizeN N0 ≤ 1048576 := by omega
 have gs : ¬ ((1048576 : Int) - sizeN N0 < 0) := by omega
 go_enter Try.func5, Try.ntmps5
 go_wp2_with fail
 refine (szNet_any N0 1048576 _ (h0.below uA) g0 (by omega) (by omega)).mono ?_
 rintro e w1 ⟨rfl, hb1⟩
 rw [if_pos gb]
 have kA := kept_block kA hb1
 have u1 := gr_trans uA hb1
 clear hb1 x0 x1 x2
 obtain ⟨x0, x1, x2⟩ := cells3n kA
 have HZ := hide gb
 generalize hSZ : sizeN N0 = SZ at gs
 clear gb hSZ
 go_wp2_with fail
 refine (toNet_made N0 _ (h0.below u1) HZ.out).mono ?_
 rintro e w2 ⟨M2, rfl, r2, s2, z2, hb2⟩
 have gb := HZ.out
 go_wp2_with fail
 refine (specLinkUp_any M2 k1 _ r2).mono ?_
 rintro e w3 ⟨rfl, hb3⟩
 rw [s2.l, show M2.brs = N0.brs from s2.b]
 generalize hO : linkUp N0.brs N0.ls k1 = o1
 have HO := hide hO
 clear hO
 have d3 := gr_trans hb2 hb3
 have kA := kept_block kA d3
 have u3 := gr_trans u1 d3
 clear hb2 hb3 x0 x1 x2 u1 d3 gb
 obtain ⟨x0, x1, x2⟩ := cells3n kA
 go_wp2_with fail
 refine (toNet_made N0 _ (h0.below u3) HZ.out).mono ?_
 rintro e w5 ⟨M4, rfl, r4, s4, z4, hb4⟩
 generalize hwX : w5.alloc (Obj.cells #[.slice M4.ba M4.bn M4.bc, .slice M4.la M4.ln M4.lc, .slice M4.sa M4.sn M4.sc] 33) = wX
 have b4X : Below w5.heap.size w5 wX := by subst hwX; exact below_one _ _
 have kX : wX.heap[w5.heap.size]? = some (.cells #[.slice M4.ba M4.bn M4.bc, .slice M4.la M4.ln M4.lc, .slice M4.sa M4.sn M4.sc] 33) := by rw [← hwX]; exact block_last _ _
 have rX := r4.below b4X
 have d4 := gr_trans hb4 b4X
 have kA := kept_block kA d4
 have uX := gr_trans u3 d4
 clear hb4 x0 x1 x2 u3 d4 r4
 obtain ⟨y0, y1, y2⟩ := cells3n kX
 go_wp2_with fail
 refine (implLinkUp_any M4 k1 _ rX).mono ?_
 rintro e w6 ⟨rfl, hb6⟩
 rw [s4.l, show M4.brs = N0.brs from s4.b, HO.out]
 have kA := kept_block kA hb6
 have kX := kept_block kX hb6
 have r6 := rX.below hb6
 have uX := gr_trans uX hb6
 clear hb6 y0 y1 y2 rX
 have vv : Below w6.heap.size w6 w6.drew := gr_drew (Below.refl _ _)
 have gb := HZ.out
 go_wp2_with fail
 refine wp_region_held_drew (S := (fun W => (W.cell? ⟨w.heap.size, 0, none⟩ = some (.slice N0.ba N0.bn N0.bc) ∧ W.cell? ⟨w.heap.size, 1, none⟩ = some (.slice N0.la N0.ln N0.lc) ∧ W.cell? ⟨w.heap.size, 2, none⟩ = some (.slice N0.sa N0.sn N0.sc)) ∧ (W.cell? ⟨w5.heap.size, 0, none⟩ = some (.slice M4.ba M4.bn M4.bc) ∧ W.cell? ⟨w5.heap.size, 1, none⟩ = some (.slice M4.la M4.ln M4.lc) ∧ W.cell? ⟨w5.heap.size, 2, none⟩ = some (.slice M4.sa M4.sn M4.sc)))) (by kernel_rfl) (⟨cells3n (kept_block kA vv), cells3n (kept_block kX vv)⟩) (fun hHeld => ?_)
 refine kK 0 ⟨some 26, .load 33 (.tmp 7), 33, "exact.go:4348", #[], none⟩ ?_
 refine kK 1 ⟨some 27, .load 26 (.tmp 2), 26, "exact.go:4348", #[], none⟩ ?_
 refine kR 2 ⟨some 28, .call ⟨.value (.func 8), #[.tmp 27], #[26]⟩, 33, "exact.go:4348", #[⟨1, .data⟩], none⟩ (fun K hK => ?_)
 go_simp
 refine (toNet_made N0 _ (h0.below (gr_trans uX vv)) gb).mono ?_
 rintro r wz ⟨M7, rfl, r7, s7, z7, hbz⟩
 have v0 := vv
 have vv := gr_trans vv hbz
 go_wp2_with fail
 refine hK.out _ _ (⟨cells3n (kept_block kA vv), cells3n (kept_block kX vv)⟩) (fun hHeld => ?_)
 clear hK K
 try simp only [Act.put, lA, lB, lC]
 refine kR 3 ⟨some 29, .call ⟨.value (.func 10), #[.tmp 26, .tmp 28], #[33, 33]⟩, 4, "exact.go:4348", #[⟨0, .data⟩, ⟨2, .data⟩, ⟨2, .chain⟩], none⟩ (fun K hK => ?_)
 go_simp
 refine (eqNet_same M4 M7 _ (r6.below vv) r7 ⟨s4.b.trans s7.b.symm, s4.l.trans s7.l.symm, s4.s.trans s7.s.symm⟩).mono ?_
 rintro r wy ⟨rfl, hby⟩
 have vv := gr_trans vv hby
 go_wp2_with fail
 refine hK.out _ _ (⟨cells3n (kept_block kA vv), cells3n (kept_block kX vv)⟩) (fun hHeld => ?_)
 clear hK K
 try simp only [Act.put, lA, lB, lC]
 refine kK 4 ⟨some 30, .unOp .not 4 (.tmp 29), 4, "exact.go:4348", #[⟨3, .data⟩], none⟩ ?_
 refine wpAnyH_done (by kernel_rfl) ?_ _
 have HB := hide (gr_trans uX vv)
 clear hHeld vv kA kX
 go_wp2
 go_ret
 exact ⟨rfl, HB.out⟩

theorem fnExactLinkUp_own : ownKnob Try.prog.godebug = none := by kernel_rfl
theorem fnExactLinkUp_laid : laidOutB Try.prog = true := by kernel_rfl

open Go.ChangeShapes Go.WideShapes Go.ChangeAt in
open Go.ChangeMaps (open_string shut_string) in
set_option maxRecDepth 100000 in
theorem fnExactLinkUp_lifted (os : Os) (started : os.Started) (H : Type) (enc : TypeId × Value → H) :
  ReturnsInHanded {} Try.checked os 5 .any (Rows.fnExactLinkUpSpec.pre6 enc Try.prog Try.f5 Rows.fnExactLinkUpRow.domain false) (Rows.fnExactLinkUpSpec.post enc Try.prog Try.f5 false true false false) := by
 refine returnsInHanded_of_change (C := Try.checked) fnExactLinkUp_own started (by kernel_rfl) Try.func5
  (ChangeSpec.witness6 (enc := enc) (C := Try.checked) false ⟨#[], #[.agg #[.slice none 0 0, .slice none 0 0, .slice none 0 0], .int .i64 0], []⟩ 8 (by kernel_rfl) (by kernel_rfl) (by kernel_rfl) (by kernel_rfl)) ?_
 intro W base args ds gs before hval0 hW hcnd _
 have hval : ∀ (j : Nat) t v, Try.f5.params[j]? = some t → args[j]? = some v → Value.okWide Try.prog W .any base t v := hval0
 have hW' := hW
 obtain ⟨p, q, hA0, hV, rfl, hfz, hnd⟩ := hW
 have hA : DataW.TrodAll enc Try.prog W 0 (fun _ => true) true Try.f5.params.toList args.toList ds p := hA0
 rw [Try.params5] at hA hval
 obtain ⟨v0, vs0, d0, ds0, p0, q0, hargs, rfl, rfl, h0, r0⟩ := trodAll_cons hA
 obtain ⟨v1, vs1, d1, ds1, p1, q1, rfl, rfl, rfl, h1, r1⟩ := trodAll_cons r0
 obtain ⟨rfl, rfl, rfl⟩ := trodAll_nil r1
 obtain rfl : args = #[v0, v1] := by cases args; simp_all
 obtain ⟨rfl, rfl⟩ := trodVars_none hV
 have k0 := h0
 have lt0 : ∀ x ∈ p0, x.block < W.heap.size := by obtain ⟨m, hm⟩ := k0; exact DataW.trod_lt m _ _ _ hm
 have bt : BrTypes Try.prog 84 9 78 134 91 79 136 82 80 153 55 3 4 _ _ _ _ _ _ _ _ _ _ _ _ _ _ _ _ _ _ _ _ _ _ _ _ _ _ _ _ _ := ⟨Try.underlying84, Try.underlying9, Try.underlying78, Try.underlying134, Try.underlying91, Try.underlying79, Try.underlying136, Try.underlying82, Try.underlying80, Try.underlying153, Try.underlying55, Try.underlying3, Try.underlying4, ⟨rfl, rfl⟩, ⟨rfl, rfl⟩, ⟨rfl, rfl⟩, ⟨rfl, rfl⟩, ⟨rfl, rfl⟩, ⟨rfl, rfl⟩, ⟨rfl, rfl⟩, ⟨rfl, rfl⟩, ⟨rfl, rfl⟩, ⟨rfl, rfl⟩, ⟨rfl, rfl⟩, ⟨rfl, rfl⟩, ⟨rfl, rfl⟩, ⟨rfl, rfl⟩, ⟨rfl, rfl⟩, ⟨rfl, rfl⟩, ⟨rfl, rfl⟩, ⟨rfl, rfl⟩, ⟨rfl, rfl⟩, ⟨rfl, rfl⟩, ⟨rfl, rfl⟩, ⟨rfl, rfl⟩, ⟨rfl, rfl⟩, ⟨rfl, rfl⟩, ⟨rfl, rfl⟩, ⟨rfl, rfl⟩, ⟨rfl, rfl⟩, ⟨rfl, rfl⟩, ⟨rfl, rfl⟩, (by kernel_rfl), (by kernel_rfl), (by kernel_rfl), (by kernel_rfl), (by kernel_rfl), (by kernel_rfl), (by kernel_rfl), (by kernel_rfl), (by kernel_rfl), (by kernel_rfl), (by kernel_rfl), (by kernel_rfl), (by kernel_rfl)⟩
 have bl : LkTypes Try.prog 23 89 3 _ _ _ _ := ⟨Try.underlying23, Try.underlying89, Try.underlying3, ⟨rfl, rfl⟩, ⟨rfl, rfl⟩, ⟨rfl, rfl⟩, ⟨rfl, rfl⟩, (by kernel_rfl), (by kernel_rfl)⟩
 have bn : NtTypes Try.prog 26 22 84 23 24 93 91 3 4 _ _ _ _ _ _ _ _ _ _ _ := ⟨Try.underlying26, Try.underlying22, Try.underlying24, Try.underlying93, Try.underlying91, Try.underlying3, Try.underlying4, ⟨rfl, rfl⟩, ⟨rfl, rfl⟩, ⟨rfl, rfl⟩, ⟨rfl, rfl⟩, ⟨rfl, rfl⟩, ⟨rfl, rfl⟩, ⟨rfl, rfl⟩, ⟨rfl, rfl⟩, ⟨rfl, rfl⟩, ⟨rfl, rfl⟩, ⟨rfl, rfl⟩, (by kernel_rfl), (by kernel_rfl), (by kernel_rfl), (by kernel_rfl), (by kernel_rfl), (by kernel_rfl), (by kernel_rfl), (by kernel_rfl)⟩
 obtain ⟨N0, rfl, w0, g0⟩ := open_net bt bl bn (hval 0 26 v0 rfl rfl) h0
 obtain ⟨a1, rfl, rfl, rfl, w1⟩ := open_int Try.underlying3 (hval 1 3 v1 rfl rfl) h1
 clear hA0 hval0
 refine (exactLinkUp_walk N0 a1 W w0 g0 w1).mono fun e W' ⟨he, bel⟩ => ?_
 subst he
 exact ⟨_, rfl, _, _, _, [], _, [], hW', trodAll_mk1 (shut_bool Try.underlying4 _), (trodAll_cons_mk (Below.trod fnExactLinkUp_laid (by kernel_rfl) (of_decide_eq_true (by kernel_rfl)) k0 bel lt0) (trodAll_cons_mk (shut_int Try.underlying3 w1) trodAll_mk0)), rfl, bel.frame _, fun h => by cases h⟩

theorem fnExactLinkUp_holds : Rows.FnExactLinkUpSaid :=
 OpenClaim.holds_of_wide 5 Try.f5 rfl rfl rfl rfl rfl rfl rfl ⟨rfl, rfl, rfl, rfl, rfl⟩ rfl rfl rfl rfl rfl (by kernel_rfl) Try.func5 (by kernel_rfl)
  (of_decide_eq_true (by kernel_rfl)) (by unfold Func.isWrapper; first | (rw [if_pos (by decide +kernel)]; kernel_rfl) | (rw [if_neg (by decide +kernel)]; exact ⟨rfl, rfl⟩))
  (fun os started H enc _ => fnExactLinkUp_lifted os started H enc)

#print axioms fnExactLinkUp_holds

end Go.Proofs.Ytdmplbmfkliiiaa
