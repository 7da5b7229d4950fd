/-
  FnExactDropRow answers true at all arguments: DropRow answers as the specification; it writes into no argument and keeps nothing of one; its answer owns its memory, behind another call too.
-/
import Derived.Test.YtafonmfgeecopabVlanDrop
import Derived.Test.YtafonmfgeecopabVtabDropS
import Derived.Test.YtafonmfgeecopabVtabSizes
import Derived.Test.YtafonmfgeecopabVtabHelp
import Derived.Test.YtafonmfgeecopabVtabOpen
import Derived.WalkKit
import Derived.ProofKit
import Derived.OpenShut
import Derived.ShutString
import Derived.ChangeOld
import Derived.Below
import Derived.Lib.SmallJoins
namespace Go.Proofs.Ytafonmfgeecopab
open Go.RowKit

set_option maxRecDepth 100000 in
set_option maxHeartbeats 8000000 in
theorem exactDropRow_walk (a0 : Option Addr) (n0 c0 : Nat) (o0 : Option Addr) (p0 q0 : Nat) (v0 : VT) (id : Int) (w : World) (h0 : VTab w a0 n0 c0 o0 p0 q0 v0) (g0 : ∀ x ∈ v0.rows, x.Rng) (_wid : (Lit.int .i64 id).wf = true) :
    Calls Try.prog 5 #[.agg #[.slice a0 n0 c0, .slice o0 p0 q0], .int .i64 id] w fun e w' => e = .returned (.bool true) ∧ Below w.heap.size w w' := by
  have hle := Nat.le_trans h0.rows.le h0.rows.top
  have hle2 := Nat.le_trans h0.own.le h0.own.top
  generalize hwA : w.alloc (Obj.cells #[Value.slice a0 n0 c0, Value.slice o0 p0 q0] 25) = wA
  have uA : Below w.heap.size w wA := by subst hwA; exact below_one _ _
  have kA : wA.heap[w.heap.size]? = some (.cells #[.slice a0 n0 c0, .slice o0 p0 q0] 25) := by rw [← hwA]; exact block_last _ _
  obtain ⟨⟨x0, x1⟩, -⟩ := cells2 kA
  by_cases gb : ¬ (n0 : Int) + (p0 : Int) ≤ 1048576
  · go_enter Try.func5, Try.ntmps5
    go_wp2_with fail
    refine (szVtab_any a0 n0 c0 o0 p0 q0 _ hle hle2).mono ?_
    rintro e w1 ⟨rfl, hb1⟩
    rw [if_neg (show ¬ (n0 : Int) + (p0 : Int) ≤ 1048576 by omega)]
    have HB := hide (gr_trans uA hb1)
    clear x0 x1
    go_wp2
    go_ret
    exact ⟨rfl, HB.out⟩
  have gb : (n0 : Int) + (p0 : Int) ≤ 1048576 := by omega
  have gn : n0 ≤ 1048576 := by omega
  have gp : p0 ≤ 1048576 := by omega
  have gs : ¬ ((1048576 : Int) - (n0 : Int) - (p0 : Int) < 0) := by omega
  generalize hV : dropRow v0 id = V
  have HV := hide hV
  clear hV
  go_enter Try.func5, Try.ntmps5
  go_wp2_with fail
  refine (szVtab_any a0 n0 c0 o0 p0 q0 _ hle hle2).mono ?_
  rintro e w1 ⟨rfl, hb1⟩
  rw [if_pos gb]
  have kA := kept_block kA hb1
  have u1 := gr_trans uA hb1
  clear hb1 x0 x1
  obtain ⟨⟨x0, x1⟩, -⟩ := cells2 kA
  go_wp2_with fail
  refine (toVtab_made a0 n0 c0 o0 p0 q0 v0 _ (h0.below u1) gn gp).mono ?_
  rintro e w2 ⟨a2, c2, o2, q2, rfl, t2, hb2⟩
  go_wp2_with fail
  refine (specDropRow_made _ _ _ _ _ _ v0 id _ t2.tab (by omega) (by omega)).mono ?_
  rw [HV.out]
  rintro e w3 ⟨a3, n3, c3, o3, p3, q3, rfl, t3, hb3⟩
  generalize hwS : w3.alloc (Obj.cells #[Value.slice a3 n3 c3, Value.slice o3 p3 q3] 30) = wS
  have b3S : Below w3.heap.size w3 wS := by subst hwS; exact below_one _ _
  have kS : wS.heap[w3.heap.size]? = some (.cells #[.slice a3 n3 c3, .slice o3 p3 q3] 30) := by rw [← hwS]; exact block_last _ _
  have tS := t3.below b3S
  have d3 := gr_trans hb2 (gr_trans hb3 b3S)
  have kA := kept_block kA d3
  have uS := gr_trans u1 d3
  have pS : Below wS.heap.size wS wS := Below.refl _ _
  clear hb2 hb3 t2 x0 x1 u1 t3 d3
  obtain ⟨⟨x0, x1⟩, -⟩ := cells2 kA
  go_wp2_with fail
  refine (toVtab_made a0 n0 c0 o0 p0 q0 v0 _ (h0.below uS) gn gp).mono ?_
  rintro e w4 ⟨a4, c4, o4, q4, rfl, t4, hb4⟩
  have EX : Hid ((∀ k, (Value.slice a4 n0 c4).ownBlock = some k → k < w4.heap.size) ∧ (∀ k, (Value.slice o4 p0 q4).ownBlock = some k → k < w4.heap.size)) := hide ⟨fun k hk => (t4.rows.lt k hk).2, fun k hk => (t4.own.lt k hk).2⟩
  generalize hwX : w4.alloc (Obj.cells #[Value.slice a4 n0 c4, Value.slice o4 p0 q4] 30) = wX
  have b4X : Below w4.heap.size w4 wX := by subst hwX; exact below_one _ _
  have kX : wX.heap[w4.heap.size]? = some (.cells #[.slice a4 n0 c4, .slice o4 p0 q4] 30) := by rw [← hwX]; exact block_last _ _
  have tX := t4.below b4X
  have pS : Below wS.heap.size wS wX := gr_trans hb4 b4X
  clear x0 x1 t4
  obtain ⟨⟨y0, y1⟩, -⟩ := cells2 kX
  go_wp2_with fail
  refine (implDropRow_made _ _ _ _ _ _ v0 id _ tX.tab (by omega) (by omega) g0).mono ?_
  rw [HV.out]
  rintro e w6 ⟨a6, n6, c6, o6, p6, q6, rfl, t6, hb6⟩
  have EG : Hid ((∀ k, (Value.slice a6 n6 c6).ownBlock = some k → k < w6.heap.size) ∧ (∀ k, (Value.slice o6 p6 q6).ownBlock = some k → k < w6.heap.size)) := hide ⟨fun k hk => (t6.rows.lt k hk).2, fun k hk => (t6.own.lt k hk).2⟩
  have NG : Hid (n6 ≤ 16777216 ∧ p6 ≤ 16777216) := hide (by have h1 := t6.len; have h2 := sizes_DropRow v0 id; rw [HV.out] at h2; have h3 := h0.rows.size; have h4 := h0.own.size; omega)
  have SG : Hid (wS.heap.size ≤ wX.heap.size) := hide pS.size
  have GX : Hid (w4.heap.size ≤ wX.heap.size) := hide b4X.size
  generalize hwG : w6.alloc (Obj.cells #[Value.slice a6 n6 c6, Value.slice o6 p6 q6] 30) = wG
  have b6G : Below w6.heap.size w6 wG := by subst hwG; exact below_one _ _
  have kG : wG.heap[w6.heap.size]? = some (.cells #[.slice a6 n6 c6, .slice o6 p6 q6] 30) := by rw [← hwG]; exact block_last _ _
  have tG := t6.below b6G
  have d6 := gr_trans hb6 b6G
  have tX := tX.below d6
  have kX := kept_block kX d6
  have xb : wX.heap.size ≤ wG.heap.size := d6.size
  have pS := gr_trans pS d6
  have G4 : Hid (w4.heap.size ≤ w6.heap.size) := hide (Nat.le_trans b4X.size hb6.size)
  clear hb6 y0 y1 t6 d6
  obtain ⟨⟨z0, z1⟩, -⟩ := cells2 kG
  obtain ⟨⟨s0, s1⟩, -⟩ := cells2 (kept_block kS pS)
  go_wp2_with fail
  refine (eqVtab_same _ _ _ _ _ _ _ _ _ _ _ _ V.1 _ tG.tab (tS.below pS).tab).mono ?_
  rintro e w8 ⟨rfl, hb⟩
  have pS := gr_trans pS hb
  have xb := Nat.le_trans xb hb.size
  have tG := tG.below hb
  have tX := tX.below hb
  have kX := kept_block kX hb
  have kG := kept_block kG hb
  clear hb z0 z1 s0 s1
  have vv : Below w8.heap.size w8 w8.drew := gr_drew (Below.refl _ _)
  go_wp2_with fail
  refine wp_region_held_drew (S := (fun W => (W.cell? ⟨w.heap.size, 0, none⟩ = some (.slice a0 n0 c0) ∧ W.cell? ⟨w.heap.size, 1, none⟩ = some (.slice o0 p0 q0)) ∧ (W.cell? ⟨w4.heap.size, 0, none⟩ = some (.slice a4 n0 c4) ∧ W.cell? ⟨w4.heap.size, 1, none⟩ = some (.slice o4 p0 q4)))) (by kernel_rfl) (⟨(cells2 (kept_block kA (gr_trans pS vv))).1, (cells2 (kept_block kX vv)).1⟩) (fun hHeld => ?_)
  refine wpAnyH_take (i := 0) (oi := { dst := some 45, op := Op.load 30 (Operand.tmp 8), type := 30, pos := "exact.go:3779", after := #[], guard := none }) (v := ?_) rfl (by kernel_rfl) (by kernel_rfl) (by kernel_rfl) (fun _ _ _ h => h) (Or.inl ⟨by rfl, ?_⟩) (by assumption) ?_
  rotate_left
  · (intro wY hSw; (try dsimp only at hSw); go_simp; try with_reducible rfl)
  simp only [Act.put, List.setIfInBounds_toArray, List.set_cons_zero, List.set_cons_succ]
  refine wpAnyH_take (i := 1) (oi := { dst := some 46, op := Op.load 25 (Operand.tmp 2), type := 25, pos := "exact.go:3779", after := #[], guard := none }) (v := ?_) rfl (by kernel_rfl) (by kernel_rfl) (by kernel_rfl) (fun _ _ _ h => h) (Or.inl ⟨by rfl, ?_⟩) (by assumption) ?_
  rotate_left
  · (intro wY hSw; (try dsimp only at hSw); go_simp; try with_reducible rfl)
  simp only [Act.put, List.setIfInBounds_toArray, List.set_cons_zero, List.set_cons_succ]
  refine wpAnyH_ready (rs := [2]) (by kernel_rfl) (by simp) ?_
  refine AllReadyH.cons (o := { dst := some 47, op := Op.call { callee := Callee.value (Operand.func 9), args := #[Operand.tmp 46], argTypes := #[25] }, type := 30, pos := "exact.go:3779", after := #[{ on := 1, ground := Ground.data }], guard := none }) rfl (fun K hK => ?_) ?_
  · go_simp
    refine (toVtab_made a0 n0 c0 o0 p0 q0 v0 _ (h0.below (gr_trans uS (gr_trans pS vv))) gn gp).mono ?_
    rintro e wt ⟨a7, c7, o7, q7, rfl, t7, hb7⟩
    have vv := gr_trans vv hb7
    go_wp2_with fail
    refine hK.out _ _ (⟨(cells2 (kept_block kA (gr_trans pS vv))).1, (cells2 (kept_block kX vv)).1⟩) (fun hHeld => ?_)
    clear hK K
    try simp only [Act.put, List.setIfInBounds_toArray, List.set_cons_zero, List.set_cons_succ]
    refine wpAnyH_ready (rs := [3]) (by kernel_rfl) (by simp) ?_
    refine AllReadyH.cons (o := { dst := some 48, op := Op.call { callee := Callee.value (Operand.func 11), args := #[Operand.tmp 45, Operand.tmp 47], argTypes := #[30, 30] }, type := 4, pos := "exact.go:3779", after := #[{ on := 0, ground := Ground.data }, { on := 2, ground := Ground.data }, { on := 2, ground := Ground.chain }], guard := none }) rfl (fun K hK => ?_) ?_
    · go_simp
      refine (eqVtab_same _ _ _ _ _ _ _ _ _ _ _ _ v0 _ (tX.below vv).tab t7.tab).mono ?_
      rintro e wt ⟨rfl, hb8⟩
      have vv := gr_trans vv hb8
      clear t7
      go_wp2_with fail
      refine hK.out _ _ (⟨(cells2 (kept_block kA (gr_trans pS vv))).1, (cells2 (kept_block kX vv)).1⟩) (fun hHeld => ?_)
      clear hK K
      try simp only [Act.put, List.setIfInBounds_toArray, List.set_cons_zero, List.set_cons_succ]
      refine wpAnyH_take (i := 4) (oi := { dst := some 49, op := Op.unOp UnOp.not 4 (Operand.tmp 48), type := 4, pos := "exact.go:3779", after := #[{ on := 3, ground := Ground.data }], guard := none }) (v := ?_) rfl (by kernel_rfl) (by kernel_rfl) (by kernel_rfl) (fun _ _ _ h => h) (Or.inl ⟨by rfl, ?_⟩) (by assumption) ?_
      rotate_left
      · (intro wY hSw; (try dsimp only at hSw); go_simp; try with_reducible rfl)
      simp only [Act.put, List.setIfInBounds_toArray, List.set_cons_zero, List.set_cons_succ]
      refine wpAnyH_done (by kernel_rfl) ?_ _
      have pS := gr_trans pS vv
      have xb := Nat.le_trans xb vv.size
      have tX := tX.below vv
      have tG := tG.below vv
      have kX := kept_block kX vv
      have kG := kept_block kG vv
      clear hHeld vv
      obtain ⟨⟨y0, y1⟩, -⟩ := cells2 kX
      go_wp2_with fail
      refine (markVtab_made _ _ _ _ _ _ _ _ v0 _ tX pS.size EX.out.1 EX.out.2 (by omega) (by omega)).mono ?_
      rintro e w9 ⟨rfl, -, bt⟩
      have pS := pS.trans (bt.below)
      have xb := Nat.le_trans xb bt.below.size
      have tG := tG.between bt GX.out
      have kX : w9.heap[w4.heap.size]? = _ := (bt.block _ (Array.getElem?_eq_some_iff.1 kX).1 (Nat.le_refl _)).trans kX
      have kG : w9.heap[w6.heap.size]? = _ := (bt.block _ (Array.getElem?_eq_some_iff.1 kG).1 G4.out).trans kG
      clear tX bt y0 y1
      obtain ⟨⟨s0, s1⟩, -⟩ := cells2 (kept_block kS pS)
      obtain ⟨⟨z0, z1⟩, -⟩ := cells2 kG
      go_wp2_with fail
      refine (eqVtab_same _ _ _ _ _ _ _ _ _ _ _ _ V.1 _ tG.tab (tS.below pS).tab).mono ?_
      rintro e w10 ⟨rfl, hb⟩
      have pS := gr_trans pS hb
      have xb := Nat.le_trans xb hb.size
      have tG := tG.below hb
      have kX := kept_block kX hb
      have kG := kept_block kG hb
      clear hb
      clear s0 s1 z0 z1
      obtain ⟨⟨z0, z1⟩, -⟩ := cells2 kG
      go_wp2_with fail
      refine (markVtab_made _ _ _ _ _ _ _ _ V.1 _ tG xb EG.out.1 EG.out.2 NG.out.1 NG.out.2).mono ?_
      rintro e w11 ⟨rfl, tM, bt⟩
      have pS := pS.trans (bt.below.mono SG.out)
      have kG : w11.heap[w6.heap.size]? = _ := (bt.block _ (Array.getElem?_eq_some_iff.1 kG).1 (Nat.le_refl _)).trans kG
      clear tG bt kX
      clear z0 z1
      obtain ⟨⟨z0, z1⟩, -⟩ := cells2 kG
      go_wp2_with fail
      refine (heldVtab_any _ _ _ _ _ _ _ tM.tab NG.out.1 NG.out.2).mono ?_
      rintro e w12 ⟨rfl, hb⟩
      have pS := gr_trans pS hb
      have tM := tM.below hb
      have kG := kept_block kG hb
      clear hb
      clear z0 z1
      have m0 : ¬ ((1 : Int) + 3 * (n6 : Int) + (p6 : Int) < 0) := by omega
      obtain ⟨⟨x0, x1⟩, -⟩ := cells2 (kept_block kA pS)
      go_wp2_with fail
      refine (toVtab_made a0 n0 c0 o0 p0 q0 v0 _ (h0.below (gr_trans uS pS)) gn gp).mono ?_
      rintro e w13 ⟨a13, c13, o13, q13, rfl, t13, hb⟩
      have pS := gr_trans pS hb
      have tM := tM.below hb
      have kG := kept_block kG hb
      clear hb
      clear x0 x1
      go_wp2_with fail
      refine (implDropRow_made _ _ _ _ _ _ v0 id _ t13.tab (by omega) (by omega) g0).mono ?_
      rw [HV.out]
      rintro e w14 ⟨a14, n14, c14, o14, p14, q14, rfl, tH, hb⟩
      have pS := gr_trans pS hb
      have tM := tM.below hb
      have kG := kept_block kG hb
      clear hb t13
      generalize hwH : w14.alloc (Obj.cells #[Value.slice a14 n14 c14, Value.slice o14 p14 q14] 30) = wH
      have bH : Below w14.heap.size w14 wH := by subst hwH; exact below_one _ _
      have kH : wH.heap[w14.heap.size]? = some (.cells #[.slice a14 n14 c14, .slice o14 p14 q14] 30) := by rw [← hwH]; exact block_last _ _
      have pS := gr_trans pS bH
      have tM := tM.below bH
      have tH := tH.below bH
      have kG := kept_block kG bH
      obtain ⟨⟨s0, s1⟩, -⟩ := cells2 (kept_block kS pS)
      obtain ⟨⟨h1, h2⟩, -⟩ := cells2 kH
      go_wp2_with fail
      refine (eqVtab_same _ _ _ _ _ _ _ _ _ _ _ _ V.1 _ tH.tab (tS.below pS).tab).mono ?_
      rintro e w15 ⟨rfl, hb⟩
      have pS := gr_trans pS hb
      have tM := tM.below hb
      have kG := kept_block kG hb
      clear hb tH
      clear s0 s1 h1 h2
      obtain ⟨⟨z0, z1⟩, -⟩ := cells2 kG
      go_wp2_with fail
      refine (heldVtab_any _ _ _ _ _ _ _ tM.tab NG.out.1 NG.out.2).mono ?_
      rintro e w16 ⟨rfl, hb⟩
      have HB := hide (gr_trans uS (gr_trans pS hb))
      clear hb
      clear z0 z1
      go_wp2
      go_ret
      exact ⟨rfl, HB.out⟩
    exact AllReadyH.nil
  exact AllReadyH.nil

theorem fnExactDropRow_own : ownKnob Try.prog.godebug = none := by kernel_rfl
theorem fnExactDropRow_laid : laidOutB Try.prog = true := by kernel_rfl

open Go.ChangeShapes Go.WideShapes Go.ChangeAt in
open Go.ChangeMaps (open_string shut_string) in
set_option maxRecDepth 100000 in
theorem fnExactDropRow_lifted (os : Os) (started : os.Started) (H : Type) (enc : TypeId × Value → H) :
    ReturnsInHanded {} Try.checked os 5 .any (Rows.fnExactDropRowSpec.pre6 enc Try.prog Try.f5 Rows.fnExactDropRowRow.domain false) (Rows.fnExactDropRowSpec.post enc Try.prog Try.f5 false true false false) := by
  refine returnsInHanded_of_change (C := Try.checked) fnExactDropRow_own started (by kernel_rfl) Try.func5
    (ChangeSpec.witness6 (enc := enc) (C := Try.checked) false ⟨#[], #[.agg #[.slice none 0 0, .slice none 0 0], .int .i64 0], []⟩ 8 (by kernel_rfl) (by kernel_rfl) (by kernel_rfl) (by kernel_rfl)) ?_
  intro W base args ds gs before hval0 hW hcnd _
  have hval : ∀ (j : Nat) t v, Try.f5.params[j]? = some t → args[j]? = some v → Value.okWide Try.prog W .any base t v := hval0
  have hW' := hW
  obtain ⟨p, q, hA0, hV, rfl, hfz, hnd⟩ := hW
  have hA : DataW.TrodAll enc Try.prog W 0 (fun _ => true) true Try.f5.params.toList args.toList ds p := hA0
  rw [Try.params5] at hA hval
  obtain ⟨v0, vs0, d0, ds0, p0, q0, hargs, rfl, rfl, h0, r0⟩ := trodAll_cons hA
  obtain ⟨v1, vs1, d1, ds1, p1, q1, rfl, rfl, rfl, h1, r1⟩ := trodAll_cons r0
  obtain ⟨rfl, rfl, rfl⟩ := trodAll_nil r1
  obtain rfl : args = #[v0, v1] := by cases args; simp_all
  obtain ⟨rfl, rfl⟩ := trodVars_none hV
  have k0 := h0
  have lt0 : ∀ x ∈ p0, x.block < W.heap.size := by obtain ⟨m, hm⟩ := k0; exact DataW.trod_lt m _ _ _ hm
  obtain ⟨a0, n0, c0, o0, pp0, qq0, z0, rfl, w0, g0⟩ := open_vtab Try.underlying25 (by kernel_rfl) (by kernel_rfl) rfl rfl Try.underlying22 Try.underlying23 Try.underlying35 Try.underlying3 ⟨rfl, rfl⟩ ⟨rfl, rfl⟩ ⟨rfl, rfl⟩ (by kernel_rfl) (by kernel_rfl) (hval 0 25 v0 rfl rfl) h0
  obtain ⟨a1, rfl, rfl, rfl, w1⟩ := open_int Try.underlying3 (hval 1 3 v1 rfl rfl) h1
  clear hA0 hval0
  refine (exactDropRow_walk a0 n0 c0 o0 pp0 qq0 z0 a1 W w0 g0 w1).mono fun e W' ⟨he, bel⟩ => ?_
  subst he
  exact ⟨_, rfl, _, _, _, [], _, [], hW', trodAll_mk1 (shut_bool Try.underlying4 _), (trodAll_cons_mk (Below.trod fnExactDropRow_laid (by kernel_rfl) (of_decide_eq_true (by kernel_rfl)) k0 bel lt0) (trodAll_cons_mk (shut_int Try.underlying3 w1) trodAll_mk0)), rfl, bel.frame _, fun h => by cases h⟩

theorem fnExactDropRow_holds : Rows.FnExactDropRowSaid :=
  OpenClaim.holds_of_wide 5 Try.f5 rfl rfl rfl rfl rfl rfl rfl ⟨rfl, rfl, rfl, rfl, rfl⟩ rfl rfl rfl rfl rfl (by kernel_rfl) Try.func5 (by kernel_rfl)
    (of_decide_eq_true (by kernel_rfl)) (by unfold Func.isWrapper; first | (rw [if_pos (by decide +kernel)]; kernel_rfl) | (rw [if_neg (by decide +kernel)]; exact ⟨rfl, rfl⟩))
    (fun os started H enc _ => fnExactDropRow_lifted os started H enc)

#print axioms fnExactDropRow_holds

end Go.Proofs.Ytafonmfgeecopab
