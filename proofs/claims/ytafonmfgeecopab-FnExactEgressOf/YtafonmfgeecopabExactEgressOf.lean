/-
  FnExactEgressOf answers true at all arguments: EgressOf answers as the specification; it writes into no argument.
-/
import Derived.Test.YtafonmfgeecopabVlanRow
import Derived.Test.YtafonmfgeecopabVtabEgress
import Derived.Test.YtafonmfgeecopabVtabHelp
import Derived.Test.YtafonmfgeecopabVtabOpen
import Derived.WalkKit
import Derived.ProofKit
import Derived.OpenShut
import Derived.ShutString
import Derived.ChangeOld
import Derived.Below
import Derived.Lib.SmallJoins
namespace Go.Proofs.Ytafonmfgeecopab
open Go.RowKit

set_option maxRecDepth 100000 in
set_option maxHeartbeats 8000000 in
theorem exactEgressOf_walk (a0 : Option Addr) (n0 c0 : Nat) (o0 : Option Addr) (p0 q0 : Nat) (v0 : VT) (id : Int) (w : World) (h0 : VTab w a0 n0 c0 o0 p0 q0 v0) (_g0 : ∀ x ∈ v0.rows, x.Rng) (_wid : (Lit.int .i64 id).wf = true) :
    Calls Try.prog 3 #[.agg #[.slice a0 n0 c0, .slice o0 p0 q0], .int .i64 id] w fun e w' => e = .returned (.bool true) ∧ Below w.heap.size w w' := by
  have hle := Nat.le_trans h0.rows.le h0.rows.top
  have hle2 := Nat.le_trans h0.own.le h0.own.top
  generalize hwA : w.alloc (Obj.cells #[Value.slice a0 n0 c0, Value.slice o0 p0 q0] 25) = wA
  have uA : Below w.heap.size w wA := by subst hwA; exact below_one _ _
  have kA : wA.heap[w.heap.size]? = some (.cells #[.slice a0 n0 c0, .slice o0 p0 q0] 25) := by rw [← hwA]; exact block_last _ _
  obtain ⟨⟨x0, x1⟩, -⟩ := cells2 kA
  by_cases gb : ¬ (n0 : Int) + (p0 : Int) ≤ 1048576
  · go_enter Try.func3, Try.ntmps3
    go_wp2_with fail
    refine (szVtab_any a0 n0 c0 o0 p0 q0 _ hle hle2).mono ?_
    rintro e w1 ⟨rfl, hb1⟩
    rw [if_neg (show ¬ (n0 : Int) + (p0 : Int) ≤ 1048576 by omega)]
    have HB := hide (gr_trans uA hb1)
    clear x0 x1
    go_wp2
    go_ret
    exact ⟨rfl, HB.out⟩
  have gb : (n0 : Int) + (p0 : Int) ≤ 1048576 := by omega
  have gn : n0 ≤ 1048576 := by omega
  have gp : p0 ≤ 1048576 := by omega
  have gs : ¬ ((1048576 : Int) - (n0 : Int) - (p0 : Int) < 0) := by omega
  generalize hV : egressOf v0 id = V
  have HV := hide hV
  clear hV
  go_enter Try.func3, Try.ntmps3
  go_wp2_with fail
  refine (szVtab_any a0 n0 c0 o0 p0 q0 _ hle hle2).mono ?_
  rintro e w1 ⟨rfl, hb1⟩
  rw [if_pos gb]
  have kA := kept_block kA hb1
  have u1 := gr_trans uA hb1
  clear hb1 x0 x1
  obtain ⟨⟨x0, x1⟩, -⟩ := cells2 kA
  go_wp2_with fail
  refine (toVtab_made a0 n0 c0 o0 p0 q0 v0 _ (h0.below u1) gn gp).mono ?_
  rintro e w2 ⟨a2, c2, o2, q2, rfl, t2, hb2⟩
  go_wp2_with fail
  refine (specEgress_any _ _ _ _ _ _ v0 id _ t2.tab.rows).mono ?_
  rintro e w3 ⟨rfl, hb3⟩
  rw [HV.out]
  have kA := kept_block kA (gr_trans hb2 hb3)
  have u3 := gr_trans u1 (gr_trans hb2 hb3)
  clear hb2 hb3 t2 x0 x1 u1
  obtain ⟨⟨x0, x1⟩, -⟩ := cells2 kA
  go_wp2_with fail
  refine (toVtab_made a0 n0 c0 o0 p0 q0 v0 _ (h0.below u3) gn gp).mono ?_
  rintro e w4 ⟨a4, c4, o4, q4, rfl, t4, hb4⟩
  generalize hwX : w4.alloc (Obj.cells #[Value.slice a4 n0 c4, Value.slice o4 p0 q4] 30) = wX
  have b4X : Below w4.heap.size w4 wX := by subst hwX; exact below_one _ _
  have kX : wX.heap[w4.heap.size]? = some (.cells #[.slice a4 n0 c4, .slice o4 p0 q4] 30) := by rw [← hwX]; exact block_last _ _
  have tX := t4.below b4X
  have kA := kept_block kA (gr_trans hb4 b4X)
  have uX := gr_trans u3 (gr_trans hb4 b4X)
  clear x0 x1 hb4 t4 u3
  obtain ⟨⟨y0, y1⟩, -⟩ := cells2 kX
  go_wp2_with fail
  refine (implEgress_any _ _ _ _ _ _ v0 id _ tX.tab.rows).mono ?_
  rintro e w6 ⟨rfl, hb6⟩
  rw [HV.out]
  have tX := tX.below hb6
  have kA := kept_block kA hb6
  have kX := kept_block kX hb6
  have uX := gr_trans uX hb6
  clear hb6 y0 y1
  have vv : Below w6.heap.size w6 w6.drew := gr_drew (Below.refl _ _)
  go_wp2_with fail
  refine wp_region_held_drew (S := (fun W => (W.cell? ⟨w.heap.size, 0, none⟩ = some (.slice a0 n0 c0) ∧ W.cell? ⟨w.heap.size, 1, none⟩ = some (.slice o0 p0 q0)) ∧ (W.cell? ⟨w4.heap.size, 0, none⟩ = some (.slice a4 n0 c4) ∧ W.cell? ⟨w4.heap.size, 1, none⟩ = some (.slice o4 p0 q4)))) (by kernel_rfl) (⟨(cells2 (kept_block kA vv)).1, (cells2 (kept_block kX vv)).1⟩) (fun hHeld => ?_)
  refine wpAnyH_take (i := 0) (oi := { dst := some 26, op := Op.load 30 (Operand.tmp 7), type := 30, pos := "exact.go:3695", after := #[], guard := none }) (v := ?_) rfl (by kernel_rfl) (by kernel_rfl) (by kernel_rfl) (fun _ _ _ h => h) (Or.inl ⟨by rfl, ?_⟩) (by assumption) ?_
  rotate_left
  · (intro wY hSw; (try dsimp only at hSw); go_simp; try with_reducible rfl)
  simp only [Act.put, List.setIfInBounds_toArray, List.set_cons_zero, List.set_cons_succ]
  refine wpAnyH_take (i := 1) (oi := { dst := some 27, op := Op.load 25 (Operand.tmp 2), type := 25, pos := "exact.go:3695", after := #[], guard := none }) (v := ?_) rfl (by kernel_rfl) (by kernel_rfl) (by kernel_rfl) (fun _ _ _ h => h) (Or.inl ⟨by rfl, ?_⟩) (by assumption) ?_
  rotate_left
  · (intro wY hSw; (try dsimp only at hSw); go_simp; try with_reducible rfl)
  simp only [Act.put, List.setIfInBounds_toArray, List.set_cons_zero, List.set_cons_succ]
  refine wpAnyH_ready (rs := [2]) (by kernel_rfl) (by simp) ?_
  refine AllReadyH.cons (o := { dst := some 28, op := Op.call { callee := Callee.value (Operand.func 9), args := #[Operand.tmp 27], argTypes := #[25] }, type := 30, pos := "exact.go:3695", after := #[{ on := 1, ground := Ground.data }], guard := none }) rfl (fun K hK => ?_) ?_
  · go_simp
    refine (toVtab_made a0 n0 c0 o0 p0 q0 v0 _ (h0.below (gr_trans uX vv)) gn gp).mono ?_
    rintro e wt ⟨a7, c7, o7, q7, rfl, t7, hb7⟩
    have vv := gr_trans vv hb7
    go_wp2_with fail
    refine hK.out _ _ (⟨(cells2 (kept_block kA vv)).1, (cells2 (kept_block kX vv)).1⟩) (fun hHeld => ?_)
    clear hK K
    try simp only [Act.put, List.setIfInBounds_toArray, List.set_cons_zero, List.set_cons_succ]
    refine wpAnyH_ready (rs := [3]) (by kernel_rfl) (by simp) ?_
    refine AllReadyH.cons (o := { dst := some 29, op := Op.call { callee := Callee.value (Operand.func 11), args := #[Operand.tmp 26, Operand.tmp 28], argTypes := #[30, 30] }, type := 4, pos := "exact.go:3695", after := #[{ on := 0, ground := Ground.data }, { on := 2, ground := Ground.data }, { on := 2, ground := Ground.chain }], guard := none }) rfl (fun K hK => ?_) ?_
    · go_simp
      refine (eqVtab_same _ _ _ _ _ _ _ _ _ _ _ _ v0 _ (tX.below vv).tab t7.tab).mono ?_
      rintro e wt ⟨rfl, hb8⟩
      have vv := gr_trans vv hb8
      clear t7
      go_wp2_with fail
      refine hK.out _ _ (⟨(cells2 (kept_block kA vv)).1, (cells2 (kept_block kX vv)).1⟩) (fun hHeld => ?_)
      clear hK K
      try simp only [Act.put, List.setIfInBounds_toArray, List.set_cons_zero, List.set_cons_succ]
      refine wpAnyH_take (i := 4) (oi := { dst := some 30, op := Op.unOp UnOp.not 4 (Operand.tmp 29), type := 4, pos := "exact.go:3695", after := #[{ on := 3, ground := Ground.data }], guard := none }) (v := ?_) rfl (by kernel_rfl) (by kernel_rfl) (by kernel_rfl) (fun _ _ _ h => h) (Or.inl ⟨by rfl, ?_⟩) (by assumption) ?_
      rotate_left
      · (intro wY hSw; (try dsimp only at hSw); go_simp; try with_reducible rfl)
      simp only [Act.put, List.setIfInBounds_toArray, List.set_cons_zero, List.set_cons_succ]
      refine wpAnyH_done (by kernel_rfl) ?_ _
      have HB := hide (gr_trans uX vv)
      go_wp2
      go_ret
      exact ⟨rfl, HB.out⟩
    exact AllReadyH.nil
  exact AllReadyH.nil

theorem fnExactEgressOf_own : ownKnob Try.prog.godebug = none := by kernel_rfl
theorem fnExactEgressOf_laid : laidOutB Try.prog = true := by kernel_rfl

open Go.ChangeShapes Go.WideShapes Go.ChangeAt in
open Go.ChangeMaps (open_string shut_string) in
set_option maxRecDepth 100000 in
theorem fnExactEgressOf_lifted (os : Os) (started : os.Started) (H : Type) (enc : TypeId × Value → H) :
    ReturnsInHanded {} Try.checked os 3 .any (Rows.fnExactEgressOfSpec.pre6 enc Try.prog Try.f3 Rows.fnExactEgressOfRow.domain false) (Rows.fnExactEgressOfSpec.post enc Try.prog Try.f3 false true false false) := by
  refine returnsInHanded_of_change (C := Try.checked) fnExactEgressOf_own started (by kernel_rfl) Try.func3
    (ChangeSpec.witness6 (enc := enc) (C := Try.checked) false ⟨#[], #[.agg #[.slice none 0 0, .slice none 0 0], .int .i64 0], []⟩ 8 (by kernel_rfl) (by kernel_rfl) (by kernel_rfl) (by kernel_rfl)) ?_
  intro W base args ds gs before hval0 hW hcnd _
  have hval : ∀ (j : Nat) t v, Try.f3.params[j]? = some t → args[j]? = some v → Value.okWide Try.prog W .any base t v := hval0
  have hW' := hW
  obtain ⟨p, q, hA0, hV, rfl, hfz, hnd⟩ := hW
  have hA : DataW.TrodAll enc Try.prog W 0 (fun _ => true) true Try.f3.params.toList args.toList ds p := hA0
  rw [Try.params3] at hA hval
  obtain ⟨v0, vs0, d0, ds0, p0, q0, hargs, rfl, rfl, h0, r0⟩ := trodAll_cons hA
  obtain ⟨v1, vs1, d1, ds1, p1, q1, rfl, rfl, rfl, h1, r1⟩ := trodAll_cons r0
  obtain ⟨rfl, rfl, rfl⟩ := trodAll_nil r1
  obtain rfl : args = #[v0, v1] := by cases args; simp_all
  obtain ⟨rfl, rfl⟩ := trodVars_none hV
  have k0 := h0
  have lt0 : ∀ x ∈ p0, x.block < W.heap.size := by obtain ⟨m, hm⟩ := k0; exact DataW.trod_lt m _ _ _ hm
  obtain ⟨a0, n0, c0, o0, pp0, qq0, z0, rfl, w0, g0⟩ := open_vtab Try.underlying25 (by kernel_rfl) (by kernel_rfl) rfl rfl Try.underlying22 Try.underlying23 Try.underlying35 Try.underlying3 ⟨rfl, rfl⟩ ⟨rfl, rfl⟩ ⟨rfl, rfl⟩ (by kernel_rfl) (by kernel_rfl) (hval 0 25 v0 rfl rfl) h0
  obtain ⟨a1, rfl, rfl, rfl, w1⟩ := open_int Try.underlying3 (hval 1 3 v1 rfl rfl) h1
  clear hA0 hval0
  refine (exactEgressOf_walk a0 n0 c0 o0 pp0 qq0 z0 a1 W w0 g0 w1).mono fun e W' ⟨he, bel⟩ => ?_
  subst he
  exact ⟨_, rfl, _, _, _, [], _, [], hW', trodAll_mk1 (shut_bool Try.underlying4 _), (trodAll_cons_mk (Below.trod fnExactEgressOf_laid (by kernel_rfl) (of_decide_eq_true (by kernel_rfl)) k0 bel lt0) (trodAll_cons_mk (shut_int Try.underlying3 w1) trodAll_mk0)), rfl, bel.frame _, fun h => by cases h⟩

theorem fnExactEgressOf_holds : Rows.FnExactEgressOfSaid :=
  OpenClaim.holds_of_wide 3 Try.f3 rfl rfl rfl rfl rfl rfl rfl ⟨rfl, rfl, rfl, rfl, rfl⟩ rfl rfl rfl rfl rfl (by kernel_rfl) Try.func3 (by kernel_rfl)
    (of_decide_eq_true (by kernel_rfl)) (by unfold Func.isWrapper; first | (rw [if_pos (by decide +kernel)]; kernel_rfl) | (rw [if_neg (by decide +kernel)]; exact ⟨rfl, rfl⟩))
    (fun os started H enc _ => fnExactEgressOf_lifted os started H enc)

#print axioms fnExactEgressOf_holds

end Go.Proofs.Ytafonmfgeecopab
