/-
  FnExactPduOk answers true at all arguments: PduOk answers as the specification and writes into no argument.
-/
import Derived.Test.YtamglfhnhjgdjaaPduOkS
import Derived.Test.YtamglfhnhjgdjaaPduTo
import Derived.Test.YtamglfhnhjgdjaaPduEq
import Derived.Test.YtamglfhnhjgdjaaPduOpen
import Derived.WalkKit
import Derived.ProofKit
import Derived.OpenShut
import Derived.ShutString
import Derived.ChangeOld
import Derived.Below
import Derived.Lib.SmallJoins
namespace Go.Proofs.Ytamglfhnhjgdjaa
open Go.RowKit

set_option maxRecDepth 100000 in
set_option maxHeartbeats 400000 in
theorem szPdu_any (K I A B : Int) (ao : Option Addr) (n c : Nat) (l : List BI) (left : Int) (w : World) (hl : BRow w ao n c l) (h0 : 0 ≤ left) (h1 : left ≤ 1048576) :
    Calls Try.prog 6 #[.agg #[.int .i64 K, .int .i64 I, .int .i64 A, .int .i64 B, .slice ao n c], .int .i64 left] w fun e w' =>
      e = .returned (.int .i64 (if ((n + bulk l : Nat) : Int) ≤ left then left - ((n + bulk l : Nat) : Int) else -1)) ∧ Below w.heap.size w w' := by
  generalize hr : (if ((n + bulk l : Nat) : Int) ≤ left then left - ((n + bulk l : Nat) : Int) else -1) = r
  have hr0 : r = -1 ∨ 0 ≤ r := by rw [← hr]; split <;> omega
  have HR := hide hr
  clear hr
  rcases hr0 with rfl | hr0
  · go_enter Try.func6, Try.ntmps6
    go_wp2_with fail
    refine (szBinds_any ao n c l left _ (hl.below (below_one _ _)) h0 h1).mono ?_
    rintro e w1 ⟨rfl, hb⟩
    rw [HR.out]
    go_wp2
    go_ret
    exact ⟨rfl, (below_one w _).trans (hb.mono (below_one w _).size)⟩
  · go_enter Try.func6, Try.ntmps6
    go_wp2_with fail
    refine (szBinds_any ao n c l left _ (hl.below (below_one _ _)) h0 h1).mono ?_
    rintro e w1 ⟨rfl, hb⟩
    rw [HR.out]
    go_wp2
    go_ret
    exact ⟨rfl, (below_one w _).trans (hb.mono (below_one w _).size)⟩

theorem bulk_wt {a b : List BI} (h : a.map BI.wt = b.map BI.wt) : bulk a = bulk b := by unfold bulk; rw [h]

set_option maxRecDepth 100000 in
set_option maxHeartbeats 4000000 in
theorem exactPduOk_walk (K I A B : Int) (ao : Option Addr) (n c : Nat) (l : List BI) (w : World) (hl : BRow w ao n c l) :
    Calls Try.prog 3 #[.agg #[.int .i64 K, .int .i64 I, .int .i64 A, .int .i64 B, .slice ao n c]] w fun e w' => e = .returned (.bool true) ∧ Below w.heap.size w w' := by
  by_cases g0 : 1048576 < n + bulk l
  · go_enter Try.func3, Try.ntmps3
    go_wp2_with fail
    refine (szPdu_any K I A B ao n c l 1048576 _ (hl.below (below_one _ _)) (by omega) (by omega)).mono ?_
    rintro e w1 ⟨rfl, hb⟩
    rw [if_neg (by omega)]
    go_wp2
    go_ret
    exact ⟨rfl, (below_one w _).trans (hb.mono (below_one w _).size)⟩
  generalize hP : okP K I A B (l.map BI.d) = P
  have HP := hide hP
  clear hP
  have HBX : Hid (∀ W, Below (w.alloc (.cells #[.int .i64 K, .int .i64 I, .int .i64 A, .int .i64 B, .slice ao n c] 24)).heap.size (w.alloc (.cells #[.int .i64 K, .int .i64 I, .int .i64 A, .int .i64 B, .slice ao n c] 24)) W → _) := fun W h => (cells5 (kept_block (block_last w _) h)).1
  have q0 := below_one w (.cells #[.int .i64 K, .int .i64 I, .int .i64 A, .int .i64 B, .slice ao n c] 24)
  have rb := hl.below q0
  go_enter Try.func3, Try.ntmps3
  go_wp2_with fail
  generalize (w.alloc (.cells #[.int .i64 K, .int .i64 I, .int .i64 A, .int .i64 B, .slice ao n c] 24)) = wb at *
  refine (szPdu_any K I A B ao n c l 1048576 _ rb (by omega) (by omega)).mono ?_
  rintro e w1 ⟨rfl, u1⟩
  rw [if_pos (by omega)]
  obtain ⟨x0, x1, x2, x3, x4⟩ := HBX.out _ u1
  go_wp2_with fail
  refine (toPdu_made K I A B ao n c l _ (rb.below u1) (by omega)).mono ?_
  rintro e w2 ⟨ao2, cp2, y2, rfl, d2, -, o2, hb2⟩
  have u2 := u1.trans (hb2.mono u1.size)
  clear x0 x1 x2 x3 x4 u1 hb2
  have D2 := hide d2
  clear d2
  go_wp2_with fail
  refine (specPduOk_any K I A B _ n _ y2 _ o2.brow).mono ?_
  rintro e w3 ⟨rfl, hb3⟩
  rw [D2.out, HP.out]
  have u3 := u2.trans (hb3.mono u2.size)
  clear hb3 u2 o2 D2
  obtain ⟨x0, x1, x2, x3, x4⟩ := HBX.out _ u3
  go_wp2_with fail
  refine (toPdu_made K I A B ao n c l _ (rb.below u3) (by omega)).mono ?_
  rintro e w4 ⟨ao4, cp4, y4, rfl, d4, -, o4, hb4⟩
  have u4 := u3.trans (hb4.mono u3.size)
  have D4 := hide d4
  clear x0 x1 x2 x3 x4 u3 hb4 d4
  go_wp2_with fail
  refine (implPduOk_any K I A B _ n _ y4 _ (o4.brow.below (below_one _ _))).mono ?_
  rintro e w5 ⟨rfl, hb5⟩
  rw [D4.out, HP.out]
  have kx5 := kept_block (block_last w4 _) hb5
  have v5 := (below_one w4 (.cells #[.int .i64 K, .int .i64 I, .int .i64 A, .int .i64 B, .slice ao4 n cp4] 29)).trans (hb5.mono (below_one w4 _).size)
  have r4 := o4.brow.below v5
  have u5 := u4.trans (v5.mono u4.size)
  have KX := hide kx5
  clear hb5 u4 v5 o4
  obtain ⟨x0, x1, x2, x3, x4⟩ := HBX.out _ u5
  obtain ⟨⟨y0, y1, y2', y3, y4'⟩, -⟩ := cells5 kx5
  clear kx5
  go_wp2_with fail
  go_region_held3 (fun W => (W.cell? ⟨w4.heap.size, 0, none⟩ = some (.int .i64 K) ∧ W.cell? ⟨w4.heap.size, 1, none⟩ = some (.int .i64 I) ∧ W.cell? ⟨w4.heap.size, 2, none⟩ = some (.int .i64 A) ∧ W.cell? ⟨w4.heap.size, 3, none⟩ = some (.int .i64 B) ∧ W.cell? ⟨w4.heap.size, 4, none⟩ = some (.slice ao4 n cp4)) ∧ (W.cell? ⟨w.heap.size, 0, none⟩ = some (.int .i64 K) ∧ W.cell? ⟨w.heap.size, 1, none⟩ = some (.int .i64 I) ∧ W.cell? ⟨w.heap.size, 2, none⟩ = some (.int .i64 A) ∧ W.cell? ⟨w.heap.size, 3, none⟩ = some (.int .i64 B) ∧ W.cell? ⟨w.heap.size, 4, none⟩ = some (.slice ao n c))) (first | exact ⟨(cells5 kx7).1, HBX.out _ u7⟩ | exact ⟨(cells5 kx6).1, HBX.out _ u6⟩ | go_keep) (first
    | (go_at_call 8; refine (toPdu_made K I A B ao n c l _ (rb.below (below_drewN u5 _)) (by omega)).mono ?_; rintro e w6 ⟨ao6, cp6, y6, rfl, d6, -, o6, hb6⟩; have u6 := u5.trans ((undrew hb6).mono u5.size); have kx6 := kept_block KX.out (undrew hb6))
    | (go_at_call 10; refine (eqPdu_same K I A B _ _ _ y4 _ _ _ y6 (D4.out.trans d6.symm) _ (r4.below (undrew hb6)) o6.brow).mono ?_; rintro e w7 ⟨rfl, hb7⟩; have u7 := u6.trans (hb7.mono u6.size); have kx7 := kept_block kx6 hb7))
  go_wp2
  go_ret
  exact ⟨rfl, q0.trans (u7.mono q0.size)⟩

theorem fnExactPduOk_own : ownKnob Try.prog.godebug = none := by kernel_rfl
theorem fnExactPduOk_laid : laidOutB Try.prog = true := by kernel_rfl

open Go.ChangeShapes Go.WideShapes Go.ChangeAt in
open Go.ChangeMaps (open_string shut_string) in
set_option maxRecDepth 100000 in
theorem fnExactPduOk_lifted (os : Os) (started : os.Started) (H : Type) (enc : TypeId × Value → H) :
    ReturnsInHanded {} Try.checked os 3 .any (Rows.fnExactPduOkSpec.pre6 enc Try.prog Try.f3 Rows.fnExactPduOkRow.domain false) (Rows.fnExactPduOkSpec.post enc Try.prog Try.f3 false true false false) := by
  refine returnsInHanded_of_change (C := Try.checked) fnExactPduOk_own started (by kernel_rfl) Try.func3
    (ChangeSpec.witness6 (enc := enc) (C := Try.checked) false ⟨#[], #[.agg #[.int .i64 0, .int .i64 0, .int .i64 0, .int .i64 0, .slice none 0 0]], []⟩ 8 (by kernel_rfl) (by kernel_rfl) (by kernel_rfl) (by kernel_rfl)) ?_
  intro W base args ds gs before hval0 hW hcnd _
  have hval : ∀ (j : Nat) t v, Try.f3.params[j]? = some t → args[j]? = some v → Value.okWide Try.prog W .any base t v := hval0
  have hW' := hW
  obtain ⟨p, q, hA0, hV, rfl, hfz, hnd⟩ := hW
  have hA : DataW.TrodAll enc Try.prog W 0 (fun _ => true) true Try.f3.params.toList args.toList ds p := hA0
  rw [Try.params3] at hA hval
  obtain ⟨v0, vs0, d0, ds0, p0, q0, hargs, rfl, rfl, h0, r0⟩ := trodAll_cons hA
  obtain ⟨rfl, rfl, rfl⟩ := trodAll_nil r0
  obtain rfl : args = #[v0] := by cases args; simp_all
  obtain ⟨rfl, rfl⟩ := trodVars_none hV
  have bt0 : BindTypes Try.prog 22 56 54 43 3 9 _ _ _ _ _ _ := ⟨Try.underlying22, Try.underlying56, Try.underlying54, Try.underlying43, Try.underlying3, Try.underlying9, ⟨rfl, rfl⟩, ⟨rfl, rfl⟩, ⟨rfl, rfl⟩, ⟨rfl, rfl⟩, ⟨rfl, rfl⟩, ⟨rfl, rfl⟩, (by kernel_rfl), (by kernel_rfl), (by kernel_rfl), (by kernel_rfl), (by kernel_rfl)⟩
  have k0 := h0
  have lt0 : ∀ x ∈ p0, x.block < W.heap.size := by obtain ⟨m, hm⟩ := k0; exact DataW.trod_lt m _ _ _ hm
  obtain ⟨K0, I0, A0, B0, a0, len0, cap0, z0, rfl, w0⟩ := open_pdu bt0 Try.underlying24 ⟨rfl, rfl⟩ ⟨rfl, rfl⟩ ⟨rfl, rfl⟩ ⟨rfl, rfl⟩ ⟨rfl, rfl⟩ (by kernel_rfl) (by kernel_rfl) (hval 0 24 v0 rfl rfl) h0
  clear hA0 hval0
  refine (exactPduOk_walk K0 I0 A0 B0 a0 len0 cap0 z0 W w0).mono fun e W' ⟨he, bel⟩ => ?_
  subst he
  exact ⟨_, rfl, _, _, _, [], _, [], hW', trodAll_mk1 (shut_bool Try.underlying4 _), (trodAll_cons_mk (Below.trod fnExactPduOk_laid (by kernel_rfl) (of_decide_eq_true (by kernel_rfl)) k0 bel lt0) trodAll_mk0), rfl, bel.frame _, fun h => by cases h⟩

theorem fnExactPduOk_holds : Rows.FnExactPduOkSaid :=
  OpenClaim.holds_of_wide 3 Try.f3 rfl rfl rfl rfl rfl rfl rfl ⟨rfl, rfl, rfl, rfl, rfl⟩ rfl rfl rfl rfl rfl (by kernel_rfl) Try.func3 (by kernel_rfl)
    (of_decide_eq_true (by kernel_rfl)) (by unfold Func.isWrapper; first | (rw [if_pos (by decide +kernel)]; kernel_rfl) | (rw [if_neg (by decide +kernel)]; exact ⟨rfl, rfl⟩))
    (fun os started H enc _ => fnExactPduOk_lifted os started H enc)

#print axioms fnExactPduOk_holds

end Go.Proofs.Ytamglfhnhjgdjaa
