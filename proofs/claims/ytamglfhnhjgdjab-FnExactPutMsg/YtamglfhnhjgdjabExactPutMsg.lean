/-
  FnExactPutMsg answers true at all arguments: PutMsg answers as the specification; it writes into no argument and keeps nothing of one; its answer owns its memory, behind another call too.
-/
import Derived.Test.YtamglfhnhjgdjabQL
import Derived.Test.YtamglfhnhjgdjabPduMark
import Derived.Test.YtamglfhnhjgdjabQG
import Derived.Test.YtamglfhnhjgdjabPduEq
import Derived.Test.YtamglfhnhjgdjabPduOpen
import Derived.Test.YtamglfhnhjgdjabQA
import Derived.WalkKit
import Derived.ProofKit
import Derived.OpenShut
import Derived.ShutString
import Derived.ChangeOld
import Derived.Below
import Derived.Lib.SmallJoins
namespace Go.Proofs.Ytamglfhnhjgdjab
open Go.RowKit

theorem putM_length (word : List Int) (k id a b : Int) (bs : List BD) : (putM word k id a b bs).length ≤ 1000 := by
  unfold putM
  split
  · rename_i h
    have := putTlv_length [] 48 (msgB word (putP k id a b bs))
    simp at this
    omega
  · simp

set_option maxRecDepth 100000 in
set_option maxHeartbeats 400000 in
theorem szPdu_put (K I A B : Int) (ao : Option Addr) (n c : Nat) (l : List BI) (left : Int) (w : World) (hl : BRow w ao n c l) (h0 : 0 ≤ left) (h1 : left ≤ 1048576) :
    Calls Try.prog 13 #[.agg #[.int .i64 K, .int .i64 I, .int .i64 A, .int .i64 B, .slice ao n c], .int .i64 left] w fun e w' =>
      e = .returned (.int .i64 (if ((n + bulk l : Nat) : Int) ≤ left then left - ((n + bulk l : Nat) : Int) else -1)) ∧ Below w.heap.size w w' := by
  generalize hr : (if ((n + bulk l : Nat) : Int) ≤ left then left - ((n + bulk l : Nat) : Int) else -1) = r
  have hr0 : r = -1 ∨ 0 ≤ r := by rw [← hr]; split <;> omega
  have HR := hide hr
  clear hr
  rcases hr0 with rfl | hr0
  · go_enter Try.func13, Try.ntmps13
    go_wp2_with fail
    refine (szBinds_any ao n c l left _ (hl.below (below_one _ _)) h0 h1).mono ?_
    rintro e w1 ⟨rfl, hb⟩
    rw [HR.out]
    go_wp2
    go_ret
    exact ⟨rfl, (below_one w _).trans (hb.mono (below_one w _).size)⟩
  · go_enter Try.func13, Try.ntmps13
    go_wp2_with fail
    refine (szBinds_any ao n c l left _ (hl.below (below_one _ _)) h0 h1).mono ?_
    rintro e w1 ⟨rfl, hb⟩
    rw [HR.out]
    go_wp2
    go_ret
    exact ⟨rfl, (below_one w _).trans (hb.mono (below_one w _).size)⟩

theorem bulk_same {a b : List BI} (h : a.map BI.wt = b.map BI.wt) : bulk a = bulk b := by unfold bulk; rw [h]

set_option maxRecDepth 100000 in
set_option maxHeartbeats 4000000 in
theorem exactPutMsg_walk (S : ByteArray) (K I A B : Int) (ao : Option Addr) (n c : Nat) (l : List BI) (w : World) (hS : S.size ≤ maxLen) (hl : BRow w ao n c l) :
    Calls Try.prog 4 #[.string S, .agg #[.int .i64 K, .int .i64 I, .int .i64 A, .int .i64 B, .slice ao n c]] w fun e w' => e = .returned (.bool true) ∧ Below w.heap.size w w' := by
  by_cases gS : 1048576 < S.size
  · go_enter Try.func4, Try.ntmps4
    go_wp2
    go_ret
    exact ⟨rfl, below_one w _⟩
  by_cases g0 : 1048576 < n + bulk l
  · go_enter Try.func4, Try.ntmps4
    go_wp2_with fail
    refine (szPdu_put K I A B ao n c l 1048576 _ (hl.below (below_one _ _)) (by omega) (by omega)).mono ?_
    rintro e w1 ⟨rfl, hb⟩
    rw [if_neg (by omega)]
    go_wp2
    go_ret
    exact ⟨rfl, (below_one w _).trans (hb.mono (below_one w _).size)⟩
  have hPl := putM_length (strB S) K I A B (l.map BI.d)
  generalize hP : putM (strB S) K I A B (l.map BI.d) = P at hPl
  have HP := hide hP
  clear hP
  have HBX : Hid (∀ W, Below (w.alloc (.cells #[.int .i64 K, .int .i64 I, .int .i64 A, .int .i64 B, .slice ao n c] 36)).heap.size (w.alloc (.cells #[.int .i64 K, .int .i64 I, .int .i64 A, .int .i64 B, .slice ao n c] 36)) W → _) := fun W h => (cells5 (kept_block (block_last w _) h)).1
  have q0 := below_one w (.cells #[.int .i64 K, .int .i64 I, .int .i64 A, .int .i64 B, .slice ao n c] 36)
  have rb := hl.below q0
  go_enter Try.func4, Try.ntmps4
  go_wp2_with fail
  generalize (w.alloc (.cells #[.int .i64 K, .int .i64 I, .int .i64 A, .int .i64 B, .slice ao n c] 36)) = wb at *
  refine (szPdu_put K I A B ao n c l 1048576 _ rb (by omega) (by omega)).mono ?_
  rintro e w1 ⟨rfl, u1⟩
  rw [if_pos (by omega)]
  obtain ⟨x0, x1, x2, x3, x4⟩ := HBX.out _ u1
  go_wp2_with fail
  refine (toPdu_made K I A B ao n c l _ (rb.below u1) (by omega)).mono ?_
  rintro e w2 ⟨ao2, cp2, y2, rfl, d2, -, o2, hb2⟩
  have u2 := u1.trans (hb2.mono u1.size)
  clear x0 x1 x2 x3 x4 u1 hb2
  have D2 := hide d2
  clear d2
  go_wp2_with fail
  refine (specPutMsg_made S hS K I A B _ n _ y2 P (by rw [D2.out]; exact HP.out) _ o2.brow).mono ?_
  rintro e w3 ⟨ao3, cp3, rfl, -, r3, hb3⟩
  have u3 := u2.trans (hb3.mono u2.size)
  have n3 := u3.size
  clear hb3 u2 o2 D2
  obtain ⟨x0, x1, x2, x3, x4⟩ := HBX.out _ u3
  go_wp2_with fail
  refine (toPdu_made K I A B ao n c l _ (rb.below u3) (by omega)).mono ?_
  rintro e w4 ⟨ao4, cp4, y4, rfl, d4, e4, o4, hb4⟩
  have bk4 := bulk_same e4
  have n4 := hb4.size
  have D4 := hide d4
  clear x0 x1 x2 x3 x4 d4 e4
  go_wp2_with fail
  refine (implPutMsg_made S hS K I A B _ n _ y4 P (by rw [D4.out]; exact HP.out) _ (o4.brow.below (below_one _ _))).mono ?_
  rintro e w5 ⟨ao5, cp5, rfl, ho5, r5, hb5⟩
  have kx5 := kept_block (block_last w4 _) hb5
  have v5 := (below_one w4 (.cells #[.int .i64 K, .int .i64 I, .int .i64 A, .int .i64 B, .slice ao4 n cp4] 25)).trans (hb5.mono (below_one w4 _).size)
  have n5 := v5.size
  have ho5 := own_lt ho5 (base' := w4.heap.size + 1) (by simp)
  have p5 : Below w3.heap.size w3 w5 := hb4.trans (v5.mono n4)
  have KX5 := hide kx5
  have BK4 := hide (fun b hb => o4.blk b hb)
  have O4 := hide (o4.below v5)
  clear hb5 hb4 o4 kx5 v5
  go_wp2_with fail
  refine (eq_same _ _ _ _ _ _ P _ r5 (r3.below p5)).mono ?_
  rintro e w6 ⟨rfl, n6, rfl⟩
  have d6 : Below w5.heap.size w5 (w5.drewN n6) := below_drewN (Below.refl _ _) n6
  have u6 := (u3.trans (p5.mono n3)).trans (d6.mono (by omega))
  have r46 := O4.out.brow.below d6
  have KX6 := hide (kept_block KX5.out d6)
  obtain ⟨x0, x1, x2, x3, x4⟩ := HBX.out _ u6
  obtain ⟨⟨y0, y1, y2', y3, y4'⟩, -⟩ := cells5 KX6.out
  clear r5
  generalize hw6 : w5.drewN n6 = w6 at *
  clear hw6
  go_wp2_with fail
  go_region_held3 (fun W => (W.cell? ⟨w4.heap.size, 0, none⟩ = some (.int .i64 K) ∧ W.cell? ⟨w4.heap.size, 1, none⟩ = some (.int .i64 I) ∧ W.cell? ⟨w4.heap.size, 2, none⟩ = some (.int .i64 A) ∧ W.cell? ⟨w4.heap.size, 3, none⟩ = some (.int .i64 B) ∧ W.cell? ⟨w4.heap.size, 4, none⟩ = some (.slice ao4 n cp4)) ∧ (W.cell? ⟨w.heap.size, 0, none⟩ = some (.int .i64 K) ∧ W.cell? ⟨w.heap.size, 1, none⟩ = some (.int .i64 I) ∧ W.cell? ⟨w.heap.size, 2, none⟩ = some (.int .i64 A) ∧ W.cell? ⟨w.heap.size, 3, none⟩ = some (.int .i64 B) ∧ W.cell? ⟨w.heap.size, 4, none⟩ = some (.slice ao n c))) (first | exact ⟨(cells5 kx8).1, HBX.out _ u8⟩ | exact ⟨(cells5 kx7).1, HBX.out _ u7⟩ | go_keep) (first
    | (go_at_call 15; refine (toPdu_made K I A B ao n c l _ (rb.below (below_drewN u6 _)) (by omega)).mono ?_; rintro e w7 ⟨ao7, cp7, y7, rfl, d7, -, o7, hb7⟩; have u7 := u6.trans ((undrew hb7).mono u6.size); have kx7 := kept_block KX6.out (undrew hb7))
    | (go_at_call 8; refine (eqPdu_same K I A B _ _ _ y4 _ _ _ y7 (D4.out.trans d7.symm) _ (r46.below (undrew hb7)) o7.brow).mono ?_; rintro e w8 ⟨rfl, hb8⟩; have u8 := u7.trans (hb8.mono u7.size); have kx8 := kept_block kx7 hb8))
  have d8' : Below w6.heap.size w6 w8 := (undrew hb7).trans (hb8.mono (undrew hb7).size)
  have d8 : Below w5.heap.size w5 w8 := d6.trans (d8'.mono d6.size)
  have O48 := hide (O4.out.below d8)
  have o58 := own_below ho5 d8
  have p8 : Below w3.heap.size w3 w8 := p5.trans (d8.mono (by omega))
  have n8 := d8.size
  clear x0 x1 x2 x3 x4 y0 y1 y2' y3 y4' hb7 hb8 o7 d7 r46 u6 u7 kx7 d8' d8 d6 O4 ho5 p5 KX5 KX6 u8
  obtain ⟨⟨y0, y1, y2', y3, y4'⟩, -⟩ := cells5 kx8
  have hE := endBs_le y4 1
  have hyl := O48.out.size
  -- the marks
  go_wp2_with fail
  refine (markPdu_grown K I A B _ _ _ _ y4 1 _ O48.out (by omega) (by omega) (by omega)).mono ?_
  rintro e w9 ⟨rfl, -, on9⟩
  generalize endBs 1 y4 = E9 at *
  have o59 := on9.own o58 (fun k hk hb => by have h1 := (o58.lt k hk).1; have h2 := (BK4.out k hb).2; omega)
  have p9 : Below w3.heap.size w3 w9 := p8.trans (on9.below (by omega) (fun b hb => (BK4.out b hb).1))
  have r59 := row_own o59 r3.byte
  have n9 := on9.size
  clear y0 y1 y2' y3 y4' kx8 O48 o58 p8 on9
  go_wp2_with fail
  refine (eq_same _ _ _ _ _ _ P _ r59 (r3.below p9)).mono ?_
  rintro e w10 ⟨rfl, n10, rfl⟩
  have o5a := own_below o59 (below_drewN (Below.refl _ _) n10)
  have p10 : Below w3.heap.size w3 (w9.drewN n10) := below_drewN p9 n10
  have n10' := p10.size
  clear o59 p9 r59
  generalize w9.drewN n10 = w10 at *
  go_wp2_with fail
  refine (mark_grown _ _ _ _ P _ _ o5a (by omega) (by omega) (by omega)).mono ?_
  rintro e w11 ⟨rfl, o11, g11⟩
  have p11 := p10.grown g11 p10.size (fun k hk => by have := (o5a.lt k hk).1; omega)
  have r11 := row_own o11 (marks_byte _ _)
  clear g11 o5a p10 o11
  have u11 := u3.trans (p11.mono n3)
  go_wp2_with fail
  refine (held_any _ _ _ _ _ r11 (by omega) (by omega) (by omega)).mono ?_
  rintro e w12 ⟨rfl, rfl⟩
  obtain ⟨x0, x1, x2, x3, x4⟩ := HBX.out _ u11
  go_wp2_with fail
  refine (toPdu_made K I A B ao n c l _ (rb.below u11) (by omega)).mono ?_
  rintro e w13 ⟨ao13, cp13, y13, rfl, d13, -, o13, hb13⟩
  have D13 := hide d13
  clear x0 x1 x2 x3 x4 d13
  go_wp2_with fail
  refine (implPutMsg_made S hS K I A B _ n _ y13 P (by rw [D13.out]; exact HP.out) _ o13.brow).mono ?_
  rintro e w14 ⟨ao14, cp14, rfl, -, r14, hb14⟩
  have t14 := hb13.trans (hb14.mono hb13.size)
  have p14 := p11.trans (t14.mono p11.size)
  have u14 := u11.trans (t14.mono u11.size)
  clear hb13 hb14 o13
  go_wp2_with fail
  refine (eq_same _ _ _ _ _ _ P _ r14 (r3.below p14)).mono ?_
  rintro e w15 ⟨rfl, n15, rfl⟩
  go_wp2_with fail
  refine (held_any _ _ _ _ _ (r11.below (below_drewN t14 n15)) (by omega) (by omega) (by omega)).mono ?_
  rintro e w16 ⟨rfl, rfl⟩
  go_wp2
  go_ret
  exact ⟨rfl, below_drewN (q0.trans (u14.mono q0.size)) n15⟩

theorem fnExactPutMsg_own : ownKnob Try.prog.godebug = none := by kernel_rfl
theorem fnExactPutMsg_laid : laidOutB Try.prog = true := by kernel_rfl

open Go.ChangeShapes Go.WideShapes Go.ChangeAt in
open Go.ChangeMaps (open_string shut_string) in
set_option maxRecDepth 100000 in
theorem fnExactPutMsg_lifted (os : Os) (started : os.Started) (H : Type) (enc : TypeId × Value → H) :
    ReturnsInHanded {} Try.checked os 4 .any (Rows.fnExactPutMsgSpec.pre6 enc Try.prog Try.f4 Rows.fnExactPutMsgRow.domain false) (Rows.fnExactPutMsgSpec.post enc Try.prog Try.f4 false true false false) := by
  refine returnsInHanded_of_change (C := Try.checked) fnExactPutMsg_own started (by kernel_rfl) Try.func4
    (ChangeSpec.witness6 (enc := enc) (C := Try.checked) false ⟨#[], #[.string ByteArray.empty, .agg #[.int .i64 0, .int .i64 0, .int .i64 0, .int .i64 0, .slice none 0 0]], []⟩ 8 (by kernel_rfl) (by kernel_rfl) (by kernel_rfl) (by kernel_rfl)) ?_
  intro W base args ds gs before hval0 hW hcnd _
  have hval : ∀ (j : Nat) t v, Try.f4.params[j]? = some t → args[j]? = some v → Value.okWide Try.prog W .any base t v := hval0
  have hW' := hW
  obtain ⟨p, q, hA0, hV, rfl, hfz, hnd⟩ := hW
  have hA : DataW.TrodAll enc Try.prog W 0 (fun _ => true) true Try.f4.params.toList args.toList ds p := hA0
  rw [Try.params4] at hA hval
  obtain ⟨v0, vs0, d0, ds0, p0, q0, hargs, rfl, rfl, h0, r0⟩ := trodAll_cons hA
  obtain ⟨v1, vs1, d1, ds1, p1, q1, rfl, rfl, rfl, h1, r1⟩ := trodAll_cons r0
  obtain ⟨rfl, rfl, rfl⟩ := trodAll_nil r1
  obtain rfl : args = #[v0, v1] := by cases args; simp_all
  obtain ⟨rfl, rfl⟩ := trodVars_none hV
  obtain ⟨a0, rfl, rfl, rfl, w0⟩ := open_string Try.underlying9 (hval 0 9 v0 rfl rfl) h0
  have bt1 : BindTypes Try.prog 34 89 87 48 3 9 _ _ _ _ _ _ := ⟨Try.underlying34, Try.underlying89, Try.underlying87, Try.underlying48, Try.underlying3, Try.underlying9, ⟨rfl, rfl⟩, ⟨rfl, rfl⟩, ⟨rfl, rfl⟩, ⟨rfl, rfl⟩, ⟨rfl, rfl⟩, ⟨rfl, rfl⟩, (by kernel_rfl), (by kernel_rfl), (by kernel_rfl), (by kernel_rfl), (by kernel_rfl)⟩
  have k1 := h1
  have lt1 : ∀ x ∈ p1, x.block < W.heap.size := by obtain ⟨m, hm⟩ := k1; exact DataW.trod_lt m _ _ _ hm
  obtain ⟨K1, I1, A1, B1, a1, len1, cap1, z1, rfl, w1⟩ := open_pdu bt1 Try.underlying36 ⟨rfl, rfl⟩ ⟨rfl, rfl⟩ ⟨rfl, rfl⟩ ⟨rfl, rfl⟩ ⟨rfl, rfl⟩ (by kernel_rfl) (by kernel_rfl) (hval 1 36 v1 rfl rfl) h1
  clear hA0 hval0
  refine (exactPutMsg_walk a0 K1 I1 A1 B1 a1 len1 cap1 z1 W w0 w1).mono fun e W' ⟨he, bel⟩ => ?_
  subst he
  exact ⟨_, rfl, _, _, _, [], _, [], hW', trodAll_mk1 (shut_bool Try.underlying4 _), (trodAll_cons_mk (shut_string Try.underlying9 w0) (trodAll_cons_mk (Below.trod fnExactPutMsg_laid (by kernel_rfl) (of_decide_eq_true (by kernel_rfl)) k1 bel lt1) trodAll_mk0)), rfl, bel.frame _, fun h => by cases h⟩

theorem fnExactPutMsg_holds : Rows.FnExactPutMsgSaid :=
  OpenClaim.holds_of_wide 4 Try.f4 rfl rfl rfl rfl rfl rfl rfl ⟨rfl, rfl, rfl, rfl, rfl⟩ rfl rfl rfl rfl rfl (by kernel_rfl) Try.func4 (by kernel_rfl)
    (of_decide_eq_true (by kernel_rfl)) (by unfold Func.isWrapper; first | (rw [if_pos (by decide +kernel)]; kernel_rfl) | (rw [if_neg (by decide +kernel)]; exact ⟨rfl, rfl⟩))
    (fun os started H enc _ => fnExactPutMsg_lifted os started H enc)

#print axioms fnExactPutMsg_holds

end Go.Proofs.Ytamglfhnhjgdjab
