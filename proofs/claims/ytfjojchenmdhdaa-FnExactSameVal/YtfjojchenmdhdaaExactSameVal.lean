/-
  FnExactSameVal answers true at all arguments: SameVal answers as the specification and writes into no argument.
-/
import Derived.Test.YtfjojchenmdhdaaExactValBox
import Derived.WalkKit
import Derived.ProofKit
import Derived.OpenShut
import Derived.ShutString
import Derived.ChangeOld
import Derived.Below
import Derived.Lib.SmallJoins
namespace Go.Proofs.Ytfjojchenmdhdaa
open Go.RowKit

set_option maxRecDepth 100000 in
set_option maxHeartbeats 2000000 in
theorem exactSameVal_walk (K N : Int) (S : ByteArray) (a1 : Option Addr) (l1 c1 : Nat) (z1 : List Int) (K' N' : Int) (S' : ByteArray) (a2 : Option Addr) (l2 c2 : Nat) (z2 : List Int) (w : World) (hS : S.size ≤ maxLen) (h1 : IRow w a1 l1 c1 z1) (hS' : S'.size ≤ maxLen) (h2 : IRow w a2 l2 c2 z2) :
    Calls Try.prog 5 #[.agg #[.int .i64 K, .int .i64 N, .string S, .slice a1 l1 c1], .agg #[.int .i64 K', .int .i64 N', .string S', .slice a2 l2 c2]] w fun e w' => e = .returned (.bool true) ∧ Below w.heap.size w w' := by
  have hle := h1.le
  have htop := h1.top
  have hle' := h2.le
  have htop' := h2.top
  by_cases g0 : (1048576 : Int) < S.size + l1
  · go_enter Try.func5, Try.ntmps5
    go_wp2_with fail
    refine (szVal_any K N S a1 l1 c1 1048576 _ hS (Nat.le_trans hle htop) (by omega) (by omega)).mono ?_
    rintro e w1 ⟨rfl, hb1⟩
    rw [if_neg (by omega)]
    go_wp2
    go_ret
    exact ⟨rfl, (below_two w _ _).trans (hb1.mono (below_two w _ _).size)⟩
  by_cases g1 : (1048576 : Int) - S.size - l1 < S'.size + l2
  · go_enter Try.func5, Try.ntmps5
    go_wp2_with fail
    refine (szVal_any K N S a1 l1 c1 1048576 _ hS (Nat.le_trans hle htop) (by omega) (by omega)).mono ?_
    rintro e w1 ⟨rfl, hb1⟩
    rw [if_pos (by omega)]
    have q0 := below_two w (.cells #[.int .i64 K, .int .i64 N, .string S, .slice a1 l1 c1] 39) (.cells #[.int .i64 K', .int .i64 N', .string S', .slice a2 l2 c2] 39)
    have u1 := q0.trans (hb1.mono q0.size)
    obtain ⟨-, x0, x1, x2, x3⟩ := box2_cells w1 hb1
    clear hb1 q0
    go_wp2_with fail
    refine (szVal_any K' N' S' a2 l2 c2 _ _ hS' (Nat.le_trans hle' htop') (by omega) (by omega)).mono ?_
    rintro e w2 ⟨rfl, hb2⟩
    rw [if_neg (by omega)]
    go_wp2
    go_ret
    exact ⟨rfl, u1.trans (hb2.mono u1.size)⟩
  generalize hP : sameV K N S z1 K' N' S' z2 = P
  have HP := hide hP
  clear hP
  go_enter Try.func5, Try.ntmps5
  go_wp2_with fail
  refine (szVal_any K N S a1 l1 c1 1048576 _ hS (Nat.le_trans hle htop) (by omega) (by omega)).mono ?_
  rintro e w1 ⟨rfl, hb1⟩
  rw [if_pos (by omega)]
  have HBX : Hid (∀ W, Below ((w.alloc (.cells #[.int .i64 K, .int .i64 N, .string S, .slice a1 l1 c1] 39)).alloc (.cells #[.int .i64 K', .int .i64 N', .string S', .slice a2 l2 c2] 39)).heap.size ((w.alloc (.cells #[.int .i64 K, .int .i64 N, .string S, .slice a1 l1 c1] 39)).alloc (.cells #[.int .i64 K', .int .i64 N', .string S', .slice a2 l2 c2] 39)) W → _) := fun W h => box2_cells W h
  have q0 := below_two w (.cells #[.int .i64 K, .int .i64 N, .string S, .slice a1 l1 c1] 39) (.cells #[.int .i64 K', .int .i64 N', .string S', .slice a2 l2 c2] 39)
  have r1 := h1.below q0
  have r2 := h2.below q0
  obtain ⟨-, x0, x1, x2, x3⟩ := HBX.out w1 hb1
  generalize ((w.alloc (.cells #[.int .i64 K, .int .i64 N, .string S, .slice a1 l1 c1] 39)).alloc (.cells #[.int .i64 K', .int .i64 N', .string S', .slice a2 l2 c2] 39)) = wb at *
  have u1 := hb1
  clear hb1
  go_wp2_with fail
  refine (szVal_any K' N' S' a2 l2 c2 _ _ hS' (Nat.le_trans hle' htop') (by omega) (by omega)).mono ?_
  rintro e w2 ⟨rfl, hb2⟩
  rw [if_pos (by omega)]
  have u2 := u1.trans (hb2.mono u1.size)
  clear hb2 u1 x0 x1 x2 x3
  obtain ⟨⟨x0, x1, x2, x3⟩, y0, y1, y2, y3⟩ := HBX.out w2 u2
  go_wp2_with fail
  go_region_held3 (fun W => (W.cell? ⟨w.heap.size, 0, none⟩ = some (.int .i64 K) ∧ W.cell? ⟨w.heap.size, 1, none⟩ = some (.int .i64 N) ∧ W.cell? ⟨w.heap.size, 2, none⟩ = some (.string S) ∧ W.cell? ⟨w.heap.size, 3, none⟩ = some (.slice a1 l1 c1)) ∧ (W.cell? ⟨w.heap.size + 1, 0, none⟩ = some (.int .i64 K') ∧ W.cell? ⟨w.heap.size + 1, 1, none⟩ = some (.int .i64 N') ∧ W.cell? ⟨w.heap.size + 1, 2, none⟩ = some (.string S') ∧ W.cell? ⟨w.heap.size + 1, 3, none⟩ = some (.slice a2 l2 c2))) (first | exact HBX.out _ u5 | exact HBX.out _ u4 | exact HBX.out _ u3 | go_keep) (first
    | (go_at_call 21; have u3' := u3; refine (toVal_made K' N' S' a2 l2 c2 z2 _ (r2.below u3') (by omega)).mono ?_; rintro e w4 ⟨ao4, cp4, rfl, -, r4, hb4⟩; have u4 := u3.trans (hb4.mono u3.size))
    | (go_at_call 21; refine (toVal_made K N S a1 l1 c1 z1 _ (r1.below (below_drewN u2 _)) (by omega)).mono ?_; rintro e w3 ⟨ao3, cp3, rfl, -, r3, hb3⟩; have u3 := u2.trans ((undrew hb3).mono u2.size))
    | (go_at_call 19; refine (specSameVal_any K N S _ _ _ z1 K' N' S' _ _ _ z2 _ (r3.below hb4) r4).mono ?_; rintro e w5 ⟨rfl, hb5⟩; rw [HP.out]; have u5 := u4.trans (hb5.mono u4.size)))
  clear u2 u3 u4 hb3 hb4 hb5 r3 r4
  clear x0 x1 x2 x3 y0 y1 y2 y3
  obtain ⟨⟨x0, x1, x2, x3⟩, -⟩ := HBX.out w5 u5
  go_wp2_with fail
  refine (toVal_made K N S a1 l1 c1 z1 _ (r1.below u5) (by omega)).mono ?_
  rintro e w6 ⟨ao6, cp6, rfl, -, r6, hb6⟩
  have u6 := u5.trans (hb6.mono u5.size)
  have u6' := u6.trans ((below_one w6 (.cells #[.int .i64 K, .int .i64 N, .string S, .slice ao6 l1 cp6] 26)).mono u6.size)
  clear hb6 u5 x0 x1 x2 x3
  obtain ⟨-, y0, y1, y2, y3⟩ := HBX.out _ u6'
  clear u6'
  go_wp2_with fail
  refine (toVal_made K' N' S' a2 l2 c2 z2 _ (r2.below (u6.trans ((below_one w6 _).mono u6.size))) (by omega)).mono ?_
  rintro e w7 ⟨ao7, cp7, rfl, -, r7, hb7⟩
  have HKX := kept_block (block_last w6 _) hb7
  have v7 := (below_one w6 _).trans (hb7.mono (below_one w6 _).size)
  have u7 := u6.trans (v7.mono u6.size)
  have r67 := r6.below v7
  obtain ⟨⟨x0, x1, x2, x3⟩, -⟩ := cells4 (kept_block HKX (below_one w7 (.cells #[.int .i64 K', .int .i64 N', .string S', .slice ao7 l2 cp7] 26)))
  clear hb7 v7 u6 r6 y0 y1 y2 y3
  go_wp2_with fail
  refine (implSameVal_any K N S _ _ _ z1 K' N' S' _ _ _ z2 _ (r67.below (below_one w7 _)) (r7.below (below_one w7 _))).mono ?_
  rintro e w8 ⟨rfl, hb8⟩
  rw [HP.out]
  have HKY8 := kept_block (block_last w7 _) hb8
  have v8 := (below_one w7 _).trans (hb8.mono (below_one w7 _).size)
  have HKX8 := kept_block HKX v8
  have u8 := u7.trans (v8.mono u7.size)
  have r68 := r67.below v8
  have r78 := r7.below v8
  clear hb8 v8 u7 r67 r7 x0 x1 x2 x3 HKX
  obtain ⟨⟨x0, x1, x2, x3⟩, -⟩ := cells4 HKX8
  obtain ⟨⟨y0, y1, y2, y3⟩, -⟩ := HBX.out _ u8
  have HX8 := hide HKX8
  have HY8 := hide HKY8
  clear HKX8 HKY8
  go_wp2_with fail
  go_region_held3 (fun W => (W.cell? ⟨w6.heap.size, 0, none⟩ = some (.int .i64 K) ∧ W.cell? ⟨w6.heap.size, 1, none⟩ = some (.int .i64 N) ∧ W.cell? ⟨w6.heap.size, 2, none⟩ = some (.string S) ∧ W.cell? ⟨w6.heap.size, 3, none⟩ = some (.slice ao6 l1 cp6)) ∧ (W.cell? ⟨w.heap.size, 0, none⟩ = some (.int .i64 K) ∧ W.cell? ⟨w.heap.size, 1, none⟩ = some (.int .i64 N) ∧ W.cell? ⟨w.heap.size, 2, none⟩ = some (.string S) ∧ W.cell? ⟨w.heap.size, 3, none⟩ = some (.slice a1 l1 c1))) (first | exact ⟨(cells4 kx10).1, (HBX.out _ u10).1⟩ | exact ⟨(cells4 kx9).1, (HBX.out _ u9).1⟩ | go_keep) (first
    | (go_at_call 21; refine (toVal_made K N S a1 l1 c1 z1 _ (r1.below (below_drewN u8 _)) (by omega)).mono ?_; rintro e w9 ⟨ao9, cp9, rfl, -, r9, hb9⟩; have u9 := u8.trans ((undrew hb9).mono u8.size); have kx9 := kept_block HX8.out (undrew hb9))
    | (go_at_call 22; refine (eqVal_same K N S _ _ _ _ _ _ z1 _ (r68.below (undrew hb9)) r9).mono ?_; rintro e w10 ⟨rfl, hb10⟩; have u10 := u9.trans (hb10.mono u9.size); have kx10 := kept_block kx9 hb10))
  have v10 := (undrew hb9).trans (hb10.mono (undrew hb9).size)
  have HKY10 := kept_block HY8.out v10
  have r710 := r78.below v10
  clear x0 x1 x2 x3 y0 y1 y2 y3 hb9 hb10 kx9 kx10 r9 r68 u8 u9 v10 HX8 HY8 r78
  obtain ⟨⟨x0, x1, x2, x3⟩, -⟩ := cells4 HKY10
  obtain ⟨-, y0, y1, y2, y3⟩ := HBX.out _ u10
  have HY10 := hide HKY10
  clear HKY10
  go_wp2_with fail
  go_region_held3 (fun W => (W.cell? ⟨w7.heap.size, 0, none⟩ = some (.int .i64 K') ∧ W.cell? ⟨w7.heap.size, 1, none⟩ = some (.int .i64 N') ∧ W.cell? ⟨w7.heap.size, 2, none⟩ = some (.string S') ∧ W.cell? ⟨w7.heap.size, 3, none⟩ = some (.slice ao7 l2 cp7)) ∧ (W.cell? ⟨w.heap.size + 1, 0, none⟩ = some (.int .i64 K') ∧ W.cell? ⟨w.heap.size + 1, 1, none⟩ = some (.int .i64 N') ∧ W.cell? ⟨w.heap.size + 1, 2, none⟩ = some (.string S') ∧ W.cell? ⟨w.heap.size + 1, 3, none⟩ = some (.slice a2 l2 c2))) (first | exact ⟨(cells4 kx12).1, (HBX.out _ u12).2⟩ | exact ⟨(cells4 kx11).1, (HBX.out _ u11).2⟩ | go_keep) (first
    | (go_at_call 21; refine (toVal_made K' N' S' a2 l2 c2 z2 _ (r2.below (below_drewN u10 _)) (by omega)).mono ?_; rintro e w11 ⟨ao11, cp11, rfl, -, r11, hb11⟩; have u11 := u10.trans ((undrew hb11).mono u10.size); have kx11 := kept_block HY10.out (undrew hb11))
    | (go_at_call 22; refine (eqVal_same K' N' S' _ _ _ _ _ _ z2 _ (r710.below (undrew hb11)) r11).mono ?_; rintro e w12 ⟨rfl, hb12⟩; have u12 := u11.trans (hb12.mono u11.size); have kx12 := kept_block kx11 hb12))
  go_wp2
  go_ret
  exact ⟨rfl, q0.trans (u12.mono q0.size)⟩

theorem fnExactSameVal_own : ownKnob Try.prog.godebug = none := by kernel_rfl
theorem fnExactSameVal_laid : laidOutB Try.prog = true := by kernel_rfl

open Go.ChangeShapes Go.WideShapes Go.ChangeAt in
set_option maxRecDepth 100000 in
theorem fnExactSameVal_open {H : Type} {enc : TypeId × Value → H} {W : World} {r : Reach} {b0 : Nat} {v : Value} {d : DataW H} {p : List MemPlace} (hv : Value.okWide Try.prog W r b0 39 v) (h : DataW.Trod enc Try.prog W 0 (fun _ => true) true 39 v d p) :
    ∃ K N S a l c z, v = .agg #[.int .i64 K, .int .i64 N, .string S, .slice a l c] ∧ S.size ≤ maxLen ∧ IRow W a l c z := by
  obtain ⟨c0, c1, c2, c3, y0, y1, y2, y3, m, rfl, -, -, hy0, hy1, hy2, hy3⟩ := Go.Joins.open_agg4 Try.underlying39 (by kernel_rfl) (show Try.prog.cellsOf 39 = 4 by kernel_rfl) hv h
  obtain ⟨K, e0, -, -⟩ := DataW.trod_int Try.underlying3 hy0
  obtain ⟨N, e1, -, -⟩ := DataW.trod_int Try.underlying3 hy1
  obtain ⟨S, e2, -, hS⟩ := DataW.trod_string Try.underlying9 hy2
  simp only [List.cons.injEq, and_true] at e0 e1 e2
  subst e0 e1 e2
  rcases open_ints Try.underlying24 Try.underlying3 (by kernel_rfl) hy3 with ⟨hcs, _⟩ | ⟨x, l, c, zs, hcs, _, hl, hm, hz, _, hcell, hwz⟩
  · simp only [List.cons.injEq, and_true] at hcs
    subst hcs
    exact ⟨K, N, S, none, 0, 0, [], rfl, hS, irow_nil W⟩
  · simp only [List.cons.injEq, and_true] at hcs
    subst hcs
    exact ⟨K, N, S, some x, l, c, zs.take l, rfl, hS, irow_open hl hm (by simpa using hz) hcell hwz⟩

open Go.ChangeShapes Go.WideShapes Go.ChangeAt in
open Go.ChangeMaps (open_string shut_string) in
set_option maxRecDepth 100000 in
theorem fnExactSameVal_lifted (os : Os) (started : os.Started) (H : Type) (enc : TypeId × Value → H) :
    ReturnsInHanded {} Try.checked os 5 .any (Rows.fnExactSameValSpec.pre6 enc Try.prog Try.f5 Rows.fnExactSameValRow.domain false) (Rows.fnExactSameValSpec.post enc Try.prog Try.f5 false true false false) := by
  refine returnsInHanded_of_change (C := Try.checked) fnExactSameVal_own started (by kernel_rfl) Try.func5
    (ChangeSpec.witness6 (enc := enc) (C := Try.checked) false ⟨#[], #[.agg #[.int .i64 0, .int .i64 0, .string ByteArray.empty, .slice none 0 0], .agg #[.int .i64 0, .int .i64 0, .string ByteArray.empty, .slice none 0 0]], []⟩ 8 (by kernel_rfl) (by kernel_rfl) (by kernel_rfl) (by kernel_rfl)) ?_
  intro W base args ds gs before hval0 hW hcnd _
  have hval : ∀ (j : Nat) t v, Try.f5.params[j]? = some t → args[j]? = some v → Value.okWide Try.prog W .any base t v := hval0
  have hW' := hW
  obtain ⟨p, q, hA0, hV, rfl, hfz, hnd⟩ := hW
  have hA : DataW.TrodAll enc Try.prog W 0 (fun _ => true) true Try.f5.params.toList args.toList ds p := hA0
  rw [Try.params5] at hA hval
  obtain ⟨v0, vs0, d0, ds0, p0, q0, hargs, rfl, rfl, h0, r0⟩ := trodAll_cons hA
  obtain ⟨v1, vs1, d1, ds1, p1, q1, rfl, rfl, rfl, h1, r1⟩ := trodAll_cons r0
  obtain ⟨rfl, rfl, rfl⟩ := trodAll_nil r1
  obtain rfl : args = #[v0, v1] := by cases args; simp_all
  obtain ⟨rfl, rfl⟩ := trodVars_none hV
  have k0 := h0
  have lt0 : ∀ x ∈ p0, x.block < W.heap.size := by obtain ⟨m, hm⟩ := k0; exact DataW.trod_lt m _ _ _ hm
  obtain ⟨K0, N0, S0, a0, len0, cap0, z0, rfl, wS0, w0⟩ := fnExactSameVal_open (hval 0 39 v0 rfl rfl) h0
  have k1 := h1
  have lt1 : ∀ x ∈ p1, x.block < W.heap.size := by obtain ⟨m, hm⟩ := k1; exact DataW.trod_lt m _ _ _ hm
  obtain ⟨K1, N1, S1, a1, len1, cap1, z1, rfl, wS1, w1⟩ := fnExactSameVal_open (hval 1 39 v1 rfl rfl) h1
  clear hA0 hval0
  refine (exactSameVal_walk K0 N0 S0 a0 len0 cap0 z0 K1 N1 S1 a1 len1 cap1 z1 W wS0 w0 wS1 w1).mono fun e W' ⟨he, bel⟩ => ?_
  subst he
  exact ⟨_, rfl, _, _, _, [], _, [], hW', trodAll_mk1 (shut_bool Try.underlying4 _), (trodAll_cons_mk (Below.trod fnExactSameVal_laid (by kernel_rfl) (of_decide_eq_true (by kernel_rfl)) k0 bel lt0) (trodAll_cons_mk (Below.trod fnExactSameVal_laid (by kernel_rfl) (of_decide_eq_true (by kernel_rfl)) k1 bel lt1) trodAll_mk0)), rfl, bel.frame _, fun h => by cases h⟩

theorem fnExactSameVal_holds : Rows.FnExactSameValSaid :=
  OpenClaim.holds_of_wide 5 Try.f5 rfl rfl rfl rfl rfl rfl rfl ⟨rfl, rfl, rfl, rfl, rfl⟩ rfl rfl rfl rfl rfl (by kernel_rfl) Try.func5 (by kernel_rfl)
    (of_decide_eq_true (by kernel_rfl)) (by unfold Func.isWrapper; first | (rw [if_pos (by decide +kernel)]; kernel_rfl) | (rw [if_neg (by decide +kernel)]; exact ⟨rfl, rfl⟩))
    (fun os started H enc _ => fnExactSameVal_lifted os started H enc)

#print axioms fnExactSameVal_holds

end Go.Proofs.Ytfjojchenmdhdaa
