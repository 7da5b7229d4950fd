/-
  FnExactPutVal answers true at all arguments: PutVal answers as the specification; it writes into no argument and keeps nothing of one; its answer owns its memory, behind another call too.
-/
import Derived.Test.YtfjojchenmdhdaaValPutMade
import Derived.Test.YtfjojchenmdhdaaCopy
import Derived.WalkKit
import Derived.ProofKit
import Derived.OpenShut
import Derived.ShutString
import Derived.ChangeOld
import Derived.Below
import Derived.Lib.SmallJoins
namespace Go.Proofs.Ytfjojchenmdhdaa
open Go.RowKit

set_option maxRecDepth 100000 in
set_option maxHeartbeats 4000000 in
theorem exactPutVal_walk (a0 : Option Addr) (l0 c0 : Nat) (z0 : List Int) (K N : Int) (S : ByteArray) (a1 : Option Addr) (l1 c1 : Nat) (z1 : List Int) (w : World) (h0 : Row w a0 l0 c0 z0) (hS : S.size ≤ maxLen) (h1 : IRow w a1 l1 c1 z1) :
    Calls Try.prog 6 #[.slice a0 l0 c0, .agg #[.int .i64 K, .int .i64 N, .string S, .slice a1 l1 c1]] w fun e w' => e = .returned (.bool true) ∧ Below w.heap.size w w' := by
  by_cases g0 : 1048576 < l0
  · go_enter Try.func6, Try.ntmps6
    go_wp2
    go_ret
    exact ⟨rfl, below_one _ _⟩
  have hle := h1.le
  have htop := h1.top
  by_cases g1 : (1048576 : Int) < S.size + l1
  · go_enter Try.func6, Try.ntmps6
    go_wp2_with fail
    refine (szVal_any K N S a1 l1 c1 1048576 _ hS (Nat.le_trans hle htop) (by omega) (by omega)).mono ?_
    rintro e w1 ⟨rfl, hb1⟩
    rw [if_neg (by omega)]
    go_wp2
    go_ret
    exact ⟨rfl, (below_one w _).trans (hb1.mono (below_one w _).size)⟩
  have s0 := h0.size
  have hlen : (putV z0 K N S z1).length ≤ 3000000 := by have := putV_length z0 K N S z1; omega
  generalize hP : putV z0 K N S z1 = P at hlen
  have HP := hide hP
  clear hP
  go_enter Try.func6, Try.ntmps6
  go_wp2_with fail
  refine (szVal_any K N S a1 l1 c1 1048576 _ hS (Nat.le_trans hle htop) (by omega) (by omega)).mono ?_
  rintro e w2 ⟨rfl, hb2⟩
  rw [if_pos (by omega)]
  have HBX : Hid (∀ W, Below (w.alloc (.cells #[.int .i64 K, .int .i64 N, .string S, .slice a1 l1 c1] 39)).heap.size (w.alloc (.cells #[.int .i64 K, .int .i64 N, .string S, .slice a1 l1 c1] 39)) W → _) := fun W h => (cells4 (kept_block (block_last w _) h)).1
  have q0 := below_one w (.cells #[.int .i64 K, .int .i64 N, .string S, .slice a1 l1 c1] 39)
  have rb := h0.below q0
  have rv := h1.below q0
  obtain ⟨x0, x1, x2, x3⟩ := HBX.out w2 hb2
  generalize (w.alloc (.cells #[.int .i64 K, .int .i64 N, .string S, .slice a1 l1 c1] 39)) = wb at *
  have u2 := hb2
  clear hb2
  go_wp2_with fail
  go_region_held3 (fun W => (W.cell? ⟨w.heap.size, 0, none⟩ = some (.int .i64 K) ∧ W.cell? ⟨w.heap.size, 1, none⟩ = some (.int .i64 N) ∧ W.cell? ⟨w.heap.size, 2, none⟩ = some (.string S) ∧ W.cell? ⟨w.heap.size, 3, none⟩ = some (.slice a1 l1 c1))) (first | exact HBX.out _ u3 | exact HBX.out _ u3b | exact HBX.out _ u3a | go_keep) (first
    | (go_at_call 24; refine (copy_made _ _ _ z0 _ (rb.below (below_drewN u2 _)) (by omega)).mono ?_; rintro e w3a ⟨ao3a, cp3a, rfl, -, r3a, hb3a⟩; have u3a := u2.trans ((undrew hb3a).mono u2.size))
    | (go_at_call 21; refine (toVal_made K N S a1 l1 c1 z1 _ (rv.below u3a) (by omega)).mono ?_; rintro e w3b ⟨ao3b, cp3b, rfl, -, r3b, hb3b⟩; have u3b := u3a.trans (hb3b.mono u3a.size))
    | (go_at_call 23; refine (specPutVal_made _ _ _ z0 K N S _ _ _ z1 P HP.out _ (r3a.below hb3b) hS r3b (by omega)).mono ?_; rintro e w3 ⟨ao3, cp3, rfl, -, r3, hb3⟩; have u3 := u3b.trans (hb3.mono u3b.size)))
  clear u2 u3a u3b hb3a hb3b hb3 r3a r3b x0 x1 x2 x3
  have n3 := u3.size
  go_wp2_with fail
  refine (copy_made _ _ _ z0 _ (rb.below u3) (by omega)).mono ?_
  rintro e w4 ⟨ao4, cp4, rfl, ho4, r4, hb4⟩
  have n4 := hb4.size
  have u4 := u3.trans (hb4.mono n3)
  obtain ⟨x0, x1, x2, x3⟩ := HBX.out w4 u4
  go_wp2_with fail
  refine (toVal_made K N S a1 l1 c1 z1 _ (rv.below u4) (by omega)).mono ?_
  rintro e w5 ⟨ao5, cp5, rfl, ho5, r5, hb5⟩
  have n5 := hb5.size
  clear x0 x1 x2 x3 u4
  go_wp2_with fail
  refine (implPutVal_made _ _ _ z0 K N S _ _ _ z1 P HP.out _ ((r4.below hb5).below (below_one _ _)) hS (r5.below (below_one _ _)) (by omega)).mono ?_
  rintro e w6 ⟨ao6, cp6, rfl, ho6, r6, hb6⟩
  have kx6 := kept_block (block_last w5 _) hb6
  have v6 := (below_one w5 (.cells #[.int .i64 K, .int .i64 N, .string S, .slice ao5 l1 cp5] 26)).trans (hb6.mono (below_one w5 _).size)
  have n6 := v6.size
  have ho6 := own_lt ho6 (base' := w5.heap.size) (by simp)
  clear hb6
  have p6 : Below w3.heap.size w3 w6 := (hb4.trans (hb5.mono n4)).trans (v6.mono (Nat.le_trans n4 n5))
  have e6 : Below w4.heap.size w4 w6 := hb5.trans (v6.mono n5)
  go_wp2_with fail
  refine (eq_same _ _ _ _ _ _ P _ r6 (r3.below p6)).mono ?_
  rintro e w7 ⟨rfl, n7, rfl⟩
  have d7 : Below w6.heap.size w6 (w6.drewN n7) := below_drewN (Below.refl _ _) n7
  have q7 := (u3.trans (p6.mono n3)).trans (d7.mono (by omega))
  go_wp2_with fail
  refine (copy_made _ _ _ z0 _ (rb.below q7) (by omega)).mono ?_
  rintro e w8 ⟨ao8, cp8, rfl, -, r8, hb8⟩
  have d8 : Below w6.heap.size w6 w8 := d7.trans hb8
  go_wp2_with fail
  refine (eq_same _ _ _ _ _ _ z0 _ ((r4.below e6).below d8) r8).mono ?_
  rintro e w9 ⟨rfl, n9, rfl⟩
  have d9 : Below w6.heap.size w6 (w8.drewN n9) := below_drewN d8 n9
  have u9 := (u3.trans (p6.mono n3)).trans (d9.mono (by omega))
  have kx9 := hide (kept_block kx6 d9)
  have r59 := (r5.below v6).below d9
  clear d7 d8 hb8 r8 q7 kx6
  generalize w8.drewN n9 = w9 at *
  obtain ⟨x0, x1, x2, x3⟩ := HBX.out w9 u9
  obtain ⟨⟨y0, y1, y2, y3⟩, -⟩ := cells4 kx9.out
  go_wp2_with fail
  go_region_held3 (fun W => (W.cell? ⟨w5.heap.size, 0, none⟩ = some (.int .i64 K) ∧ W.cell? ⟨w5.heap.size, 1, none⟩ = some (.int .i64 N) ∧ W.cell? ⟨w5.heap.size, 2, none⟩ = some (.string S) ∧ W.cell? ⟨w5.heap.size, 3, none⟩ = some (.slice ao5 l1 cp5)) ∧ (W.cell? ⟨w.heap.size, 0, none⟩ = some (.int .i64 K) ∧ W.cell? ⟨w.heap.size, 1, none⟩ = some (.int .i64 N) ∧ W.cell? ⟨w.heap.size, 2, none⟩ = some (.string S) ∧ W.cell? ⟨w.heap.size, 3, none⟩ = some (.slice a1 l1 c1))) (first | exact ⟨(cells4 kx11).1, HBX.out _ u11⟩ | exact ⟨(cells4 kx10).1, HBX.out _ u10⟩ | go_keep) (first
    | (go_at_call 21; refine (toVal_made K N S a1 l1 c1 z1 _ (rv.below (below_drewN u9 _)) (by omega)).mono ?_; rintro e w10 ⟨ao10, cp10, rfl, -, r10, hb10⟩; have u10 := u9.trans ((undrew hb10).mono u9.size); have kx10 := kept_block kx9.out (undrew hb10))
    | (go_at_call 22; refine (eqVal_same K N S _ _ _ _ _ _ z1 _ (r59.below (undrew hb10)) r10).mono ?_; rintro e w11 ⟨rfl, hb11⟩; have u11 := u10.trans (hb11.mono u10.size); have kx11 := kept_block kx10 hb11))
  have d11 : Below w6.heap.size w6 w11 := (d9.trans ((undrew hb10).mono d9.size)).trans (hb11.mono (Nat.le_trans d9.size (undrew hb10).size))
  have n11' := d11.size
  clear x0 x1 x2 x3 y0 y1 y2 y3 hb10 hb11 r10 r59 u9 u10 kx9 kx10 d9
  -- the marks
  have o4 : w11.ownsRow w3.heap.size 5 1 (.slice ao4 l0 cp4) l0 (cB z0) := own_below ho4 (e6.trans (d11.mono (by omega)))
  have o5 : w11.ownsRow w4.heap.size 3 1 (.slice ao5 l1 cp5) l1 (cI z1) := own_below (own_below ho5 v6) d11
  have o6 : w11.ownsRow w5.heap.size 5 1 (.slice ao6 P.length cp6) P.length (cB P) := own_below ho6 d11
  have b4 := ho4.lt
  have b5 := ho5.lt
  have p11 : Below w3.heap.size w3 w11 := p6.trans (d11.mono (by omega))
  clear d11 e6 p6 ho4 ho5 ho6 r4 r5 r6 hb4 hb5 v6 u11
  have KX11 := hide kx11
  clear kx11
  go_wp2_with fail
  refine (mark_grown _ _ _ _ z0 _ _ o4 (by omega) (by omega) (by omega)).mono ?_
  rintro e w12 ⟨rfl, o12, g12⟩
  have o5 := own_above o5 g12 (fun k hk => (b4 k hk).2)
  have o6 := own_above o6 g12 (fun k hk => Nat.lt_of_lt_of_le (b4 k hk).2 n5)
  have p12 := p11.grown g12 p11.size (fun k hk => (b4 k hk).1)
  have kx12 := kept_grown KX11.out g12 (fun k hk => by have := (b4 k hk).2; omega)
  obtain ⟨⟨y0, y1, y2, y3⟩, -⟩ := cells4 kx12
  clear o12 o4 p11 KX11 g12 kx12
  go_wp2_with fail
  refine (markVal_grown K N S _ _ _ _ z1 _ _ o5 (by omega) (by omega) (by omega)).mono ?_
  rintro e w13 ⟨rfl, o13, g13⟩
  have o6 := own_above o6 g13 (fun k hk => (b5 k hk).2)
  have p13 := p12.grown g13 p12.size (fun k hk => Nat.le_trans n4 (b5 k hk).1)
  clear o13 o5 p12 g13 y0 y1 y2 y3
  have r6 := row_own o6 r3.byte
  go_wp2_with fail
  refine (eq_same _ _ _ _ _ _ P _ r6 (r3.below p13)).mono ?_
  rintro e w14 ⟨rfl, n14, rfl⟩
  have d14 : Below w13.heap.size w13 (w13.drewN n14) := below_drewN (Below.refl _ _) n14
  have p14 : Below w3.heap.size w3 (w13.drewN n14) := below_drewN p13 n14
  have o6 := own_below o6 d14
  have n14' := p14.size
  clear d14 p13 r6 n6 n11'
  generalize w13.drewN n14 = w14 at *
  go_wp2_with fail
  refine (mark_grown _ _ _ _ P _ _ o6 (by omega) (by omega) (by omega)).mono ?_
  rintro e w15 ⟨rfl, o15, g15⟩
  have p15 := p14.grown g15 p14.size (fun k hk => Nat.le_trans (Nat.le_trans n4 n5) (o6.lt k hk).1)
  have r15 := row_own o15 (marks_byte _ _)
  clear g15 o6 p14 o15
  have u15 := u3.trans (p15.mono n3)
  go_wp2_with fail
  refine (held_any _ _ _ _ _ r15 (by omega) (by omega) (by omega)).mono ?_
  rintro e w16 ⟨rfl, rfl⟩
  obtain ⟨x0, x1, x2, x3⟩ := HBX.out w16 u15
  go_wp2_with fail
  go_region_held3 (fun W => (W.cell? ⟨w.heap.size, 0, none⟩ = some (.int .i64 K) ∧ W.cell? ⟨w.heap.size, 1, none⟩ = some (.int .i64 N) ∧ W.cell? ⟨w.heap.size, 2, none⟩ = some (.string S) ∧ W.cell? ⟨w.heap.size, 3, none⟩ = some (.slice a1 l1 c1))) (first | exact HBX.out _ u19 | exact HBX.out _ u18 | exact HBX.out _ u17 | go_keep) (first
    | (go_at_call 24; refine (copy_made _ _ _ z0 _ (rb.below (below_drewN u15 _)) (by omega)).mono ?_; rintro e w17 ⟨ao17, cp17, rfl, -, r17, hb17⟩; have u17 := u15.trans ((undrew hb17).mono u15.size))
    | (go_at_call 21; refine (toVal_made K N S a1 l1 c1 z1 _ (rv.below u17) (by omega)).mono ?_; rintro e w18 ⟨ao18, cp18, rfl, -, r18, hb18⟩; have u18 := u17.trans (hb18.mono u17.size))
    | (go_at_call 10; refine (implPutVal_made _ _ _ z0 K N S _ _ _ z1 P HP.out _ (r17.below hb18) hS r18 (by omega)).mono ?_; rintro e w19 ⟨ao19, cp19, rfl, -, r19, hb19⟩; have u19 := u18.trans (hb19.mono u18.size)))
  have t19 : Below w16.heap.size w16 w19 := ((undrew hb17).trans (hb18.mono (undrew hb17).size)).trans (hb19.mono (Nat.le_trans (undrew hb17).size hb18.size))
  clear hb17 hb18 hb19 r17 r18 u17 u18 x0 x1 x2 x3
  have p19 : Below w3.heap.size w3 w19 := p15.trans (t19.mono p15.size)
  go_wp2_with fail
  refine (eq_same _ _ _ _ _ _ P _ r19 (r3.below p19)).mono ?_
  rintro e w20 ⟨rfl, n20, rfl⟩
  go_wp2_with fail
  refine (held_any _ _ _ _ _ (r15.below (below_drewN t19 n20)) (by omega) (by omega) (by omega)).mono ?_
  rintro e w21 ⟨rfl, rfl⟩
  go_wp2
  go_ret
  exact ⟨rfl, below_drewN (q0.trans (u19.mono q0.size)) n20⟩

theorem fnExactPutVal_own : ownKnob Try.prog.godebug = none := by kernel_rfl
theorem fnExactPutVal_laid : laidOutB Try.prog = true := by kernel_rfl

open Go.ChangeShapes Go.WideShapes Go.ChangeAt in
set_option maxRecDepth 100000 in
theorem fnExactPutVal_open {H : Type} {enc : TypeId × Value → H} {W : World} {r : Reach} {b0 : Nat} {v : Value} {d : DataW H} {p : List MemPlace} (hv : Value.okWide Try.prog W r b0 39 v) (h : DataW.Trod enc Try.prog W 0 (fun _ => true) true 39 v d p) :
    ∃ K N S a l c z, v = .agg #[.int .i64 K, .int .i64 N, .string S, .slice a l c] ∧ S.size ≤ maxLen ∧ IRow W a l c z := by
  obtain ⟨c0, c1, c2, c3, y0, y1, y2, y3, m, rfl, -, -, hy0, hy1, hy2, hy3⟩ := Go.Joins.open_agg4 Try.underlying39 (by kernel_rfl) (show Try.prog.cellsOf 39 = 4 by kernel_rfl) hv h
  obtain ⟨K, e0, -, -⟩ := DataW.trod_int Try.underlying3 hy0
  obtain ⟨N, e1, -, -⟩ := DataW.trod_int Try.underlying3 hy1
  obtain ⟨S, e2, -, hS⟩ := DataW.trod_string Try.underlying9 hy2
  simp only [List.cons.injEq, and_true] at e0 e1 e2
  subst e0 e1 e2
  rcases open_ints Try.underlying24 Try.underlying3 (by kernel_rfl) hy3 with ⟨hcs, _⟩ | ⟨x, l, c, zs, hcs, _, hl, hm, hz, _, hcell, hwz⟩
  · simp only [List.cons.injEq, and_true] at hcs
    subst hcs
    exact ⟨K, N, S, none, 0, 0, [], rfl, hS, irow_nil W⟩
  · simp only [List.cons.injEq, and_true] at hcs
    subst hcs
    exact ⟨K, N, S, some x, l, c, zs.take l, rfl, hS, irow_open hl hm (by simpa using hz) hcell hwz⟩

open Go.ChangeShapes Go.WideShapes Go.ChangeAt in
open Go.ChangeMaps (open_string shut_string) in
set_option maxRecDepth 100000 in
theorem fnExactPutVal_lifted (os : Os) (started : os.Started) (H : Type) (enc : TypeId × Value → H) :
    ReturnsInHanded {} Try.checked os 6 .any (Rows.fnExactPutValSpec.pre6 enc Try.prog Try.f6 Rows.fnExactPutValRow.domain false) (Rows.fnExactPutValSpec.post enc Try.prog Try.f6 false true false false) := by
  refine returnsInHanded_of_change (C := Try.checked) fnExactPutVal_own started (by kernel_rfl) Try.func6
    (ChangeSpec.witness6 (enc := enc) (C := Try.checked) false ⟨#[], #[.slice none 0 0, .agg #[.int .i64 0, .int .i64 0, .string ByteArray.empty, .slice none 0 0]], []⟩ 8 (by kernel_rfl) (by kernel_rfl) (by kernel_rfl) (by kernel_rfl)) ?_
  intro W base args ds gs before hval0 hW hcnd _
  have hval : ∀ (j : Nat) t v, Try.f6.params[j]? = some t → args[j]? = some v → Value.okWide Try.prog W .any base t v := hval0
  have hW' := hW
  obtain ⟨p, q, hA0, hV, rfl, hfz, hnd⟩ := hW
  have hA : DataW.TrodAll enc Try.prog W 0 (fun _ => true) true Try.f6.params.toList args.toList ds p := hA0
  rw [Try.params6] at hA hval
  obtain ⟨v0, vs0, d0, ds0, p0, q0, hargs, rfl, rfl, h0, r0⟩ := trodAll_cons hA
  obtain ⟨v1, vs1, d1, ds1, p1, q1, rfl, rfl, rfl, h1, r1⟩ := trodAll_cons r0
  obtain ⟨rfl, rfl, rfl⟩ := trodAll_nil r1
  obtain rfl : args = #[v0, v1] := by cases args; simp_all
  obtain ⟨rfl, rfl⟩ := trodVars_none hV
  obtain ⟨a0, len0, cap0, rfl⟩ := okWide_slice Try.underlying22 (hval 0 22 v0 rfl rfl)
  have k0 := h0
  have lt0 : ∀ x ∈ p0, x.block < W.heap.size := by obtain ⟨m, hm⟩ := k0; exact DataW.trod_lt m _ _ _ hm
  obtain ⟨z0, w0⟩ : ∃ zs, Row W a0 len0 cap0 zs := by
    obtain ⟨fuel, hf⟩ := h0
    rcases open_ints Try.underlying22 Try.underlying5 (by kernel_rfl) hf with ⟨hcs, _⟩ | ⟨x, l, c, zs, hcs, _, hl, hm, hz, _, hcell, hwz⟩
    · simp [Value.cells] at hcs
      obtain ⟨rfl, rfl, rfl⟩ := hcs
      exact ⟨[], row_nil W⟩
    · simp [Value.cells] at hcs
      obtain ⟨rfl, rfl, rfl⟩ := hcs
      exact ⟨zs.take len0, row_open hl hm (by simpa using hz) hcell hwz⟩
  have k1 := h1
  have lt1 : ∀ x ∈ p1, x.block < W.heap.size := by obtain ⟨m, hm⟩ := k1; exact DataW.trod_lt m _ _ _ hm
  obtain ⟨K1, N1, S1, a1, len1, cap1, z1, rfl, wS1, w1⟩ := fnExactPutVal_open (hval 1 39 v1 rfl rfl) h1
  clear hA0 hval0
  refine (exactPutVal_walk a0 len0 cap0 z0 K1 N1 S1 a1 len1 cap1 z1 W w0 wS1 w1).mono fun e W' ⟨he, bel⟩ => ?_
  subst he
  exact ⟨_, rfl, _, _, _, [], _, [], hW', trodAll_mk1 (shut_bool Try.underlying4 _), (trodAll_cons_mk (Below.trod fnExactPutVal_laid (by kernel_rfl) (of_decide_eq_true (by kernel_rfl)) k0 bel lt0) (trodAll_cons_mk (Below.trod fnExactPutVal_laid (by kernel_rfl) (of_decide_eq_true (by kernel_rfl)) k1 bel lt1) trodAll_mk0)), rfl, bel.frame _, fun h => by cases h⟩

theorem fnExactPutVal_holds : Rows.FnExactPutValSaid :=
  OpenClaim.holds_of_wide 6 Try.f6 rfl rfl rfl rfl rfl rfl rfl ⟨rfl, rfl, rfl, rfl, rfl⟩ rfl rfl rfl rfl rfl (by kernel_rfl) Try.func6 (by kernel_rfl)
    (of_decide_eq_true (by kernel_rfl)) (by unfold Func.isWrapper; first | (rw [if_pos (by decide +kernel)]; kernel_rfl) | (rw [if_neg (by decide +kernel)]; exact ⟨rfl, rfl⟩))
    (fun os started H enc _ => fnExactPutVal_lifted os started H enc)

#print axioms fnExactPutVal_holds

end Go.Proofs.Ytfjojchenmdhdaa
