/-
  FnExactTagged answers true at all arguments: Tagged answers as the specification; it writes into no argument and keeps nothing of one; its answer owns its memory, behind another call too.
-/
import Derived.Test.YtbjgbhccnhjkcaaFrameTag
import Derived.Test.YtbjgbhccnhjkcaaFrameSpec
import Derived.Test.YtbjgbhccnhjkcaaFrameSpecTag
import Derived.Deep.RegionHeld3
import Derived.Test.YtbjgbhccnhjkcaaCopy
import Derived.WalkKit
import Derived.ProofKit
import Derived.OpenShut
import Derived.ShutString
import Derived.ChangeOld
import Derived.Below
import Derived.Lib.SmallJoins
namespace Go.Proofs.Ytbjgbhccnhjkcaa
open Go.RowKit

set_option maxRecDepth 100000 in
set_option maxHeartbeats 4000000 in
theorem exactTagged_walk (K N S : Int) (a1 : Option Addr) (l1 c1 : Nat) (z1 : List Int) (g : Int) (w : World) (h1 : Row w a1 l1 c1 z1) (_hg : (Lit.int .i64 g).wf = true) :
    Calls Try.prog 8 #[.agg #[.int .i64 K, .int .i64 N, .int .i64 S, .slice a1 l1 c1], .int .i64 g] w fun e w' => e = .returned (.bool true) ∧ Below w.heap.size w w' := by
  have hle := h1.le
  have htop := h1.top
  by_cases g1 : (1048576 : Int) < l1
  · go_enter Try.func8, Try.ntmps8
    go_wp2_with fail
    refine (szFrame_any K N S a1 l1 c1 1048576 _ (Nat.le_trans hle htop) (by omega) (by omega)).mono ?_
    rintro e w1 ⟨rfl, hb1⟩
    rw [if_neg (by omega)]
    go_wp2
    go_ret
    exact ⟨rfl, (below_one w _).trans (hb1.mono (below_one w _).size)⟩
  go_enter Try.func8, Try.ntmps8
  go_wp2_with fail
  refine (szFrame_any K N S a1 l1 c1 1048576 _ (Nat.le_trans hle htop) (by omega) (by omega)).mono ?_
  rintro e w2 ⟨rfl, hb2⟩
  rw [if_pos (by omega)]
  have HBX : Hid (∀ W, Below (w.alloc (.cells #[.int .i64 K, .int .i64 N, .int .i64 S, .slice a1 l1 c1] 37)).heap.size (w.alloc (.cells #[.int .i64 K, .int .i64 N, .int .i64 S, .slice a1 l1 c1] 37)) W → _) := fun W h => (cells4 (kept_block (block_last w _) h)).1
  have q0 := below_one w (.cells #[.int .i64 K, .int .i64 N, .int .i64 S, .slice a1 l1 c1] 37)
  have rv := h1.below q0
  obtain ⟨x0, x1, x2, x3⟩ := HBX.out w2 hb2
  generalize (w.alloc (.cells #[.int .i64 K, .int .i64 N, .int .i64 S, .slice a1 l1 c1] 37)) = wb at *
  have u2 := hb2
  clear hb2
  go_wp2_with fail
  refine (toFrame_made K N S a1 l1 c1 z1 _ (rv.below u2) (by omega)).mono ?_
  rintro e w3b ⟨ao3b, cp3b, rfl, -, r3b, hb3b⟩
  have u3b := u2.trans (hb3b.mono u2.size)
  clear x0 x1 x2 x3
  go_wp2_with fail
  refine (specTagged_made K N S _ _ _ z1 g _ r3b (by omega)).mono ?_
  rintro e w3 ⟨ao3, cp3, rfl, -, r3, hb3⟩
  have u3 := u3b.trans (hb3.mono u3b.size)
  clear u2 u3b hb3b hb3 r3b
  have n3 := u3.size
  -- w0 has its box
  have c3 := below_one w3 (.cells #[.int .i64 K, .int .i64 N, .int .i64 g, .slice ao3 l1 cp3] 25)
  have u3' := u3.trans (c3.mono n3)
  obtain ⟨x0, x1, x2, x3⟩ := HBX.out _ u3'
  go_wp2_with fail
  refine (toFrame_made K N S a1 l1 c1 z1 _ (rv.below u3') (by omega)).mono ?_
  rintro e w5 ⟨ao5, cp5, rfl, ho5, r5, hb5⟩
  have kw5 := kept_block (block_last w3 _) hb5
  have v5 : Below w3.heap.size w3 w5 := c3.trans (hb5.mono c3.size)
  have n5 : w3.heap.size + 1 ≤ w5.heap.size := by have := hb5.size; simpa using this
  have ho5 := own_lt ho5 (base' := w3.heap.size + 1) (by simp)
  clear x0 x1 x2 x3 u3' c3 hb5
  go_wp2_with fail
  refine (implTagged_made K N S _ _ _ z1 g _ (r5.below (below_one _ _)) (by omega)).mono ?_
  rintro e w6 ⟨ao6, cp6, rfl, ho6, r6, hb6⟩
  have kx6 := kept_block (block_last w5 _) hb6
  have v6 := (below_one w5 (.cells #[.int .i64 K, .int .i64 N, .int .i64 S, .slice ao5 l1 cp5] 25)).trans (hb6.mono (below_one w5 _).size)
  have n6 : w5.heap.size + 1 ≤ w6.heap.size := by have := hb6.size; simpa using this
  have ho6 := own_lt ho6 (base' := w5.heap.size + 1) (by simp)
  have p6 : Below w3.heap.size w3 w6 := v5.trans (v6.mono v5.size)
  clear hb6
  -- g0 has its box; the two answers are the same
  have c6 := below_one w6 (.cells #[.int .i64 K, .int .i64 N, .int .i64 g, .slice ao6 l1 cp6] 25)
  have kw6 := kept_block kw5 v6
  obtain ⟨⟨y0, y1, y2, y3⟩, -⟩ := cells4 (kept_block kw6 c6)
  go_wp2_with fail
  refine (eqFrame_same K N g _ _ _ _ _ _ z1 _ (r6.below c6) ((r3.below p6).below c6)).mono ?_
  rintro e w7 ⟨rfl, hb7⟩
  have d7 : Below w6.heap.size w6 w7 := c6.trans (hb7.mono c6.size)
  have kg7 := hide (kept_block (block_last w6 _) hb7)
  have kw7 := hide (kept_block kw6 d7)
  have kx7 := hide (kept_block kx6 d7)
  have u7 := (u3.trans (p6.mono n3)).trans (d7.mono (by omega))
  have r57 := (r5.below v6).below d7
  clear y0 y1 y2 y3 hb7 c6 kw6 kx6 kw5
  obtain ⟨x0, x1, x2, x3⟩ := HBX.out w7 u7
  obtain ⟨⟨y0, y1, y2, y3⟩, -⟩ := cells4 kx7.out
  go_wp2_with fail
  go_region_held3 (fun W => (W.cell? ⟨w5.heap.size, 0, none⟩ = some (.int .i64 K) ∧ W.cell? ⟨w5.heap.size, 1, none⟩ = some (.int .i64 N) ∧ W.cell? ⟨w5.heap.size, 2, none⟩ = some (.int .i64 S) ∧ W.cell? ⟨w5.heap.size, 3, none⟩ = some (.slice ao5 l1 cp5)) ∧ (W.cell? ⟨w.heap.size, 0, none⟩ = some (.int .i64 K) ∧ W.cell? ⟨w.heap.size, 1, none⟩ = some (.int .i64 N) ∧ W.cell? ⟨w.heap.size, 2, none⟩ = some (.int .i64 S) ∧ W.cell? ⟨w.heap.size, 3, none⟩ = some (.slice a1 l1 c1))) (first | exact ⟨(cells4 kx9).1, HBX.out _ u9⟩ | exact ⟨(cells4 kx8).1, HBX.out _ u8⟩ | go_keep) (first
    | (go_at_call 22; refine (toFrame_made K N S a1 l1 c1 z1 _ (rv.below (below_drewN u7 _)) (by omega)).mono ?_; rintro e w8 ⟨ao8, cp8, rfl, -, r8, hb8⟩; have u8 := u7.trans ((undrew hb8).mono u7.size); have kx8 := kept_block kx7.out (undrew hb8))
    | (go_at_call 23; refine (eqFrame_same K N S _ _ _ _ _ _ z1 _ (r57.below (undrew hb8)) r8).mono ?_; rintro e w9 ⟨rfl, hb9⟩; have u9 := u8.trans (hb9.mono u8.size); have kx9 := kept_block kx8 hb9))
  have d9 : Below w7.heap.size w7 w9 := (undrew hb8).trans (hb9.mono (undrew hb8).size)
  have e9 : Below w6.heap.size w6 w9 := d7.trans (d9.mono d7.size)
  have o5 : w9.ownsRow (w3.heap.size + 1) 5 1 (.slice ao5 l1 cp5) l1 (cB z1) := own_below (own_below ho5 v6) e9
  have o6 : w9.ownsRow (w5.heap.size + 1) 5 1 (.slice ao6 l1 cp6) l1 (cB z1) := own_below ho6 e9
  have b5 := ho5.lt
  have b6 := ho6.lt
  have p9 : Below w3.heap.size w3 w9 := p6.trans (e9.mono (by omega))
  have KG := hide (kept_block kg7.out d9)
  have KW := hide (kept_block kw7.out d9)
  have KX := hide kx9
  clear x0 x1 x2 x3 y0 y1 y2 y3 hb8 hb9 r8 r57 u7 u8 u9 kx7 kx8 kx9 kg7 kw7 d7 d9 e9 p6 ho5 ho6 r5 r6 v5 v6
  -- the marks
  obtain ⟨⟨y0, y1, y2, y3⟩, -⟩ := cells4 KX.out
  clear KX
  go_wp2_with fail
  refine (markFrame_grown K N S _ _ _ _ z1 _ _ o5 (by omega) (by omega) (by omega)).mono ?_
  rintro e w10 ⟨rfl, o10, g10⟩
  have o6 := own_above o6 g10 (fun k hk => by have := (b5 k hk).2; omega)
  have p10 := p9.grown g10 p9.size (fun k hk => by have := (b5 k hk).1; omega)
  have kg := kept_grown KG.out g10 (fun k hk => by have := (b5 k hk).2; omega)
  have kw := kept_grown KW.out g10 (fun k hk => by have := (b5 k hk).1; omega)
  clear o10 o5 p9 g10 y0 y1 y2 y3 KG KW
  obtain ⟨⟨x0, x1, x2, x3⟩, -⟩ := cells4 kg
  obtain ⟨⟨y0, y1, y2, y3⟩, -⟩ := cells4 kw
  have KG := hide kg
  have KW := hide kw
  clear kg kw
  go_wp2_with fail
  refine (eqFrame_same K N g _ _ _ _ _ _ z1 _ (row_own o6 r3.byte) (r3.below p10)).mono ?_
  rintro e w11 ⟨rfl, hb11⟩
  have o6 := own_below o6 hb11
  have p11 := p10.trans (hb11.mono p10.size)
  have kg := kept_block KG.out hb11
  have KW' := hide (kept_block KW.out hb11)
  clear x0 x1 x2 x3 y0 y1 y2 y3 KG KW p10 hb11
  obtain ⟨⟨x0, x1, x2, x3⟩, -⟩ := cells4 kg
  have KG := hide kg
  clear kg
  go_wp2_with fail
  refine (markFrame_grown K N g _ _ _ _ z1 _ _ o6 (by omega) (by omega) (by omega)).mono ?_
  rintro e w12 ⟨rfl, o12, g12⟩
  have p12 := p11.grown g12 p11.size (fun k hk => by have := (b6 k hk).1; omega)
  have kg := kept_grown KG.out g12 (fun k hk => by have := (b6 k hk).2; omega)
  have KW := hide (kept_grown KW'.out g12 (fun k hk => by have := (b6 k hk).1; omega))
  have r12 := row_own o12 (marks_byte _ _)
  clear x0 x1 x2 x3 KG KW' p11 o6 g12 o12
  obtain ⟨⟨x0, x1, x2, x3⟩, -⟩ := cells4 kg
  have KG := hide kg
  clear kg
  go_wp2_with fail
  refine (heldFrame_any K N g _ _ _ _ _ r12 (by omega) (by omega) (by omega)).mono ?_
  rintro e w13 ⟨rfl, hb13⟩
  have p13 := p12.trans (hb13.mono p12.size)
  have r13 := r12.below hb13
  have KG' := hide (kept_block KG.out hb13)
  have KW' := hide (kept_block KW.out hb13)
  have u13 := u3.trans (p13.mono n3)
  clear x0 x1 x2 x3 KG KW p12 hb13 r12
  obtain ⟨x0, x1, x2, x3⟩ := HBX.out w13 u13
  go_wp2_with fail
  refine (toFrame_made K N S a1 l1 c1 z1 _ (rv.below u13) (by omega)).mono ?_
  rintro e w14 ⟨ao14, cp14, rfl, -, r14, hb14⟩
  have u14 := u13.trans (hb14.mono u13.size)
  clear x0 x1 x2 x3
  go_wp2_with fail
  refine (implTagged_made K N S _ _ _ z1 g _ r14 (by omega)).mono ?_
  rintro e w15 ⟨ao15, cp15, rfl, -, r15, hb15⟩
  have u15 := u14.trans (hb15.mono u14.size)
  have t15 : Below w13.heap.size w13 w15 := hb14.trans (hb15.mono hb14.size)
  have p15 := p13.trans (t15.mono p13.size)
  have c15 := below_one w15 (.cells #[.int .i64 K, .int .i64 N, .int .i64 g, .slice ao15 l1 cp15] 25)
  have KG := hide (kept_block KG'.out t15)
  obtain ⟨⟨y0, y1, y2, y3⟩, -⟩ := cells4 (kept_block (kept_block KW'.out t15) c15)
  have r13 := r13.below t15
  clear hb14 hb15 r14 u14 KG' KW' t15 p13
  go_wp2_with fail
  refine (eqFrame_same K N g _ _ _ _ _ _ z1 _ (r15.below c15) ((r3.below p15).below c15)).mono ?_
  rintro e w16 ⟨rfl, hb16⟩
  have d16 : Below w15.heap.size w15 w16 := c15.trans (hb16.mono c15.size)
  have p16 := p15.trans (d16.mono p15.size)
  obtain ⟨⟨x0, x1, x2, x3⟩, -⟩ := cells4 (kept_block KG.out d16)
  clear y0 y1 y2 y3 hb16 c15 KG r15 p15
  go_wp2_with fail
  refine (heldFrame_any K N g _ _ _ _ _ (r13.below d16) (by omega) (by omega) (by omega)).mono ?_
  rintro e w17 ⟨rfl, hb17⟩
  go_wp2
  go_ret
  exact ⟨rfl, q0.trans ((u3.trans ((p16.trans (hb17.mono p16.size)).mono n3)).mono q0.size)⟩

theorem fnExactTagged_own : ownKnob Try.prog.godebug = none := by kernel_rfl
theorem fnExactTagged_laid : laidOutB Try.prog = true := by kernel_rfl

open Go.ChangeShapes Go.WideShapes Go.ChangeAt in
set_option maxRecDepth 100000 in
theorem fnExactTagged_open {H : Type} {enc : TypeId × Value → H} {W : World} {r : Reach} {b0 : Nat} {v : Value} {d : DataW H} {p : List MemPlace} (hv : Value.okWide Try.prog W r b0 37 v) (h : DataW.Trod enc Try.prog W 0 (fun _ => true) true 37 v d p) :
    ∃ K N S a l c z, v = .agg #[.int .i64 K, .int .i64 N, .int .i64 S, .slice a l c] ∧ Row W a l c z := by
  obtain ⟨c0, c1, c2, c3, y0, y1, y2, y3, m, rfl, -, -, hy0, hy1, hy2, hy3⟩ := Go.Joins.open_agg4 Try.underlying37 (by kernel_rfl) (show Try.prog.cellsOf 37 = 4 by kernel_rfl) hv h
  obtain ⟨K, e0, -, -⟩ := DataW.trod_int Try.underlying3 hy0
  obtain ⟨N, e1, -, -⟩ := DataW.trod_int Try.underlying3 hy1
  obtain ⟨S, e2, -, -⟩ := DataW.trod_int Try.underlying3 hy2
  simp only [List.cons.injEq, and_true] at e0 e1 e2
  subst e0 e1 e2
  rcases open_ints Try.underlying22 Try.underlying5 (by kernel_rfl) hy3 with ⟨hcs, _⟩ | ⟨x, l, c, zs, hcs, _, hl, hm, hz, _, hcell, hwz⟩
  · simp only [List.cons.injEq, and_true] at hcs
    subst hcs
    exact ⟨K, N, S, none, 0, 0, [], rfl, row_nil W⟩
  · simp only [List.cons.injEq, and_true] at hcs
    subst hcs
    exact ⟨K, N, S, some x, l, c, zs.take l, rfl, row_open hl hm (by simpa using hz) hcell hwz⟩

open Go.ChangeShapes Go.WideShapes Go.ChangeAt in
open Go.ChangeMaps (open_string shut_string) in
set_option maxRecDepth 100000 in
theorem fnExactTagged_lifted (os : Os) (started : os.Started) (H : Type) (enc : TypeId × Value → H) :
    ReturnsInHanded {} Try.checked os 8 .any (Rows.fnExactTaggedSpec.pre6 enc Try.prog Try.f8 Rows.fnExactTaggedRow.domain false) (Rows.fnExactTaggedSpec.post enc Try.prog Try.f8 false true false false) := by
  refine returnsInHanded_of_change (C := Try.checked) fnExactTagged_own started (by kernel_rfl) Try.func8
    (ChangeSpec.witness6 (enc := enc) (C := Try.checked) false ⟨#[], #[.agg #[.int .i64 0, .int .i64 0, .int .i64 0, .slice none 0 0], .int .i64 0], []⟩ 8 (by kernel_rfl) (by kernel_rfl) (by kernel_rfl) (by kernel_rfl)) ?_
  intro W base args ds gs before hval0 hW hcnd _
  have hval : ∀ (j : Nat) t v, Try.f8.params[j]? = some t → args[j]? = some v → Value.okWide Try.prog W .any base t v := hval0
  have hW' := hW
  obtain ⟨p, q, hA0, hV, rfl, hfz, hnd⟩ := hW
  have hA : DataW.TrodAll enc Try.prog W 0 (fun _ => true) true Try.f8.params.toList args.toList ds p := hA0
  rw [Try.params8] at hA hval
  obtain ⟨v0, vs0, d0, ds0, p0, q0, hargs, rfl, rfl, h0, r0⟩ := trodAll_cons hA
  obtain ⟨v1, vs1, d1, ds1, p1, q1, rfl, rfl, rfl, h1, r1⟩ := trodAll_cons r0
  obtain ⟨rfl, rfl, rfl⟩ := trodAll_nil r1
  obtain rfl : args = #[v0, v1] := by cases args; simp_all
  obtain ⟨rfl, rfl⟩ := trodVars_none hV
  have k0 := h0
  have lt0 : ∀ x ∈ p0, x.block < W.heap.size := by obtain ⟨m, hm⟩ := k0; exact DataW.trod_lt m _ _ _ hm
  obtain ⟨K0, N0, S0, a0, len0, cap0, z0, rfl, w0⟩ := fnExactTagged_open (hval 0 37 v0 rfl rfl) h0
  obtain ⟨a1, rfl, rfl, rfl, w1⟩ := open_int Try.underlying3 (hval 1 3 v1 rfl rfl) h1
  clear hA0 hval0
  refine (exactTagged_walk K0 N0 S0 a0 len0 cap0 z0 a1 W w0 w1).mono fun e W' ⟨he, bel⟩ => ?_
  subst he
  exact ⟨_, rfl, _, _, _, [], _, [], hW', trodAll_mk1 (shut_bool Try.underlying4 _), (trodAll_cons_mk (Below.trod fnExactTagged_laid (by kernel_rfl) (of_decide_eq_true (by kernel_rfl)) k0 bel lt0) (trodAll_cons_mk (shut_int Try.underlying3 w1) trodAll_mk0)), rfl, bel.frame _, fun h => by cases h⟩

theorem fnExactTagged_holds : Rows.FnExactTaggedSaid :=
  OpenClaim.holds_of_wide 8 Try.f8 rfl rfl rfl rfl rfl rfl rfl ⟨rfl, rfl, rfl, rfl, rfl⟩ rfl rfl rfl rfl rfl (by kernel_rfl) Try.func8 (by kernel_rfl)
    (of_decide_eq_true (by kernel_rfl)) (by unfold Func.isWrapper; first | (rw [if_pos (by decide +kernel)]; kernel_rfl) | (rw [if_neg (by decide +kernel)]; exact ⟨rfl, rfl⟩))
    (fun os started H enc _ => fnExactTagged_lifted os started H enc)

#print axioms fnExactTagged_holds

end Go.Proofs.Ytbjgbhccnhjkcaa
