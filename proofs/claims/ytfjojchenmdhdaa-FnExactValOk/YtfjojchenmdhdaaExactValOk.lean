/-
  FnExactValOk answers true at all arguments: ValOk answers as the specification and writes into no argument.
-/
import Derived.Test.YtfjojchenmdhdaaValOk
import Derived.WalkKit
import Derived.ProofKit
import Derived.OpenShut
import Derived.ShutString
import Derived.ChangeOld
import Derived.Below
import Derived.Lib.SmallJoins
namespace Go.Proofs.Ytfjojchenmdhdaa
open Go.RowKit

/-- A box that was laid is there in every later world. -/
theorem box_cells {w : World} {t : TypeId} {c0 c1 c2 c3 : Value} (W : World) (h : Below (w.alloc (.cells #[c0, c1, c2, c3] t)).heap.size (w.alloc (.cells #[c0, c1, c2, c3] t)) W) :
    W.cell? ⟨w.heap.size, 0, none⟩ = some c0 ∧ W.cell? ⟨w.heap.size, 1, none⟩ = some c1 ∧ W.cell? ⟨w.heap.size, 2, none⟩ = some c2 ∧ W.cell? ⟨w.heap.size, 3, none⟩ = some c3 :=
  (cells4 (kept_block (block_last w _) h)).1

set_option maxRecDepth 100000 in
set_option maxHeartbeats 1000000 in
theorem exactValOk_walk (K N : Int) (S : ByteArray) (a1 : Option Addr) (l1 c1 : Nat) (z1 : List Int) (w : World) (hS : S.size ≤ maxLen) (h1 : IRow w a1 l1 c1 z1) :
    Calls Try.prog 4 #[.agg #[.int .i64 K, .int .i64 N, .string S, .slice a1 l1 c1]] w fun e w' => e = .returned (.bool true) ∧ Below w.heap.size w w' := by
  have hle := h1.le
  have htop := h1.top
  by_cases g0 : (S.size : Int) + l1 ≤ 1048576
  · generalize hP : okV K N S z1 = P
    have HP := hide hP
    clear hP
    go_enter Try.func4, Try.ntmps4
    go_wp2_with fail
    refine (szVal_any K N S a1 l1 c1 1048576 _ hS (Nat.le_trans hle htop) (by omega) (by omega)).mono ?_
    rintro e w1 ⟨rfl, hb1⟩
    rw [if_pos g0]
    have HBX : Hid (∀ W, Below (w.alloc (.cells #[.int .i64 K, .int .i64 N, .string S, .slice a1 l1 c1] 39)).heap.size (w.alloc (.cells #[.int .i64 K, .int .i64 N, .string S, .slice a1 l1 c1] 39)) W → _) := fun W h => box_cells W h
    have r0 := h1.below (below_one w (.cells #[.int .i64 K, .int .i64 N, .string S, .slice a1 l1 c1] 39))
    have q0 := below_one w (.cells #[.int .i64 K, .int .i64 N, .string S, .slice a1 l1 c1] 39)
    obtain ⟨x0, x1, x2, x3⟩ := HBX.out w1 hb1
    generalize w.alloc (.cells #[.int .i64 K, .int .i64 N, .string S, .slice a1 l1 c1] 39) = wb at *
    have u1 := hb1
    clear hb1
    go_wp2_with fail
    refine (toVal_made K N S a1 l1 c1 z1 _ (r0.below u1) (by omega)).mono ?_
    rintro e w2 ⟨ao2, cp2, rfl, -, r2, hb2⟩
    have u2 := u1.trans (hb2.mono u1.size)
    clear hb2 x0 x1 x2 x3 u1
    go_wp2_with fail
    refine (specValOk_any K N S ao2 l1 cp2 z1 _ r2).mono ?_
    rintro e w3 ⟨rfl, hb3⟩
    rw [HP.out]
    have u3 := u2.trans (hb3.mono u2.size)
    obtain ⟨x0, x1, x2, x3⟩ := HBX.out w3 u3
    clear hb3 u2 r2
    go_wp2_with fail
    refine (toVal_made K N S a1 l1 c1 z1 _ (r0.below u3) (by omega)).mono ?_
    rintro e w4 ⟨ao4, cp4, rfl, -, r4, hb4⟩
    have u4 := u3.trans (hb4.mono u3.size)
    clear hb4 x0 x1 x2 x3 u3
    go_wp2_with fail
    refine (implValOk_any K N S ao4 l1 cp4 z1 _ (r4.below (below_one _ _))).mono ?_
    rintro e w5 ⟨rfl, hb5⟩
    rw [HP.out]
    have v5 := (below_one w4 _).trans (hb5.mono (below_one w4 _).size)
    have u5 := u4.trans (v5.mono u4.size)
    have y5 := box_cells w5 hb5
    have x5 := HBX.out w5 u5
    have r45 := r4.below v5
    have HKX := hide (kept_block (block_last w4 _) hb5)
    clear hb5 u4 v5 r4
    obtain ⟨x0, x1, x2, x3⟩ := x5
    obtain ⟨y0, y1, y2, y3⟩ := y5
    go_wp2_with fail
    go_region_held3 (fun W => (W.cell? ⟨w4.heap.size, 0, none⟩ = some (.int .i64 K) ∧ W.cell? ⟨w4.heap.size, 1, none⟩ = some (.int .i64 N) ∧ W.cell? ⟨w4.heap.size, 2, none⟩ = some (.string S) ∧ W.cell? ⟨w4.heap.size, 3, none⟩ = some (.slice ao4 l1 cp4)) ∧ (W.cell? ⟨w.heap.size, 0, none⟩ = some (.int .i64 K) ∧ W.cell? ⟨w.heap.size, 1, none⟩ = some (.int .i64 N) ∧ W.cell? ⟨w.heap.size, 2, none⟩ = some (.string S) ∧ W.cell? ⟨w.heap.size, 3, none⟩ = some (.slice a1 l1 c1))) (first | exact ⟨(cells4 kx7).1, HBX.out _ u7⟩ | exact ⟨(cells4 kx6).1, HBX.out _ u6⟩ | go_keep) (first
      | (go_at_call 21; refine (toVal_made K N S a1 l1 c1 z1 _ (r0.below (below_drewN u5 _)) (by omega)).mono ?_; rintro e w6 ⟨ao6, cp6, rfl, -, r6, hb6⟩; have u6 := u5.trans ((undrew hb6).mono u5.size); have kx6 := kept_block HKX.out (undrew hb6))
      | (go_at_call 22; refine (eqVal_same K N S _ _ _ _ _ _ z1 _ (r45.below (undrew hb6)) r6).mono ?_; rintro e w7 ⟨rfl, hb7⟩; have u7 := u6.trans (hb7.mono u6.size); have kx7 := kept_block kx6 hb7))
    go_wp2
    go_ret
    exact ⟨rfl, q0.trans (u7.mono q0.size)⟩
  · go_enter Try.func4, Try.ntmps4
    go_wp2_with fail
    refine (szVal_any K N S a1 l1 c1 1048576 _ hS (Nat.le_trans hle htop) (by omega) (by omega)).mono ?_
    rintro e w1 ⟨rfl, hb1⟩
    rw [if_neg (by omega)]
    go_wp2
    go_ret
    exact ⟨rfl, (below_one w _).trans (hb1.mono (below_one w _).size)⟩

theorem fnExactValOk_own : ownKnob Try.prog.godebug = none := by kernel_rfl
theorem fnExactValOk_laid : laidOutB Try.prog = true := by kernel_rfl

open Go.ChangeShapes Go.WideShapes Go.ChangeAt in
set_option maxRecDepth 100000 in
theorem fnExactValOk_open {H : Type} {enc : TypeId × Value → H} {W : World} {r : Reach} {b0 : Nat} {v : Value} {d : DataW H} {p : List MemPlace} (hv : Value.okWide Try.prog W r b0 39 v) (h : DataW.Trod enc Try.prog W 0 (fun _ => true) true 39 v d p) :
    ∃ K N S a l c z, v = .agg #[.int .i64 K, .int .i64 N, .string S, .slice a l c] ∧ S.size ≤ maxLen ∧ IRow W a l c z := by
  obtain ⟨c0, c1, c2, c3, y0, y1, y2, y3, m, rfl, -, -, hy0, hy1, hy2, hy3⟩ := Go.Joins.open_agg4 Try.underlying39 (by kernel_rfl) (show Try.prog.cellsOf 39 = 4 by kernel_rfl) hv h
  obtain ⟨K, e0, -, -⟩ := DataW.trod_int Try.underlying3 hy0
  obtain ⟨N, e1, -, -⟩ := DataW.trod_int Try.underlying3 hy1
  obtain ⟨S, e2, -, hS⟩ := DataW.trod_string Try.underlying9 hy2
  simp only [List.cons.injEq, and_true] at e0 e1 e2
  subst e0 e1 e2
  rcases open_ints Try.underlying24 Try.underlying3 (by kernel_rfl) hy3 with ⟨hcs, _⟩ | ⟨x, l, c, zs, hcs, _, hl, hm, hz, _, hcell, hwz⟩
  · simp only [List.cons.injEq, and_true] at hcs
    subst hcs
    exact ⟨K, N, S, none, 0, 0, [], rfl, hS, irow_nil W⟩
  · simp only [List.cons.injEq, and_true] at hcs
    subst hcs
    exact ⟨K, N, S, some x, l, c, zs.take l, rfl, hS, irow_open hl hm (by simpa using hz) hcell hwz⟩

open Go.ChangeShapes Go.WideShapes Go.ChangeAt in
open Go.ChangeMaps (open_string shut_string) in
set_option maxRecDepth 100000 in
theorem fnExactValOk_lifted (os : Os) (started : os.Started) (H : Type) (enc : TypeId × Value → H) :
    ReturnsInHanded {} Try.checked os 4 .any (Rows.fnExactValOkSpec.pre6 enc Try.prog Try.f4 Rows.fnExactValOkRow.domain false) (Rows.fnExactValOkSpec.post enc Try.prog Try.f4 false true false false) := by
  refine returnsInHanded_of_change (C := Try.checked) fnExactValOk_own started (by kernel_rfl) Try.func4
    (ChangeSpec.witness6 (enc := enc) (C := Try.checked) false ⟨#[], #[.agg #[.int .i64 0, .int .i64 0, .string ByteArray.empty, .slice none 0 0]], []⟩ 8 (by kernel_rfl) (by kernel_rfl) (by kernel_rfl) (by kernel_rfl)) ?_
  intro W base args ds gs before hval0 hW hcnd _
  have hval : ∀ (j : Nat) t v, Try.f4.params[j]? = some t → args[j]? = some v → Value.okWide Try.prog W .any base t v := hval0
  have hW' := hW
  obtain ⟨p, q, hA0, hV, rfl, hfz, hnd⟩ := hW
  have hA : DataW.TrodAll enc Try.prog W 0 (fun _ => true) true Try.f4.params.toList args.toList ds p := hA0
  rw [Try.params4] at hA hval
  obtain ⟨v0, vs0, d0, ds0, p0, q0, hargs, rfl, rfl, h0, r0⟩ := trodAll_cons hA
  obtain ⟨rfl, rfl, rfl⟩ := trodAll_nil r0
  obtain rfl : args = #[v0] := by cases args; simp_all
  obtain ⟨rfl, rfl⟩ := trodVars_none hV
  have k0 := h0
  have lt0 : ∀ x ∈ p0, x.block < W.heap.size := by obtain ⟨m, hm⟩ := k0; exact DataW.trod_lt m _ _ _ hm
  obtain ⟨K0, N0, S0, a0, len0, cap0, z0, rfl, wS0, w0⟩ := fnExactValOk_open (hval 0 39 v0 rfl rfl) h0
  clear hA0 hval0
  refine (exactValOk_walk K0 N0 S0 a0 len0 cap0 z0 W wS0 w0).mono fun e W' ⟨he, bel⟩ => ?_
  subst he
  exact ⟨_, rfl, _, _, _, [], _, [], hW', trodAll_mk1 (shut_bool Try.underlying4 _), (trodAll_cons_mk (Below.trod fnExactValOk_laid (by kernel_rfl) (of_decide_eq_true (by kernel_rfl)) k0 bel lt0) trodAll_mk0), rfl, bel.frame _, fun h => by cases h⟩

theorem fnExactValOk_holds : Rows.FnExactValOkSaid :=
  OpenClaim.holds_of_wide 4 Try.f4 rfl rfl rfl rfl rfl rfl rfl ⟨rfl, rfl, rfl, rfl, rfl⟩ rfl rfl rfl rfl rfl (by kernel_rfl) Try.func4 (by kernel_rfl)
    (of_decide_eq_true (by kernel_rfl)) (by unfold Func.isWrapper; first | (rw [if_pos (by decide +kernel)]; kernel_rfl) | (rw [if_neg (by decide +kernel)]; exact ⟨rfl, rfl⟩))
    (fun os started H enc _ => fnExactValOk_lifted os started H enc)

#print axioms fnExactValOk_holds

end Go.Proofs.Ytfjojchenmdhdaa
