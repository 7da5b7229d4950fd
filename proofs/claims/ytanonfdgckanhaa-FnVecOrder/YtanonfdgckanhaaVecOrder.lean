/-
  FnVecOrder answers true at all bytes: a step goes just where the specification's goes, what goes a step further is behind, over one bridge more and as far as the cost; of two drawn vectors the specification's is less, not both are, and none is less than itself.
-/
import Derived.Test.YtanonfdgckanhaaDrawVecs
import Derived.Test.YtanonfdgckanhaaVecStep
import Derived.Test.YtanonfdgckanhaaVecLess
import Derived.Test.YtanonfdgckanhaaBig
import Derived.Deep.RegionHeld3
import Derived.Deep.CutRange
import Derived.WalkKit
import Derived.ProofKit
import Derived.OpenShut
import Derived.ShutString
import Derived.ChangeOld
import Derived.Below
namespace Go.Proofs.Ytanonfdgckanhaa
open Go.RowKit

theorem vec_neq (R C H B P R' C' H' B' P' : Int) (w : World) : (binOp .neq 38 (.agg #[.int .i64 R, .int .i64 C, .int .i64 H, .int .i64 B, .int .i64 P]) (.agg #[.int .i64 R', .int .i64 C', .int .i64 H', .int .i64 B', .int .i64 P'])).run Try.prog w = .ok (.bool (!((R == R') && ((C == C') && ((H == H') && ((B == B') && (P == P'))))))) w := by
  have u3 := Try.underlying3
  have a3 := Try.isAgg3
  have z3 := Try.sizeOf3
  have hS : Try.prog.underlying 38 = some (.struct (Try.prog.fieldsOf 38)) := by kernel_rfl
  have hp : Try.prog.stoodInHeld 38 = false := by kernel_rfl
  rw [run_neq_struct, show (10000 : Nat) = 9999 + 1 from rfl, run_equalIn_agg w 9999 38 _ _ hS hp]
  simp only [Program.fieldsOf, Try.underlying38]
  go_simp
  by_cases h1 : R = R' <;> by_cases h2 : C = C' <;> by_cases h3 : H = H' <;> by_cases h4 : B = B' <;> by_cases h5 : P = P' <;> simp [h1, h2, h3, h4, h5]

theorem less_self (R K B P : Int) : lessVc R K B P R K B P = false := by simp [lessVc]

theorem less_not {R K B P R' K' B' P' : Int} (h : lessVc R K B P R' K' B' P' = true) : lessVc R' K' B' P' R K B P = false := by
  unfold lessVc at *
  by_cases h1 : R = R'
  · subst h1
    by_cases h2 : K = K'
    · subst h2
      by_cases h3 : B = B'
      · subst h3
        simp at h ⊢
        omega
      · simp [h3, Ne.symm h3] at h ⊢
        omega
    · simp [h2, Ne.symm h2] at h ⊢
      omega
  · simp [h1, Ne.symm h1] at h ⊢
    omega

theorem less_step {R K B P k : Int} (hk : 1 ≤ k) : lessVc R K B P R (K + k) B P = true := by
  have h : K ≠ K + k := by omega
  simp [lessVc, h]
  omega

theorem stepOk_parts {R K H B P k : Int} (h : stepOk R K H B P k = true) : (0 ≤ K ∧ K ≤ 100000) ∧ (0 ≤ H ∧ H ≤ 10) ∧ (1 ≤ k ∧ k ≤ 1000) ∧ okVc R (K + k) (H + 1) B P = true := by
  unfold stepOk at h
  simp only [Bool.and_eq_true, decide_eq_true_eq] at h
  obtain ⟨h1, h2, h3⟩ := h
  obtain ⟨-, o2, o3, -, -⟩ := okVc_parts h1
  exact ⟨o2, o3, h2, h3⟩

set_option maxRecDepth 100000 in
set_option maxHeartbeats 4000000 in
theorem vecOrder_walk (a0 : Option Addr) (l0 c0 : Nat) (z0 : List Int) (w : World) (h0 : Row w a0 l0 c0 z0) :
    Calls Try.prog 5 #[.slice a0 l0 c0] w fun e w' => e = .returned (.bool true) ∧ Below w.heap.size w w' := by
  by_cases g0 : 1048576 < l0
  · have i1 : (1048576 : Int) < l0 := by omega
    go_enter Try.func5, Try.ntmps5
    go_wp2
    go_ret
    exact ⟨rfl, Below.refl _ _⟩
  have hgd : Try.prog.eqGuardType Try.prog.depth 38 = false := by kernel_rfl
  go_enter Try.func5, Try.ntmps5
  go_wp2_with fail
  refine (big_no _ _ _ _ g0).mono ?_
  rintro e w0 ⟨rfl, rfl⟩
  go_wp2_with fail
  refine (drawLessVec_any _ _ _ z0 _ h0 (by omega)).mono ?_
  rintro e w1 ⟨R, K, H, B, P, R', K', H', B', P', rfl, hb1⟩
  have q1 := gr_alloc (gr_alloc hb1 (.cells #[.int .i64 R, .int .i64 K, .int .i64 H, .int .i64 B, .int .i64 P] 38)) (.cells #[.int .i64 R', .int .i64 K', .int .i64 H', .int .i64 B', .int .i64 P'] 38)
  obtain ⟨ka, kb⟩ := kept_two (Below.refl _ ((w1.alloc (.cells #[.int .i64 R, .int .i64 K, .int .i64 H, .int .i64 B, .int .i64 P] 38)).alloc (.cells #[.int .i64 R', .int .i64 K', .int .i64 H', .int .i64 B', .int .i64 P'] 38)))
  clear hb1
  go_wp2_with fail
  generalize (w1.alloc (.cells #[.int .i64 R, .int .i64 K, .int .i64 H, .int .i64 B, .int .i64 P] 38)).alloc (.cells #[.int .i64 R', .int .i64 K', .int .i64 H', .int .i64 B', .int .i64 P'] 38) = w1' at *
  refine (drawStepVec_any _ _ _ z0 _ (h0.below q1) (by omega)).mono ?_
  rintro e w2 ⟨R3, K3, H3, B3, P3, k, rfl, hb2⟩
  have e2 := gr_alloc hb2 (.cells #[.int .i64 R3, .int .i64 K3, .int .i64 H3, .int .i64 B3, .int .i64 P3] 38)
  have ka := kept_block ka e2
  have kb := kept_block kb e2
  have kv := block_last w2 (.cells #[.int .i64 R3, .int .i64 K3, .int .i64 H3, .int .i64 B3, .int .i64 P3] 38)
  have q2 := gr_trans q1 e2
  clear hb2 e2 q1
  go_wp2_with fail
  generalize w2.alloc (.cells #[.int .i64 R3, .int .i64 K3, .int .i64 H3, .int .i64 B3, .int .i64 P3] 38) = w2' at *
  obtain ⟨a, b, c, d, g, he⟩ : ∃ a b c d g : Int, (if stepOk R3 K3 H3 B3 P3 k = true then .agg #[.int .i64 R3, .int .i64 (K3 + k), .int .i64 (H3 + 1), .int .i64 B3, .int .i64 P3] else .agg #[.int .i64 R3, .int .i64 K3, .int .i64 H3, .int .i64 B3, .int .i64 P3] : Value) = .agg #[.int .i64 a, .int .i64 b, .int .i64 c, .int .i64 d, .int .i64 g] := by
    cases stepOk R3 K3 H3 B3 P3 k
    · exact ⟨R3, K3, H3, B3, P3, rfl⟩
    · exact ⟨_, _, _, _, _, rfl⟩
  generalize hQ : stepOk R3 K3 H3 B3 P3 k = q at he
  have HQ := hide hQ
  have HE := hide he
  clear hQ he
  refine (implStepVec_any R3 K3 H3 B3 P3 k _).mono ?_
  rintro e w3 ⟨rfl, hb3⟩
  rw [HQ.out, HE.out]
  have e3 := gr_alloc hb3 (.cells #[.int .i64 a, .int .i64 b, .int .i64 c, .int .i64 d, .int .i64 g] 38)
  have ka := kept_block ka e3
  have kb := kept_block kb e3
  have kv := kept_block kv e3
  have kx := block_last w3 (.cells #[.int .i64 a, .int .i64 b, .int .i64 c, .int .i64 d, .int .i64 g] 38)
  have q3 := gr_trans q2 e3
  clear hb3 e3 q2
  obtain ⟨⟨x0, x1, x2, x3, x4⟩, -⟩ := cells5 kv
  go_wp2_with fail
  generalize w3.alloc (.cells #[.int .i64 a, .int .i64 b, .int .i64 c, .int .i64 d, .int .i64 g] 38) = w3' at *
  refine (specStepVec_any R3 K3 H3 B3 P3 k _).mono ?_
  rintro e w4 ⟨rfl, hb4⟩
  rw [HQ.out, HE.out]
  have e4 := gr_alloc hb4 (.cells #[.int .i64 a, .int .i64 b, .int .i64 c, .int .i64 d, .int .i64 g] 38)
  have ka := kept_block ka e4
  have kb := kept_block kb e4
  have kx := kept_block kx e4
  have kv := kept_block kv e4
  have ky := block_last w4 (.cells #[.int .i64 a, .int .i64 b, .int .i64 c, .int .i64 d, .int .i64 g] 38)
  have q4 := gr_trans q3 e4
  clear x0 x1 x2 x3 x4 hb4 e4 q3
  go_upto_region 7 with fail
  generalize w4.alloc (.cells #[.int .i64 a, .int .i64 b, .int .i64 c, .int .i64 d, .int .i64 g] 38) = w4' at *
  go_cut [3, 4, 73] from 11 to 97 (fun s t u wc => s = .pointer (some ⟨w1.heap.size, 0, none⟩) ∧ t = .pointer (some ⟨w1.heap.size + 1, 0, none⟩) ∧ u = .bool false ∧ wc.heap[w1.heap.size]? = some (.cells #[.int .i64 R, .int .i64 K, .int .i64 H, .int .i64 B, .int .i64 P] 38) ∧ wc.heap[w1.heap.size + 1]? = some (.cells #[.int .i64 R', .int .i64 K', .int .i64 H', .int .i64 B', .int .i64 P'] 38) ∧ Below w0.heap.size w0 wc)
  case first =>
    obtain ⟨⟨x0, x1, x2, x3, x4⟩, -⟩ := cells5 kx
    obtain ⟨⟨y0, y1, y2, y3, y4⟩, -⟩ := cells5 ky
    have he : ∀ W, (binOp .neq 38 (.agg #[.int .i64 a, .int .i64 b, .int .i64 c, .int .i64 d, .int .i64 g]) (.agg #[.int .i64 a, .int .i64 b, .int .i64 c, .int .i64 d, .int .i64 g])).run Try.prog W = .ok (.bool false) W := fun W => by rw [vec_neq]; simp
    cases q with
    | false =>
      have KA := hide ka
      have KB := hide kb
      have HB := hide q4
      clear ka kb q4
      go_wp2_with fail
      go_meet
      exact ⟨rfl, rfl, rfl, KA.out, KB.out, HB.out⟩
    | true =>
      have h := HE.out
      rw [if_pos rfl] at h
      simp only [Value.agg.injEq, Array.mk.injEq, List.cons.injEq, Value.int.injEq, true_and, and_true] at h
      obtain ⟨ea, eb, ec, ed, eg⟩ := h
      subst ea eb ec ed eg
      obtain ⟨o1, o2, o3, o4⟩ := stepOk_parts HQ.out
      have HLS := hide (less_step (R := R3) (K := K3) (B := B3) (P := P3) o3.1)
      have HOK := hide o4
      clear o4
      obtain ⟨⟨z0, z1, z2, z3, z4⟩, -⟩ := cells5 kv
      clear ky
      go_wp2_with fail
      refine (implLessVec_any R3 K3 H3 B3 P3 R3 (K3 + k) (H3 + 1) B3 P3 _).mono ?_
      rintro e w5 ⟨rfl, hb5⟩
      rw [HLS.out]
      have ka := kept_block ka hb5
      have kb := kept_block kb hb5
      have kx := kept_block kx hb5
      have kv := kept_block kv hb5
      have q5 := gr_trans q4 hb5
      clear x0 x1 x2 x3 x4 y0 y1 y2 y3 y4 z0 z1 z2 z3 z4 hb5 q4
      obtain ⟨⟨x0, x1, x2, x3, x4⟩, -⟩ := cells5 kx
      obtain ⟨⟨z0, z1, z2, z3, z4⟩, -⟩ := cells5 kv
      clear kx kv
      go_wp2_with fail
      refine (implVecOk_any R3 (K3 + k) (H3 + 1) B3 P3 _).mono ?_
      rintro e w8 ⟨rfl, hb8⟩
      rw [HOK.out]
      have KA := hide (kept_block ka hb8)
      have KB := hide (kept_block kb hb8)
      have HB := hide (gr_trans q5 hb8)
      clear x0 x1 x2 x3 x4 z0 z1 z2 z3 z4 hb8 q5 ka kb
      go_wp2_with fail
      go_meet
      exact ⟨rfl, rfl, rfl, KA.out, KB.out, HB.out⟩
  case rest =>
    obtain ⟨rfl, rfl, rfl, ka, kb, q8⟩ := hcut
    have KA := hide ka
    have KB := hide kb
    clear ka kb kv kx ky q4 HE HQ
    generalize hw8 : wc = w8 at *
    clear hw8
    go_upto_region 9 with fail
    obtain ⟨⟨x0, x1, x2, x3, x4⟩, -⟩ := cells5 KA.out
    obtain ⟨⟨y0, y1, y2, y3, y4⟩, -⟩ := cells5 KB.out
    have vv : Below w8.heap.size w8 w8.drew := gr_drew (Below.refl _ _)
    have L3 := hide (less_self R K B P)
    cases hL : lessVc R K B P R' K' B' P'
    · have L1 := hide hL
      clear hL
      refine wp_region_held_drew (S := fun W => (W.cell? ⟨w1.heap.size, 0, none⟩ = some (.int .i64 R) ∧ W.cell? ⟨w1.heap.size, 1, none⟩ = some (.int .i64 K) ∧ W.cell? ⟨w1.heap.size, 2, none⟩ = some (.int .i64 H) ∧ W.cell? ⟨w1.heap.size, 3, none⟩ = some (.int .i64 B) ∧ W.cell? ⟨w1.heap.size, 4, none⟩ = some (.int .i64 P)) ∧ (W.cell? ⟨w1.heap.size + 1, 0, none⟩ = some (.int .i64 R') ∧ W.cell? ⟨w1.heap.size + 1, 1, none⟩ = some (.int .i64 K') ∧ W.cell? ⟨w1.heap.size + 1, 2, none⟩ = some (.int .i64 H') ∧ W.cell? ⟨w1.heap.size + 1, 3, none⟩ = some (.int .i64 B') ∧ W.cell? ⟨w1.heap.size + 1, 4, none⟩ = some (.int .i64 P'))) (by kernel_rfl) (⟨(cells5 (kept_block KA.out vv)).1, (cells5 (kept_block KB.out vv)).1⟩) (fun hHeld => ?_)
      refine wpAnyH_take (i := 0) (oi := { dst := some 74, op := Op.load 38 (Operand.tmp 3), type := 38, pos := "laws.go:418", after := #[], guard := none }) (v := ?_) rfl (by kernel_rfl) (by kernel_rfl) (by kernel_rfl) (fun _ _ _ h => h) (Or.inl ⟨by rfl, ?_⟩) (by assumption) ?_
      rotate_left
      · (intro wY hSw; (try dsimp only at hSw); go_simp; try with_reducible rfl)
      simp only [Act.put, List.setIfInBounds_toArray, List.set_cons_zero, List.set_cons_succ]
      refine wpAnyH_take (i := 1) (oi := { dst := some 75, op := Op.load 38 (Operand.tmp 4), type := 38, pos := "laws.go:418", after := #[], guard := none }) (v := ?_) rfl (by kernel_rfl) (by kernel_rfl) (by kernel_rfl) (fun _ _ _ h => h) (Or.inl ⟨by rfl, ?_⟩) (by assumption) ?_
      rotate_left
      · (intro wY hSw; (try dsimp only at hSw); go_simp; try with_reducible rfl)
      simp only [Act.put, List.setIfInBounds_toArray, List.set_cons_zero, List.set_cons_succ]
      refine wpAnyH_take (i := 3) (oi := { dst := some 77, op := Op.load 38 (Operand.tmp 3), type := 38, pos := "laws.go:418", after := #[], guard := none }) (v := ?_) rfl (by kernel_rfl) (by kernel_rfl) (by kernel_rfl) (fun _ _ _ h => h) (Or.inl ⟨by rfl, ?_⟩) (by assumption) ?_
      rotate_left
      · (intro wY hSw; (try dsimp only at hSw); go_simp; try with_reducible rfl)
      simp only [Act.put, List.setIfInBounds_toArray, List.set_cons_zero, List.set_cons_succ]
      refine wpAnyH_take (i := 4) (oi := { dst := some 78, op := Op.load 38 (Operand.tmp 4), type := 38, pos := "laws.go:418", after := #[], guard := none }) (v := ?_) rfl (by kernel_rfl) (by kernel_rfl) (by kernel_rfl) (fun _ _ _ h => h) (Or.inl ⟨by rfl, ?_⟩) (by assumption) ?_
      rotate_left
      · (intro wY hSw; (try dsimp only at hSw); go_simp; try with_reducible rfl)
      simp only [Act.put, List.setIfInBounds_toArray, List.set_cons_zero, List.set_cons_succ]
      refine wpAnyH_ready (rs := [2]) (by kernel_rfl) (by simp) ?_
      refine AllReadyH.cons (o := { dst := some 76, op := Op.call { callee := Callee.value (Operand.func 32), args := #[Operand.tmp 74, Operand.tmp 75], argTypes := #[38, 38] }, type := 4, pos := "laws.go:418", after := #[{ on := 0, ground := Ground.data }, { on := 1, ground := Ground.data }], guard := none }) rfl (fun K hK => ?_) ?_
      · go_simp
        refine (implLessVec_any _ _ _ _ _ _ _ _ _ _ _).mono ?_
        rintro e wx ⟨rfl, hbx⟩
        rw [L1.out]
        have vv := gr_trans vv hbx
        go_wp2_with fail
        refine hK.out _ _ (⟨(cells5 (kept_block KA.out vv)).1, (cells5 (kept_block KB.out vv)).1⟩) (fun hHeld => ?_)
        clear hK K
        try simp only [Act.put, List.setIfInBounds_toArray, List.set_cons_zero, List.set_cons_succ]
        refine wpAnyH_ready (rs := [5]) (by kernel_rfl) (by simp) ?_
        refine AllReadyH.cons (o := { dst := some 79, op := Op.call { callee := Callee.value (Operand.func 33), args := #[Operand.tmp 77, Operand.tmp 78], argTypes := #[38, 38] }, type := 4, pos := "laws.go:418", after := #[{ on := 3, ground := Ground.data }, { on := 4, ground := Ground.data }, { on := 2, ground := Ground.chain }], guard := none }) rfl (fun K hK => ?_) ?_
        · go_simp
          refine (specLessVec_any _ _ _ _ _ _ _ _ _ _ _).mono ?_
          rintro e wx ⟨rfl, hbx⟩
          rw [L1.out]
          have vv := gr_trans vv hbx
          go_wp2_with fail
          refine hK.out _ _ (⟨(cells5 (kept_block KA.out vv)).1, (cells5 (kept_block KB.out vv)).1⟩) (fun hHeld => ?_)
          clear hK K
          try simp only [Act.put, List.setIfInBounds_toArray, List.set_cons_zero, List.set_cons_succ]
          refine wpAnyH_take (i := 6) (oi := { dst := some 80, op := Op.binOp BinOp.eql 4 (Operand.tmp 76) (Operand.tmp 79) 4, type := 4, pos := "laws.go:418", after := #[{ on := 2, ground := Ground.data }, { on := 5, ground := Ground.data }], guard := none }) (v := ?_) rfl (by kernel_rfl) (by kernel_rfl) (by kernel_rfl) (fun _ _ _ h => h) (Or.inl ⟨by rfl, ?_⟩) (by assumption) ?_
          rotate_left
          · (intro wY hSw; (try dsimp only at hSw); go_simp; try with_reducible rfl)
          simp only [Act.put, List.setIfInBounds_toArray, List.set_cons_zero, List.set_cons_succ]
          refine wpAnyH_take (i := 7) (oi := { dst := some 81, op := Op.move (Operand.tmp 80), type := 4, pos := "laws.go:418", after := #[{ on := 6, ground := Ground.data }, { on := 5, ground := Ground.chain }], guard := none }) (v := ?_) rfl (by kernel_rfl) (by kernel_rfl) (by kernel_rfl) (fun _ _ _ h => h) (Or.inl ⟨by rfl, ?_⟩) (by assumption) ?_
          rotate_left
          · (intro wY hSw; (try dsimp only at hSw); go_simp; try with_reducible rfl)
          simp only [Act.put, List.setIfInBounds_toArray, List.set_cons_zero, List.set_cons_succ]
          refine wpAnyH_take (i := 8) (oi := { dst := some 82, op := Op.load 38 (Operand.tmp 3), type := 38, pos := "laws.go:418", after := #[{ on := 7, ground := Ground.guard }], guard := some (7, true) }) (v := ?_) rfl (by kernel_rfl) (by kernel_rfl) (by kernel_rfl) (fun _ _ _ h => h) (Or.inl ⟨by rfl, ?_⟩) (by assumption) ?_
          rotate_left
          · (intro wY hSw; (try dsimp only at hSw); go_simp; try with_reducible rfl)
          simp only [Act.put, List.setIfInBounds_toArray, List.set_cons_zero, List.set_cons_succ]
          refine wpAnyH_take (i := 9) (oi := { dst := some 83, op := Op.load 38 (Operand.tmp 4), type := 38, pos := "laws.go:418", after := #[{ on := 7, ground := Ground.guard }], guard := some (7, true) }) (v := ?_) rfl (by kernel_rfl) (by kernel_rfl) (by kernel_rfl) (fun _ _ _ h => h) (Or.inl ⟨by rfl, ?_⟩) (by assumption) ?_
          rotate_left
          · (intro wY hSw; (try dsimp only at hSw); go_simp; try with_reducible rfl)
          simp only [Act.put, List.setIfInBounds_toArray, List.set_cons_zero, List.set_cons_succ]
          refine wpAnyH_ready (rs := [10]) (by kernel_rfl) (by simp) ?_
          refine AllReadyH.cons (o := { dst := some 84, op := Op.call { callee := Callee.value (Operand.func 32), args := #[Operand.tmp 82, Operand.tmp 83], argTypes := #[38, 38] }, type := 4, pos := "laws.go:418", after := #[{ on := 8, ground := Ground.data }, { on := 9, ground := Ground.data }, { on := 7, ground := Ground.chain }, { on := 7, ground := Ground.guard }], guard := some (7, true) }) rfl (fun K hK => ?_) ?_
          · go_simp
            refine (implLessVec_any _ _ _ _ _ _ _ _ _ _ _).mono ?_
            rintro e wx ⟨rfl, hbx⟩
            rw [L1.out]
            have vv := gr_trans vv hbx
            go_wp2_with fail
            refine hK.out _ _ (⟨(cells5 (kept_block KA.out vv)).1, (cells5 (kept_block KB.out vv)).1⟩) (fun hHeld => ?_)
            clear hK K
            try simp only [Act.put, List.setIfInBounds_toArray, List.set_cons_zero, List.set_cons_succ]
            refine wpAnyH_take (i := 11) (oi := { dst := some 85, op := Op.move (Operand.tmp 84), type := 4, pos := "laws.go:418", after := #[{ on := 10, ground := Ground.data }, { on := 10, ground := Ground.chain }, { on := 7, ground := Ground.guard }], guard := some (7, true) }) (v := ?_) rfl (by kernel_rfl) (by kernel_rfl) (by kernel_rfl) (fun _ _ _ h => h) (Or.inl ⟨by rfl, ?_⟩) (by assumption) ?_
            rotate_left
            · (intro wY hSw; (try dsimp only at hSw); go_simp; try with_reducible rfl)
            simp only [Act.put, List.setIfInBounds_toArray, List.set_cons_zero, List.set_cons_succ]
            refine wpAnyH_take (i := 12) (oi := { dst := some 86, op := Op.load 38 (Operand.tmp 4), type := 38, pos := "laws.go:418", after := #[{ on := 11, ground := Ground.guard }], guard := some (11, true) }) (v := undef) rfl (by kernel_rfl) (by kernel_rfl) (by kernel_rfl) (fun _ _ _ h => h) (Or.inr ⟨by rfl, rfl⟩) (by assumption) ?_
            simp only [Act.put, List.setIfInBounds_toArray, List.set_cons_zero, List.set_cons_succ]
            refine wpAnyH_take (i := 13) (oi := { dst := some 87, op := Op.load 38 (Operand.tmp 3), type := 38, pos := "laws.go:418", after := #[{ on := 11, ground := Ground.guard }], guard := some (11, true) }) (v := undef) rfl (by kernel_rfl) (by kernel_rfl) (by kernel_rfl) (fun _ _ _ h => h) (Or.inr ⟨by rfl, rfl⟩) (by assumption) ?_
            simp only [Act.put, List.setIfInBounds_toArray, List.set_cons_zero, List.set_cons_succ]
            refine wpAnyH_take (i := 14) (oi := { dst := some 88, op := Op.call { callee := Callee.value (Operand.func 32), args := #[Operand.tmp 86, Operand.tmp 87], argTypes := #[38, 38] }, type := 4, pos := "laws.go:418", after := #[{ on := 12, ground := Ground.data }, { on := 13, ground := Ground.data }, { on := 11, ground := Ground.chain }, { on := 11, ground := Ground.guard }], guard := some (11, true) }) (v := undef) rfl (by kernel_rfl) (by kernel_rfl) (by kernel_rfl) (fun _ _ _ h => h) (Or.inr ⟨by rfl, rfl⟩) (by assumption) ?_
            simp only [Act.put, List.setIfInBounds_toArray, List.set_cons_zero, List.set_cons_succ]
            refine wpAnyH_take (i := 15) (oi := { dst := some 89, op := Op.pick (Operand.tmp 85) (Operand.tmp 88) (Operand.const (Value.bool false)), type := 4, pos := "laws.go:418", after := #[{ on := 11, ground := Ground.data }, { on := 14, ground := Ground.data }, { on := 7, ground := Ground.guard }], guard := some (7, true) }) (v := ?_) rfl (by kernel_rfl) (by kernel_rfl) (by kernel_rfl) (fun _ _ _ h => h) (Or.inl ⟨by rfl, ?_⟩) (by assumption) ?_
            rotate_left
            · (intro wY hSw; (try dsimp only at hSw); go_simp; try with_reducible rfl)
            simp only [Act.put, List.setIfInBounds_toArray, List.set_cons_zero, List.set_cons_succ]
            refine wpAnyH_take (i := 16) (oi := { dst := some 90, op := Op.unOp UnOp.not 4 (Operand.tmp 89), type := 4, pos := "laws.go:418", after := #[{ on := 15, ground := Ground.data }, { on := 7, ground := Ground.guard }], guard := some (7, true) }) (v := ?_) rfl (by kernel_rfl) (by kernel_rfl) (by kernel_rfl) (fun _ _ _ h => h) (Or.inl ⟨by rfl, ?_⟩) (by assumption) ?_
            rotate_left
            · (intro wY hSw; (try dsimp only at hSw); go_simp; try with_reducible rfl)
            simp only [Act.put, List.setIfInBounds_toArray, List.set_cons_zero, List.set_cons_succ]
            refine wpAnyH_take (i := 17) (oi := { dst := some 91, op := Op.pick (Operand.tmp 81) (Operand.tmp 90) (Operand.const (Value.bool false)), type := 4, pos := "laws.go:418", after := #[{ on := 7, ground := Ground.data }, { on := 16, ground := Ground.data }], guard := none }) (v := ?_) rfl (by kernel_rfl) (by kernel_rfl) (by kernel_rfl) (fun _ _ _ h => h) (Or.inl ⟨by rfl, ?_⟩) (by assumption) ?_
            rotate_left
            · (intro wY hSw; (try dsimp only at hSw); go_simp; try with_reducible rfl)
            simp only [Act.put, List.setIfInBounds_toArray, List.set_cons_zero, List.set_cons_succ]
            refine wpAnyH_take (i := 18) (oi := { dst := some 92, op := Op.move (Operand.tmp 91), type := 4, pos := "laws.go:418", after := #[{ on := 17, ground := Ground.data }, { on := 14, ground := Ground.chain }], guard := none }) (v := ?_) rfl (by kernel_rfl) (by kernel_rfl) (by kernel_rfl) (fun _ _ _ h => h) (Or.inl ⟨by rfl, ?_⟩) (by assumption) ?_
            rotate_left
            · (intro wY hSw; (try dsimp only at hSw); go_simp; try with_reducible rfl)
            simp only [Act.put, List.setIfInBounds_toArray, List.set_cons_zero, List.set_cons_succ]
            refine wpAnyH_take (i := 19) (oi := { dst := some 93, op := Op.load 38 (Operand.tmp 3), type := 38, pos := "laws.go:418", after := #[{ on := 18, ground := Ground.guard }], guard := some (18, true) }) (v := ?_) rfl (by kernel_rfl) (by kernel_rfl) (by kernel_rfl) (fun _ _ _ h => h) (Or.inl ⟨by rfl, ?_⟩) (by assumption) ?_
            rotate_left
            · (intro wY hSw; (try dsimp only at hSw); go_simp; try with_reducible rfl)
            simp only [Act.put, List.setIfInBounds_toArray, List.set_cons_zero, List.set_cons_succ]
            refine wpAnyH_take (i := 20) (oi := { dst := some 94, op := Op.load 38 (Operand.tmp 3), type := 38, pos := "laws.go:418", after := #[{ on := 18, ground := Ground.guard }], guard := some (18, true) }) (v := ?_) rfl (by kernel_rfl) (by kernel_rfl) (by kernel_rfl) (fun _ _ _ h => h) (Or.inl ⟨by rfl, ?_⟩) (by assumption) ?_
            rotate_left
            · (intro wY hSw; (try dsimp only at hSw); go_simp; try with_reducible rfl)
            simp only [Act.put, List.setIfInBounds_toArray, List.set_cons_zero, List.set_cons_succ]
            refine wpAnyH_ready (rs := [21]) (by kernel_rfl) (by simp) ?_
            refine AllReadyH.cons (o := { dst := some 95, op := Op.call { callee := Callee.value (Operand.func 32), args := #[Operand.tmp 93, Operand.tmp 94], argTypes := #[38, 38] }, type := 4, pos := "laws.go:418", after := #[{ on := 19, ground := Ground.data }, { on := 20, ground := Ground.data }, { on := 18, ground := Ground.chain }, { on := 18, ground := Ground.guard }], guard := some (18, true) }) rfl (fun K hK => ?_) ?_
            · go_simp
              refine (implLessVec_any _ _ _ _ _ _ _ _ _ _ _).mono ?_
              rintro e wx ⟨rfl, hbx⟩
              rw [L3.out]
              have vv := gr_trans vv hbx
              go_wp2_with fail
              refine hK.out _ _ (⟨(cells5 (kept_block KA.out vv)).1, (cells5 (kept_block KB.out vv)).1⟩) (fun hHeld => ?_)
              clear hK K
              try simp only [Act.put, List.setIfInBounds_toArray, List.set_cons_zero, List.set_cons_succ]
              refine wpAnyH_take (i := 22) (oi := { dst := some 96, op := Op.unOp UnOp.not 4 (Operand.tmp 95), type := 4, pos := "laws.go:418", after := #[{ on := 21, ground := Ground.data }, { on := 18, ground := Ground.guard }], guard := some (18, true) }) (v := ?_) rfl (by kernel_rfl) (by kernel_rfl) (by kernel_rfl) (fun _ _ _ h => h) (Or.inl ⟨by rfl, ?_⟩) (by assumption) ?_
              rotate_left
              · (intro wY hSw; (try dsimp only at hSw); go_simp; try with_reducible rfl)
              simp only [Act.put, List.setIfInBounds_toArray, List.set_cons_zero, List.set_cons_succ]
              refine wpAnyH_take (i := 23) (oi := { dst := some 97, op := Op.pick (Operand.tmp 92) (Operand.tmp 96) (Operand.const (Value.bool false)), type := 4, pos := "laws.go:418", after := #[{ on := 18, ground := Ground.data }, { on := 22, ground := Ground.data }], guard := none }) (v := ?_) rfl (by kernel_rfl) (by kernel_rfl) (by kernel_rfl) (fun _ _ _ h => h) (Or.inl ⟨by rfl, ?_⟩) (by assumption) ?_
              rotate_left
              · (intro wY hSw; (try dsimp only at hSw); go_simp; try with_reducible rfl)
              simp only [Act.put, List.setIfInBounds_toArray, List.set_cons_zero, List.set_cons_succ]
              refine wpAnyH_take (i := 24) (oi := { dst := some 2, op := Op.assign (Operand.tmp 97), type := 4, pos := "laws.go:418", after := #[{ on := 23, ground := Ground.data }, { on := 21, ground := Ground.chain }, { on := 0, ground := Ground.phase }, { on := 1, ground := Ground.phase }, { on := 2, ground := Ground.phase }, { on := 3, ground := Ground.phase }, { on := 4, ground := Ground.phase }, { on := 5, ground := Ground.phase }, { on := 6, ground := Ground.phase }, { on := 7, ground := Ground.phase }, { on := 8, ground := Ground.phase }, { on := 9, ground := Ground.phase }, { on := 10, ground := Ground.phase }, { on := 11, ground := Ground.phase }, { on := 12, ground := Ground.phase }, { on := 13, ground := Ground.phase }, { on := 14, ground := Ground.phase }, { on := 15, ground := Ground.phase }, { on := 16, ground := Ground.phase }, { on := 17, ground := Ground.phase }, { on := 18, ground := Ground.phase }, { on := 19, ground := Ground.phase }, { on := 20, ground := Ground.phase }, { on := 21, ground := Ground.phase }, { on := 22, ground := Ground.phase }, { on := 23, ground := Ground.phase }], guard := none }) (v := ?_) rfl (by kernel_rfl) (by kernel_rfl) (by kernel_rfl) (fun _ _ _ h => h) (Or.inl ⟨by rfl, ?_⟩) (by assumption) ?_
              rotate_left
              · (intro wY hSw; (try dsimp only at hSw); go_simp; try with_reducible rfl)
              simp only [Act.put, List.setIfInBounds_toArray, List.set_cons_zero, List.set_cons_succ]
              refine wpAnyH_done (by kernel_rfl) ?_ _
              go_wp2
              go_ret
              exact ⟨rfl, gr_trans q8 vv⟩
            exact AllReadyH.nil
          exact AllReadyH.nil
        exact AllReadyH.nil
      exact AllReadyH.nil
    · have L2 := hide (less_not hL)
      have L1 := hide hL
      clear hL
      go_region_held3 (fun W => (W.cell? ⟨w1.heap.size, 0, none⟩ = some (.int .i64 R) ∧ W.cell? ⟨w1.heap.size, 1, none⟩ = some (.int .i64 K) ∧ W.cell? ⟨w1.heap.size, 2, none⟩ = some (.int .i64 H) ∧ W.cell? ⟨w1.heap.size, 3, none⟩ = some (.int .i64 B) ∧ W.cell? ⟨w1.heap.size, 4, none⟩ = some (.int .i64 P)) ∧ (W.cell? ⟨w1.heap.size + 1, 0, none⟩ = some (.int .i64 R') ∧ W.cell? ⟨w1.heap.size + 1, 1, none⟩ = some (.int .i64 K') ∧ W.cell? ⟨w1.heap.size + 1, 2, none⟩ = some (.int .i64 H') ∧ W.cell? ⟨w1.heap.size + 1, 3, none⟩ = some (.int .i64 B') ∧ W.cell? ⟨w1.heap.size + 1, 4, none⟩ = some (.int .i64 P'))) (first | exact ⟨(cells5 (kept_block KA.out vv)).1, (cells5 (kept_block KB.out vv)).1⟩ | go_keep) (first
        | (go_at_call 32; refine (implLessVec_any _ _ _ _ _ _ _ _ _ _ _).mono ?_; rintro e wx ⟨rfl, hbx⟩; (first | rw [L1.out] | rw [L3.out] | rw [L2.out]); have vv := gr_trans vv hbx)
        | (go_at_call 33; refine (specLessVec_any _ _ _ _ _ _ _ _ _ _ _).mono ?_; rintro e wx ⟨rfl, hbx⟩; rw [L1.out]; have vv := gr_trans vv hbx))
      go_wp2
      go_ret
      exact ⟨rfl, gr_trans q8 vv⟩

theorem fnVecOrder_own : ownKnob Try.prog.godebug = none := by kernel_rfl
theorem fnVecOrder_laid : laidOutB Try.prog = true := by kernel_rfl

open Go.ChangeShapes Go.WideShapes Go.ChangeAt in
open Go.ChangeMaps (open_string shut_string) in
set_option maxRecDepth 100000 in
theorem fnVecOrder_lifted (os : Os) (started : os.Started) (H : Type) (enc : TypeId × Value → H) :
    ReturnsInHanded {} Try.checked os 5 .any (Rows.fnVecOrderSpec.pre6 enc Try.prog Try.f5 Rows.fnVecOrderRow.domain false) (Rows.fnVecOrderSpec.post enc Try.prog Try.f5 false true false false) := by
  refine returnsInHanded_of_change (C := Try.checked) fnVecOrder_own started (by kernel_rfl) Try.func5
    (ChangeSpec.witness6 (enc := enc) (C := Try.checked) false ⟨#[], #[.slice none 0 0], []⟩ 8 (by kernel_rfl) (by kernel_rfl) (by kernel_rfl) (by kernel_rfl)) ?_
  intro W base args ds gs before hval0 hW hcnd _
  have hval : ∀ (j : Nat) t v, Try.f5.params[j]? = some t → args[j]? = some v → Value.okWide Try.prog W .any base t v := hval0
  have hW' := hW
  obtain ⟨p, q, hA0, hV, rfl, hfz, hnd⟩ := hW
  have hA : DataW.TrodAll enc Try.prog W 0 (fun _ => true) true Try.f5.params.toList args.toList ds p := hA0
  rw [Try.params5] at hA hval
  obtain ⟨v0, vs0, d0, ds0, p0, q0, hargs, rfl, rfl, h0, r0⟩ := trodAll_cons hA
  obtain ⟨rfl, rfl, rfl⟩ := trodAll_nil r0
  obtain rfl : args = #[v0] := by cases args; simp_all
  obtain ⟨rfl, rfl⟩ := trodVars_none hV
  obtain ⟨a0, len0, cap0, rfl⟩ := okWide_slice Try.underlying22 (hval 0 22 v0 rfl rfl)
  have k0 := h0
  have lt0 : ∀ x ∈ p0, x.block < W.heap.size := by obtain ⟨m, hm⟩ := k0; exact DataW.trod_lt m _ _ _ hm
  obtain ⟨z0, w0⟩ : ∃ zs, Row W a0 len0 cap0 zs := by
    obtain ⟨fuel, hf⟩ := h0
    rcases open_ints Try.underlying22 Try.underlying5 (by kernel_rfl) hf with ⟨hcs, _⟩ | ⟨x, l, c, zs, hcs, _, hl, hm, hz, _, hcell, hwz⟩
    · simp [Value.cells] at hcs
      obtain ⟨rfl, rfl, rfl⟩ := hcs
      exact ⟨[], row_nil W⟩
    · simp [Value.cells] at hcs
      obtain ⟨rfl, rfl, rfl⟩ := hcs
      exact ⟨zs.take len0, row_open hl hm (by simpa using hz) hcell hwz⟩
  clear hA0 hval0
  refine (vecOrder_walk a0 len0 cap0 z0 W w0).mono fun e W' ⟨he, bel⟩ => ?_
  subst he
  exact ⟨_, rfl, _, _, _, [], _, [], hW', trodAll_mk1 (shut_bool Try.underlying4 _), (trodAll_cons_mk (Below.trod fnVecOrder_laid (by kernel_rfl) (of_decide_eq_true (by kernel_rfl)) k0 bel lt0) trodAll_mk0), rfl, bel.frame _, fun h => by cases h⟩

theorem fnVecOrder_holds : Rows.FnVecOrderSaid :=
  OpenClaim.holds_of_wide 5 Try.f5 rfl rfl rfl rfl rfl rfl rfl ⟨rfl, rfl, rfl, rfl, rfl⟩ rfl rfl rfl rfl rfl (by kernel_rfl) Try.func5 (by kernel_rfl)
    (of_decide_eq_true (by kernel_rfl)) (by unfold Func.isWrapper; first | (rw [if_pos (by decide +kernel)]; kernel_rfl) | (rw [if_neg (by decide +kernel)]; exact ⟨rfl, rfl⟩))
    (fun os started H enc _ => fnVecOrder_lifted os started H enc)

#print axioms fnVecOrder_holds

end Go.Proofs.Ytanonfdgckanhaa
