/-
  FnRolesBent answers true at all bytes: of drawn ports, bent or not, whether a port is right, what is said and which are for what is as the specification has it.
-/
import Derived.Test.YtmlcjdfnoipihaaDrawPt2
import Derived.Test.YtmlcjdfnoipihaaPtSends
import Derived.Test.YtmlcjdfnoipihaaPtSendsI
import Derived.Test.YtmlcjdfnoipihaaBig
import Derived.WalkKit
import Derived.ProofKit
import Derived.OpenShut
import Derived.ShutString
import Derived.ChangeOld
import Derived.Below
namespace Go.Proofs.Ytmlcjdfnoipihaa
open Go.RowKit

set_option maxRecDepth 100000 in
set_option maxHeartbeats 16000000 in
theorem rolesBent_walk (a0 : Option Addr) (l0 c0 : Nat) (z0 : List Int) (w : World) (h0 : Row w a0 l0 c0 z0) :
    Calls Try.prog 4 #[.slice a0 l0 c0] w fun e w' => e = .returned (.bool true) ∧ Below w.heap.size w w' := by
  by_cases g0 : 1048576 < l0
  · have i1 : (1048576 : Int) < l0 := by omega
    go_enter Try.func4, Try.ntmps4
    go_wp2
    go_ret
    exact ⟨rfl, Below.refl _ _⟩
  have hs : l0 ≤ 1048576 := by omega
  have u : Below w.heap.size w w := Below.refl _ _
  go_enter Try.func4, Try.ntmps4
  go_wp2_with fail
  refine (big_no _ _ _ _ g0).mono ?_
  rintro e w0 ⟨rfl, e0⟩
  obtain rfl := e0.symm
  go_wp2_with fail
  refine (drawPtOk_any a0 l0 c0 z0 _ (h0.below u) hs).mono ?_
  rintro e w1 ⟨x, rfl, hb⟩
  have u := gr_trans u hb
  clear hb
  go_upto_region 4 with fail
  generalize hwA : w1.alloc (Obj.cells #[.bool x.up, .int .i64 x.k, .bool x.has, .int .i64 x.v.r, .int .i64 x.v.c, .int .i64 x.v.h, .int .i64 x.v.b, .int .i64 x.v.p] 33) = wA
  have bA : Below w1.heap.size w1 wA := by rw [← hwA]; exact below_one _ _
  obtain ⟨X, hX⟩ : ∃ y, y = w1.heap.size := ⟨_, rfl⟩
  have kX : wA.heap[X]? = some (.cells #[.bool x.up, .int .i64 x.k, .bool x.has, .int .i64 x.v.r, .int .i64 x.v.c, .int .i64 x.v.h, .int .i64 x.v.b, .int .i64 x.v.p] 33) := by rw [← hwA, hX]; exact block_last _ _
  rw [← hX]
  have u := gr_trans u bA
  clear hwA bA hX
  go_wp2_with fail
  refine (drawBestVec_any a0 l0 c0 z0 _ (h0.below u) hs).mono ?_
  rintro e w2 ⟨id, ao, cap, m, l, rfl, -, -, -, o2, hb⟩
  have rl := grow_own o2
  clear o2
  have u := gr_trans u hb
  have kX := kept_block kX hb
  clear hb
  generalize hV : bestV id (bestOf id l) = V
  generalize hP : bestP (bestOf id l) = P
  have HV := hide hV
  have HP := hide hP
  clear hV hP
  go_wp2_with fail
  refine (implBestVec_any id _ _ _ l _ rl).mono ?_
  rintro e w3 ⟨rfl, hb⟩
  rw [HV.out, HP.out]
  have u := gr_trans u hb
  have kX := kept_block kX hb
  have rl := rl.below hb
  clear hb
  go_upto_region 6 with fail
  generalize hwB : w3.alloc (Obj.cells #[.int .i64 V.r, .int .i64 V.c, .int .i64 V.h, .int .i64 V.b, .int .i64 V.p] 28) = wB
  have bB : Below w3.heap.size w3 wB := by rw [← hwB]; exact below_one _ _
  obtain ⟨YV, hYV⟩ : ∃ y, y = w3.heap.size := ⟨_, rfl⟩
  have kYV : wB.heap[YV]? = some (.cells #[.int .i64 V.r, .int .i64 V.c, .int .i64 V.h, .int .i64 V.b, .int .i64 V.p] 28) := by rw [← hwB, hYV]; exact block_last _ _
  rw [← hYV]
  have u := gr_trans u bB
  have kX := kept_block kX bB
  have rl := rl.below bB
  clear hwB bB hYV
  go_wp2_with fail
  refine (specBestVec_any id _ _ _ l _ rl).mono ?_
  rintro e w4 ⟨rfl, hb⟩
  rw [HV.out, HP.out]
  have u := gr_trans u hb
  have kX := kept_block kX hb
  have kYV := kept_block kYV hb
  have rl := rl.below hb
  clear hb
  go_upto_region 7 with fail
  generalize hwC : w4.alloc (Obj.cells #[.int .i64 V.r, .int .i64 V.c, .int .i64 V.h, .int .i64 V.b, .int .i64 V.p] 28) = wC
  have bC : Below w4.heap.size w4 wC := by rw [← hwC]; exact below_one _ _
  obtain ⟨ZV, hZV⟩ : ∃ y, y = w4.heap.size := ⟨_, rfl⟩
  have kZV : wC.heap[ZV]? = some (.cells #[.int .i64 V.r, .int .i64 V.c, .int .i64 V.h, .int .i64 V.b, .int .i64 V.p] 28) := by rw [← hwC, hZV]; exact block_last _ _
  rw [← hZV]
  have u := gr_trans u bC
  have kX := kept_block kX bC
  have kYV := kept_block kYV bC
  have rl := rl.below bC
  clear hwC bC hZV
  go_wp2_with fail
  refine (drawSayVec_any a0 l0 c0 z0 _ (h0.below u) hs).mono ?_
  rintro e w5 ⟨j, q, ao5, cap5, m5, lm, rfl, -, -, -, o5, hb⟩
  have rm := grow_own o5
  clear o5
  have u := gr_trans u hb
  have kX := kept_block kX hb
  have kYV := kept_block kYV hb
  have kZV := kept_block kZV hb
  have rl := rl.below hb
  clear hb
  generalize hU : sayV j lm q = U
  have HU := hide hU
  have HUp : Hid (U.p = q) := hide (by rw [← hU]; rfl)
  clear hU
  go_wp2_with fail
  refine (implSayVec_any j _ _ _ lm q _ rm).mono ?_
  rintro e w6 ⟨rfl, hb⟩
  rw [HU.out]
  have u := gr_trans u hb
  have kX := kept_block kX hb
  have kYV := kept_block kYV hb
  have kZV := kept_block kZV hb
  have rl := rl.below hb
  have rm := rm.below hb
  clear hb
  go_upto_region 9 with fail
  generalize hwD : w6.alloc (Obj.cells #[.int .i64 U.r, .int .i64 U.c, .int .i64 U.h, .int .i64 U.b, .int .i64 U.p] 28) = wD
  have bD : Below w6.heap.size w6 wD := by rw [← hwD]; exact below_one _ _
  obtain ⟨SV, hSV⟩ : ∃ y, y = w6.heap.size := ⟨_, rfl⟩
  have kSV : wD.heap[SV]? = some (.cells #[.int .i64 U.r, .int .i64 U.c, .int .i64 U.h, .int .i64 U.b, .int .i64 U.p] 28) := by rw [← hwD, hSV]; exact block_last _ _
  rw [← hSV]
  have u := gr_trans u bD
  have kX := kept_block kX bD
  have kYV := kept_block kYV bD
  have kZV := kept_block kZV bD
  have rl := rl.below bD
  have rm := rm.below bD
  clear hwD bD hSV
  have HSS : Hid (∀ W', Below wD.heap.size wD W' → (W'.cell? ⟨X, 0, none⟩ = some (.bool x.up) ∧ W'.cell? ⟨X, 1, none⟩ = some (.int .i64 x.k) ∧ W'.cell? ⟨X, 2, none⟩ = some (.bool x.has) ∧ W'.cell? ⟨X, 3, none⟩ = some (.int .i64 x.v.r) ∧ W'.cell? ⟨X, 4, none⟩ = some (.int .i64 x.v.c) ∧ W'.cell? ⟨X, 5, none⟩ = some (.int .i64 x.v.h) ∧ W'.cell? ⟨X, 6, none⟩ = some (.int .i64 x.v.b) ∧ W'.cell? ⟨X, 7, none⟩ = some (.int .i64 x.v.p)) ∧ (W'.cell? ⟨YV, 0, none⟩ = some (.int .i64 V.r) ∧ W'.cell? ⟨YV, 1, none⟩ = some (.int .i64 V.c) ∧ W'.cell? ⟨YV, 2, none⟩ = some (.int .i64 V.h) ∧ W'.cell? ⟨YV, 3, none⟩ = some (.int .i64 V.b) ∧ W'.cell? ⟨YV, 4, none⟩ = some (.int .i64 V.p)) ∧ (W'.cell? ⟨ZV, 0, none⟩ = some (.int .i64 V.r) ∧ W'.cell? ⟨ZV, 1, none⟩ = some (.int .i64 V.c) ∧ W'.cell? ⟨ZV, 2, none⟩ = some (.int .i64 V.h) ∧ W'.cell? ⟨ZV, 3, none⟩ = some (.int .i64 V.b) ∧ W'.cell? ⟨ZV, 4, none⟩ = some (.int .i64 V.p)) ∧ (W'.cell? ⟨SV, 0, none⟩ = some (.int .i64 U.r) ∧ W'.cell? ⟨SV, 1, none⟩ = some (.int .i64 U.c) ∧ W'.cell? ⟨SV, 2, none⟩ = some (.int .i64 U.h) ∧ W'.cell? ⟨SV, 3, none⟩ = some (.int .i64 U.b) ∧ W'.cell? ⟨SV, 4, none⟩ = some (.int .i64 U.p))) := hide (fun W' hb => ⟨cells8 (kept_block kX hb), (cells5 (kept_block kYV hb)).1, (cells5 (kept_block kZV hb)).1, (cells5 (kept_block kSV hb)).1⟩)
  have HRL : Hid (∀ W', Below wD.heap.size wD W' → GRow ptF W' ao m cap l) := hide (fun W' hb => rl.below hb)
  have HRM : Hid (∀ W', Below wD.heap.size wD W' → GRow ptF W' ao5 m5 cap5 lm) := hide (fun W' hb => rm.below hb)
  have UU := hide u
  generalize hQ : ptOk x = Q
  have HQ := hide hQ
  generalize hN : sendsOf id l = N
  have HN := hide hN
  have heV : ∀ W, (binOp .eql 28 (.agg #[.int .i64 V.r, .int .i64 V.c, .int .i64 V.h, .int .i64 V.b, .int .i64 V.p]) (.agg #[.int .i64 V.r, .int .i64 V.c, .int .i64 V.h, .int .i64 V.b, .int .i64 V.p])).run Try.prog W = .ok (.bool true) W := fun W => by rw [vec_eql]; simp
  have heU : ∀ W, (binOp .eql 28 (.agg #[.int .i64 U.r, .int .i64 U.c, .int .i64 U.h, .int .i64 U.b, .int .i64 U.p]) (.agg #[.int .i64 U.r, .int .i64 U.c, .int .i64 U.h, .int .i64 U.b, .int .i64 U.p])).run Try.prog W = .ok (.bool true) W := fun W => by rw [vec_eql]; simp
  have hgd : Try.prog.eqGuardType Try.prog.depth 28 = false := by kernel_rfl
  have hQQ : (Q == Q) = true := by simp
  have hUq : (U.p == q) = true := by rw [HUp.out]; simp
  have vv : Below wD.heap.size wD wD.drew := gr_drew (Below.refl _ _)
  clear hQ hN kX kYV kZV kSV rl rm u
  go_wp2_with fail
  refine wp_region_held_drew (S := (fun W => (W.cell? ⟨X, 0, none⟩ = some (.bool x.up) ∧ W.cell? ⟨X, 1, none⟩ = some (.int .i64 x.k) ∧ W.cell? ⟨X, 2, none⟩ = some (.bool x.has) ∧ W.cell? ⟨X, 3, none⟩ = some (.int .i64 x.v.r) ∧ W.cell? ⟨X, 4, none⟩ = some (.int .i64 x.v.c) ∧ W.cell? ⟨X, 5, none⟩ = some (.int .i64 x.v.h) ∧ W.cell? ⟨X, 6, none⟩ = some (.int .i64 x.v.b) ∧ W.cell? ⟨X, 7, none⟩ = some (.int .i64 x.v.p)) ∧ (W.cell? ⟨YV, 0, none⟩ = some (.int .i64 V.r) ∧ W.cell? ⟨YV, 1, none⟩ = some (.int .i64 V.c) ∧ W.cell? ⟨YV, 2, none⟩ = some (.int .i64 V.h) ∧ W.cell? ⟨YV, 3, none⟩ = some (.int .i64 V.b) ∧ W.cell? ⟨YV, 4, none⟩ = some (.int .i64 V.p)) ∧ (W.cell? ⟨ZV, 0, none⟩ = some (.int .i64 V.r) ∧ W.cell? ⟨ZV, 1, none⟩ = some (.int .i64 V.c) ∧ W.cell? ⟨ZV, 2, none⟩ = some (.int .i64 V.h) ∧ W.cell? ⟨ZV, 3, none⟩ = some (.int .i64 V.b) ∧ W.cell? ⟨ZV, 4, none⟩ = some (.int .i64 V.p)) ∧ (W.cell? ⟨SV, 0, none⟩ = some (.int .i64 U.r) ∧ W.cell? ⟨SV, 1, none⟩ = some (.int .i64 U.c) ∧ W.cell? ⟨SV, 2, none⟩ = some (.int .i64 U.h) ∧ W.cell? ⟨SV, 3, none⟩ = some (.int .i64 U.b) ∧ W.cell? ⟨SV, 4, none⟩ = some (.int .i64 U.p)))) (by kernel_rfl) (HSS.out _ vv) (fun hHeld => ?_)
  refine wpAnyH_take (i := 0) (oi := { dst := some 45, op := Op.load 33 (Operand.tmp 3), type := 33, pos := "laws.go:599", after := #[], guard := none }) (v := ?_) rfl (by kernel_rfl) (by kernel_rfl) (by kernel_rfl) (fun _ _ _ h => h) (Or.inl ⟨by rfl, ?_⟩) (by assumption) ?_
  rotate_left
  · (intro wY hSw; (try dsimp only at hSw); go_simp; try with_reducible rfl)
  simp only [Act.put, List.setIfInBounds_toArray, List.set_cons_zero, List.set_cons_succ]
  refine wpAnyH_take (i := 2) (oi := { dst := some 47, op := Op.load 33 (Operand.tmp 3), type := 33, pos := "laws.go:599", after := #[], guard := none }) (v := ?_) rfl (by kernel_rfl) (by kernel_rfl) (by kernel_rfl) (fun _ _ _ h => h) (Or.inl ⟨by rfl, ?_⟩) (by assumption) ?_
  rotate_left
  · (intro wY hSw; (try dsimp only at hSw); go_simp; try with_reducible rfl)
  simp only [Act.put, List.setIfInBounds_toArray, List.set_cons_zero, List.set_cons_succ]
  refine wpAnyH_ready (rs := [1]) (by kernel_rfl) (by simp) ?_
  refine AllReadyH.cons (o := { dst := some 46, op := Op.call { callee := Callee.value (Operand.func 22), args := #[Operand.tmp 45], argTypes := #[33] }, type := 4, pos := "laws.go:599", after := #[{ on := 0, ground := Ground.data }], guard := none }) rfl (fun K hK => ?_) ?_
  · go_simp
    refine (implPtOk_any x _).mono ?_
    rintro e wx ⟨rfl, hbx⟩
    rw [HQ.out]
    have vv := gr_trans vv hbx
    clear hbx
    go_wp2_with fail
    refine hK.out _ _ (HSS.out _ vv) (fun hHeld => ?_)
    clear hK K
    try simp only [Act.put, List.setIfInBounds_toArray, List.set_cons_zero, List.set_cons_succ]
    refine wpAnyH_ready (rs := [3]) (by kernel_rfl) (by simp) ?_
    refine AllReadyH.cons (o := { dst := some 48, op := Op.call { callee := Callee.value (Operand.func 23), args := #[Operand.tmp 47], argTypes := #[33] }, type := 4, pos := "laws.go:599", after := #[{ on := 2, ground := Ground.data }, { on := 1, ground := Ground.chain }], guard := none }) rfl (fun K hK => ?_) ?_
    · go_simp
      refine (specPtOk_any x _).mono ?_
      rintro e wx ⟨rfl, hbx⟩
      rw [HQ.out]
      have vv := gr_trans vv hbx
      clear hbx
      go_wp2_with fail
      refine hK.out _ _ (HSS.out _ vv) (fun hHeld => ?_)
      clear hK K
      try simp only [Act.put, List.setIfInBounds_toArray, List.set_cons_zero, List.set_cons_succ]
      refine wpAnyH_take (i := 4) (oi := { dst := some 49, op := Op.binOp BinOp.eql 4 (Operand.tmp 46) (Operand.tmp 48) 4, type := 4, pos := "laws.go:599", after := #[{ on := 1, ground := Ground.data }, { on := 3, ground := Ground.data }], guard := none }) (v := ?_) rfl (by kernel_rfl) (by kernel_rfl) (by kernel_rfl) (fun _ _ _ h => h) (Or.inl ⟨by rfl, ?_⟩) (by assumption) ?_
      rotate_left
      · (intro wY hSw; (try dsimp only at hSw); go_simp; try with_reducible rfl)
      simp only [Act.put, List.setIfInBounds_toArray, List.set_cons_zero, List.set_cons_succ]
      refine wpAnyH_take (i := 5) (oi := { dst := some 50, op := Op.move (Operand.tmp 49), type := 4, pos := "laws.go:599", after := #[{ on := 4, ground := Ground.data }, { on := 3, ground := Ground.chain }], guard := none }) (v := ?_) rfl (by kernel_rfl) (by kernel_rfl) (by kernel_rfl) (fun _ _ _ h => h) (Or.inl ⟨by rfl, ?_⟩) (by assumption) ?_
      rotate_left
      · (intro wY hSw; (try dsimp only at hSw); go_simp; try with_reducible rfl)
      simp only [Act.put, List.setIfInBounds_toArray, List.set_cons_zero, List.set_cons_succ]
      refine wpAnyH_take (i := 6) (oi := { dst := some 51, op := Op.load 28 (Operand.tmp 6), type := 28, pos := "laws.go:599", after := #[{ on := 5, ground := Ground.guard }], guard := some (5, true) }) (v := ?_) rfl (by kernel_rfl) (by kernel_rfl) (by kernel_rfl) (fun _ _ _ h => h) (Or.inl ⟨by rfl, ?_⟩) (by assumption) ?_
      rotate_left
      · (intro wY hSw; (try dsimp only at hSw); go_simp; try with_reducible rfl)
      simp only [Act.put, List.setIfInBounds_toArray, List.set_cons_zero, List.set_cons_succ]
      refine wpAnyH_take (i := 7) (oi := { dst := some 52, op := Op.load 28 (Operand.tmp 8), type := 28, pos := "laws.go:599", after := #[{ on := 5, ground := Ground.guard }], guard := some (5, true) }) (v := ?_) rfl (by kernel_rfl) (by kernel_rfl) (by kernel_rfl) (fun _ _ _ h => h) (Or.inl ⟨by rfl, ?_⟩) (by assumption) ?_
      rotate_left
      · (intro wY hSw; (try dsimp only at hSw); go_simp; try with_reducible rfl)
      simp only [Act.put, List.setIfInBounds_toArray, List.set_cons_zero, List.set_cons_succ]
      refine wpAnyH_take (i := 8) (oi := { dst := some 53, op := Op.binOp BinOp.eql 28 (Operand.tmp 51) (Operand.tmp 52) 28, type := 4, pos := "laws.go:599", after := #[{ on := 6, ground := Ground.data }, { on := 7, ground := Ground.data }, { on := 5, ground := Ground.guard }], guard := some (5, true) }) (v := ?_) rfl (by kernel_rfl) (by kernel_rfl) (by kernel_rfl) (fun _ _ _ h => h) (Or.inl ⟨by rfl, ?_⟩) (by assumption) ?_
      rotate_left
      · (intro wY hSw; (try dsimp only at hSw); go_simp; try with_reducible rfl)
      simp only [Act.put, List.setIfInBounds_toArray, List.set_cons_zero, List.set_cons_succ]
      refine wpAnyH_take (i := 9) (oi := { dst := some 54, op := Op.pick (Operand.tmp 50) (Operand.tmp 53) (Operand.const (Value.bool false)), type := 4, pos := "laws.go:599", after := #[{ on := 5, ground := Ground.data }, { on := 8, ground := Ground.data }], guard := none }) (v := ?_) rfl (by kernel_rfl) (by kernel_rfl) (by kernel_rfl) (fun _ _ _ h => h) (Or.inl ⟨by rfl, ?_⟩) (by assumption) ?_
      rotate_left
      · (intro wY hSw; (try dsimp only at hSw); go_simp; try with_reducible rfl)
      simp only [Act.put, List.setIfInBounds_toArray, List.set_cons_zero, List.set_cons_succ]
      refine wpAnyH_take (i := 10) (oi := { dst := some 55, op := Op.move (Operand.tmp 54), type := 4, pos := "laws.go:599", after := #[{ on := 9, ground := Ground.data }, { on := 5, ground := Ground.chain }], guard := none }) (v := ?_) rfl (by kernel_rfl) (by kernel_rfl) (by kernel_rfl) (fun _ _ _ h => h) (Or.inl ⟨by rfl, ?_⟩) (by assumption) ?_
      rotate_left
      · (intro wY hSw; (try dsimp only at hSw); go_simp; try with_reducible rfl)
      simp only [Act.put, List.setIfInBounds_toArray, List.set_cons_zero, List.set_cons_succ]
      refine wpAnyH_take (i := 11) (oi := { dst := some 56, op := Op.move (Operand.tmp 7), type := 3, pos := "laws.go:599", after := #[{ on := 10, ground := Ground.guard }], guard := some (10, true) }) (v := ?_) rfl (by kernel_rfl) (by kernel_rfl) (by kernel_rfl) (fun _ _ _ h => h) (Or.inl ⟨by rfl, ?_⟩) (by assumption) ?_
      rotate_left
      · (intro wY hSw; (try dsimp only at hSw); go_simp; try with_reducible rfl)
      simp only [Act.put, List.setIfInBounds_toArray, List.set_cons_zero, List.set_cons_succ]
      refine wpAnyH_take (i := 12) (oi := { dst := some 57, op := Op.move (Operand.tmp 9), type := 3, pos := "laws.go:599", after := #[{ on := 10, ground := Ground.guard }], guard := some (10, true) }) (v := ?_) rfl (by kernel_rfl) (by kernel_rfl) (by kernel_rfl) (fun _ _ _ h => h) (Or.inl ⟨by rfl, ?_⟩) (by assumption) ?_
      rotate_left
      · (intro wY hSw; (try dsimp only at hSw); go_simp; try with_reducible rfl)
      simp only [Act.put, List.setIfInBounds_toArray, List.set_cons_zero, List.set_cons_succ]
      refine wpAnyH_take (i := 13) (oi := { dst := some 58, op := Op.binOp BinOp.eql 3 (Operand.tmp 56) (Operand.tmp 57) 3, type := 4, pos := "laws.go:599", after := #[{ on := 11, ground := Ground.data }, { on := 12, ground := Ground.data }, { on := 10, ground := Ground.guard }], guard := some (10, true) }) (v := ?_) rfl (by kernel_rfl) (by kernel_rfl) (by kernel_rfl) (fun _ _ _ h => h) (Or.inl ⟨by rfl, ?_⟩) (by assumption) ?_
      rotate_left
      · (intro wY hSw; (try dsimp only at hSw); go_simp; try with_reducible rfl)
      simp only [Act.put, List.setIfInBounds_toArray, List.set_cons_zero, List.set_cons_succ]
      refine wpAnyH_take (i := 14) (oi := { dst := some 59, op := Op.pick (Operand.tmp 55) (Operand.tmp 58) (Operand.const (Value.bool false)), type := 4, pos := "laws.go:599", after := #[{ on := 10, ground := Ground.data }, { on := 13, ground := Ground.data }], guard := none }) (v := ?_) rfl (by kernel_rfl) (by kernel_rfl) (by kernel_rfl) (fun _ _ _ h => h) (Or.inl ⟨by rfl, ?_⟩) (by assumption) ?_
      rotate_left
      · (intro wY hSw; (try dsimp only at hSw); go_simp; try with_reducible rfl)
      simp only [Act.put, List.setIfInBounds_toArray, List.set_cons_zero, List.set_cons_succ]
      refine wpAnyH_take (i := 15) (oi := { dst := some 60, op := Op.move (Operand.tmp 59), type := 4, pos := "laws.go:599", after := #[{ on := 14, ground := Ground.data }, { on := 10, ground := Ground.chain }], guard := none }) (v := ?_) rfl (by kernel_rfl) (by kernel_rfl) (by kernel_rfl) (fun _ _ _ h => h) (Or.inl ⟨by rfl, ?_⟩) (by assumption) ?_
      rotate_left
      · (intro wY hSw; (try dsimp only at hSw); go_simp; try with_reducible rfl)
      simp only [Act.put, List.setIfInBounds_toArray, List.set_cons_zero, List.set_cons_succ]
      refine wpAnyH_take (i := 16) (oi := { dst := some 61, op := Op.load 28 (Operand.tmp 13), type := 28, pos := "laws.go:599", after := #[{ on := 15, ground := Ground.guard }], guard := some (15, true) }) (v := ?_) rfl (by kernel_rfl) (by kernel_rfl) (by kernel_rfl) (fun _ _ _ h => h) (Or.inl ⟨by rfl, ?_⟩) (by assumption) ?_
      rotate_left
      · (intro wY hSw; (try dsimp only at hSw); go_simp; try with_reducible rfl)
      simp only [Act.put, List.setIfInBounds_toArray, List.set_cons_zero, List.set_cons_succ]
      refine wpAnyH_take (i := 17) (oi := { dst := some 62, op := Op.move (Operand.tmp 10), type := 3, pos := "laws.go:599", after := #[{ on := 15, ground := Ground.guard }], guard := some (15, true) }) (v := ?_) rfl (by kernel_rfl) (by kernel_rfl) (by kernel_rfl) (fun _ _ _ h => h) (Or.inl ⟨by rfl, ?_⟩) (by assumption) ?_
      rotate_left
      · (intro wY hSw; (try dsimp only at hSw); go_simp; try with_reducible rfl)
      simp only [Act.put, List.setIfInBounds_toArray, List.set_cons_zero, List.set_cons_succ]
      refine wpAnyH_take (i := 18) (oi := { dst := some 63, op := Op.move (Operand.tmp 11), type := 24, pos := "laws.go:599", after := #[{ on := 15, ground := Ground.guard }], guard := some (15, true) }) (v := ?_) rfl (by kernel_rfl) (by kernel_rfl) (by kernel_rfl) (fun _ _ _ h => h) (Or.inl ⟨by rfl, ?_⟩) (by assumption) ?_
      rotate_left
      · (intro wY hSw; (try dsimp only at hSw); go_simp; try with_reducible rfl)
      simp only [Act.put, List.setIfInBounds_toArray, List.set_cons_zero, List.set_cons_succ]
      refine wpAnyH_take (i := 19) (oi := { dst := some 64, op := Op.move (Operand.tmp 12), type := 3, pos := "laws.go:599", after := #[{ on := 15, ground := Ground.guard }], guard := some (15, true) }) (v := ?_) rfl (by kernel_rfl) (by kernel_rfl) (by kernel_rfl) (fun _ _ _ h => h) (Or.inl ⟨by rfl, ?_⟩) (by assumption) ?_
      rotate_left
      · (intro wY hSw; (try dsimp only at hSw); go_simp; try with_reducible rfl)
      simp only [Act.put, List.setIfInBounds_toArray, List.set_cons_zero, List.set_cons_succ]
      refine wpAnyH_ready (rs := [20]) (by kernel_rfl) (by simp) ?_
      refine AllReadyH.cons (o := { dst := some 65, op := Op.call { callee := Callee.value (Operand.func 24), args := #[Operand.tmp 62, Operand.tmp 63, Operand.tmp 64], argTypes := #[3, 24, 3] }, type := 28, pos := "laws.go:599", after := #[{ on := 17, ground := Ground.data }, { on := 18, ground := Ground.data }, { on := 19, ground := Ground.data }, { on := 15, ground := Ground.chain }, { on := 15, ground := Ground.guard }], guard := some (15, true) }) rfl (fun K hK => ?_) ?_
      · go_simp
        refine (specSayVec_any j _ _ _ lm q _ (HRM.out _ vv)).mono ?_
        rintro e wx ⟨rfl, hbx⟩
        rw [HU.out]
        have vv := gr_trans vv hbx
        clear hbx
        go_wp2_with fail
        refine hK.out _ _ (HSS.out _ vv) (fun hHeld => ?_)
        clear hK K
        try simp only [Act.put, List.setIfInBounds_toArray, List.set_cons_zero, List.set_cons_succ]
        refine wpAnyH_take (i := 21) (oi := { dst := some 66, op := Op.binOp BinOp.eql 28 (Operand.tmp 61) (Operand.tmp 65) 28, type := 4, pos := "laws.go:599", after := #[{ on := 16, ground := Ground.data }, { on := 20, ground := Ground.data }, { on := 15, ground := Ground.guard }], guard := some (15, true) }) (v := ?_) rfl (by kernel_rfl) (by kernel_rfl) (by kernel_rfl) (fun _ _ _ h => h) (Or.inl ⟨by rfl, ?_⟩) (by assumption) ?_
        rotate_left
        · (intro wY hSw; (try dsimp only at hSw); go_simp; try with_reducible rfl)
        simp only [Act.put, List.setIfInBounds_toArray, List.set_cons_zero, List.set_cons_succ]
        refine wpAnyH_take (i := 22) (oi := { dst := some 67, op := Op.pick (Operand.tmp 60) (Operand.tmp 66) (Operand.const (Value.bool false)), type := 4, pos := "laws.go:599", after := #[{ on := 15, ground := Ground.data }, { on := 21, ground := Ground.data }], guard := none }) (v := ?_) rfl (by kernel_rfl) (by kernel_rfl) (by kernel_rfl) (fun _ _ _ h => h) (Or.inl ⟨by rfl, ?_⟩) (by assumption) ?_
        rotate_left
        · (intro wY hSw; (try dsimp only at hSw); go_simp; try with_reducible rfl)
        simp only [Act.put, List.setIfInBounds_toArray, List.set_cons_zero, List.set_cons_succ]
        refine wpAnyH_take (i := 23) (oi := { dst := some 68, op := Op.move (Operand.tmp 67), type := 4, pos := "laws.go:599", after := #[{ on := 22, ground := Ground.data }, { on := 20, ground := Ground.chain }], guard := none }) (v := ?_) rfl (by kernel_rfl) (by kernel_rfl) (by kernel_rfl) (fun _ _ _ h => h) (Or.inl ⟨by rfl, ?_⟩) (by assumption) ?_
        rotate_left
        · (intro wY hSw; (try dsimp only at hSw); go_simp; try with_reducible rfl)
        simp only [Act.put, List.setIfInBounds_toArray, List.set_cons_zero, List.set_cons_succ]
        refine wpAnyH_take (i := 24) (oi := { dst := some 69, op := Op.fieldAddr 28 (Operand.tmp 13) 4, type := 0, pos := "laws.go:599", after := #[{ on := 23, ground := Ground.guard }], guard := some (23, true) }) (v := ?_) rfl (by kernel_rfl) (by kernel_rfl) (by kernel_rfl) (fun _ _ _ h => h) (Or.inl ⟨by rfl, ?_⟩) (by assumption) ?_
        rotate_left
        · (intro wY hSw; (try dsimp only at hSw); go_simp; try with_reducible rfl)
        simp only [Act.put, List.setIfInBounds_toArray, List.set_cons_zero, List.set_cons_succ]
        refine wpAnyH_take (i := 25) (oi := { dst := some 70, op := Op.load 3 (Operand.tmp 69), type := 3, pos := "laws.go:599", after := #[{ on := 24, ground := Ground.data }, { on := 23, ground := Ground.guard }], guard := some (23, true) }) (v := ?_) rfl (by kernel_rfl) (by kernel_rfl) (by kernel_rfl) (fun _ _ _ h => h) (Or.inl ⟨by rfl, ?_⟩) (by assumption) ?_
        rotate_left
        · (intro wY hSw; (try dsimp only at hSw); go_simp; try with_reducible rfl)
        simp only [Act.put, List.setIfInBounds_toArray, List.set_cons_zero, List.set_cons_succ]
        refine wpAnyH_take (i := 26) (oi := { dst := some 71, op := Op.move (Operand.tmp 12), type := 3, pos := "laws.go:599", after := #[{ on := 23, ground := Ground.guard }], guard := some (23, true) }) (v := ?_) rfl (by kernel_rfl) (by kernel_rfl) (by kernel_rfl) (fun _ _ _ h => h) (Or.inl ⟨by rfl, ?_⟩) (by assumption) ?_
        rotate_left
        · (intro wY hSw; (try dsimp only at hSw); go_simp; try with_reducible rfl)
        simp only [Act.put, List.setIfInBounds_toArray, List.set_cons_zero, List.set_cons_succ]
        refine wpAnyH_take (i := 27) (oi := { dst := some 72, op := Op.binOp BinOp.eql 3 (Operand.tmp 70) (Operand.tmp 71) 3, type := 4, pos := "laws.go:599", after := #[{ on := 25, ground := Ground.data }, { on := 26, ground := Ground.data }, { on := 23, ground := Ground.guard }], guard := some (23, true) }) (v := ?_) rfl (by kernel_rfl) (by kernel_rfl) (by kernel_rfl) (fun _ _ _ h => h) (Or.inl ⟨by rfl, ?_⟩) (by assumption) ?_
        rotate_left
        · (intro wY hSw; (try dsimp only at hSw); go_simp; try with_reducible rfl)
        simp only [Act.put, List.setIfInBounds_toArray, List.set_cons_zero, List.set_cons_succ]
        refine wpAnyH_take (i := 28) (oi := { dst := some 73, op := Op.pick (Operand.tmp 68) (Operand.tmp 72) (Operand.const (Value.bool false)), type := 4, pos := "laws.go:599", after := #[{ on := 23, ground := Ground.data }, { on := 27, ground := Ground.data }], guard := none }) (v := ?_) rfl (by kernel_rfl) (by kernel_rfl) (by kernel_rfl) (fun _ _ _ h => h) (Or.inl ⟨by rfl, ?_⟩) (by assumption) ?_
        rotate_left
        · (intro wY hSw; (try dsimp only at hSw); go_simp; try with_reducible rfl)
        simp only [Act.put, List.setIfInBounds_toArray, List.set_cons_zero, List.set_cons_succ]
        refine wpAnyH_take (i := 29) (oi := { dst := some 74, op := Op.move (Operand.tmp 73), type := 4, pos := "laws.go:599", after := #[{ on := 28, ground := Ground.data }, { on := 23, ground := Ground.chain }], guard := none }) (v := ?_) rfl (by kernel_rfl) (by kernel_rfl) (by kernel_rfl) (fun _ _ _ h => h) (Or.inl ⟨by rfl, ?_⟩) (by assumption) ?_
        rotate_left
        · (intro wY hSw; (try dsimp only at hSw); go_simp; try with_reducible rfl)
        simp only [Act.put, List.setIfInBounds_toArray, List.set_cons_zero, List.set_cons_succ]
        refine wpAnyH_take (i := 30) (oi := { dst := some 75, op := Op.move (Operand.tmp 4), type := 3, pos := "laws.go:599", after := #[{ on := 29, ground := Ground.guard }], guard := some (29, true) }) (v := ?_) rfl (by kernel_rfl) (by kernel_rfl) (by kernel_rfl) (fun _ _ _ h => h) (Or.inl ⟨by rfl, ?_⟩) (by assumption) ?_
        rotate_left
        · (intro wY hSw; (try dsimp only at hSw); go_simp; try with_reducible rfl)
        simp only [Act.put, List.setIfInBounds_toArray, List.set_cons_zero, List.set_cons_succ]
        refine wpAnyH_take (i := 31) (oi := { dst := some 76, op := Op.move (Operand.tmp 5), type := 24, pos := "laws.go:599", after := #[{ on := 29, ground := Ground.guard }], guard := some (29, true) }) (v := ?_) rfl (by kernel_rfl) (by kernel_rfl) (by kernel_rfl) (fun _ _ _ h => h) (Or.inl ⟨by rfl, ?_⟩) (by assumption) ?_
        rotate_left
        · (intro wY hSw; (try dsimp only at hSw); go_simp; try with_reducible rfl)
        simp only [Act.put, List.setIfInBounds_toArray, List.set_cons_zero, List.set_cons_succ]
        refine wpAnyH_take (i := 33) (oi := { dst := some 78, op := Op.move (Operand.tmp 4), type := 3, pos := "laws.go:599", after := #[{ on := 29, ground := Ground.guard }], guard := some (29, true) }) (v := ?_) rfl (by kernel_rfl) (by kernel_rfl) (by kernel_rfl) (fun _ _ _ h => h) (Or.inl ⟨by rfl, ?_⟩) (by assumption) ?_
        rotate_left
        · (intro wY hSw; (try dsimp only at hSw); go_simp; try with_reducible rfl)
        simp only [Act.put, List.setIfInBounds_toArray, List.set_cons_zero, List.set_cons_succ]
        refine wpAnyH_take (i := 34) (oi := { dst := some 79, op := Op.move (Operand.tmp 5), type := 24, pos := "laws.go:599", after := #[{ on := 29, ground := Ground.guard }], guard := some (29, true) }) (v := ?_) rfl (by kernel_rfl) (by kernel_rfl) (by kernel_rfl) (fun _ _ _ h => h) (Or.inl ⟨by rfl, ?_⟩) (by assumption) ?_
        rotate_left
        · (intro wY hSw; (try dsimp only at hSw); go_simp; try with_reducible rfl)
        simp only [Act.put, List.setIfInBounds_toArray, List.set_cons_zero, List.set_cons_succ]
        refine wpAnyH_ready (rs := [32]) (by kernel_rfl) (by simp) ?_
        refine AllReadyH.cons (o := { dst := some 77, op := Op.call { callee := Callee.value (Operand.func 15), args := #[Operand.tmp 75, Operand.tmp 76], argTypes := #[3, 24] }, type := 3, pos := "laws.go:599", after := #[{ on := 30, ground := Ground.data }, { on := 31, ground := Ground.data }, { on := 29, ground := Ground.chain }, { on := 29, ground := Ground.guard }], guard := some (29, true) }) rfl (fun K hK => ?_) ?_
        · go_simp
          refine (implSends_any id _ _ _ l _ (HRL.out _ vv)).mono ?_
          rintro e wx ⟨rfl, hbx⟩
          rw [HN.out]
          have vv := gr_trans vv hbx
          clear hbx
          go_wp2_with fail
          refine hK.out _ _ (HSS.out _ vv) (fun hHeld => ?_)
          clear hK K
          try simp only [Act.put, List.setIfInBounds_toArray, List.set_cons_zero, List.set_cons_succ]
          refine wpAnyH_ready (rs := [35]) (by kernel_rfl) (by simp) ?_
          refine AllReadyH.cons (o := { dst := some 80, op := Op.call { callee := Callee.value (Operand.func 25), args := #[Operand.tmp 78, Operand.tmp 79], argTypes := #[3, 24] }, type := 3, pos := "laws.go:599", after := #[{ on := 33, ground := Ground.data }, { on := 34, ground := Ground.data }, { on := 32, ground := Ground.chain }, { on := 29, ground := Ground.guard }], guard := some (29, true) }) rfl (fun K hK => ?_) ?_
          · go_simp
            refine (specSends_any id _ _ _ l _ (HRL.out _ vv)).mono ?_
            rintro e wx ⟨rfl, hbx⟩
            rw [HN.out]
            have vv := gr_trans vv hbx
            clear hbx
            go_wp2_with fail
            refine hK.out _ _ (HSS.out _ vv) (fun hHeld => ?_)
            clear hK K
            try simp only [Act.put, List.setIfInBounds_toArray, List.set_cons_zero, List.set_cons_succ]
            refine wpAnyH_take (i := 36) (oi := { dst := some 81, op := Op.binOp BinOp.eql 3 (Operand.tmp 77) (Operand.tmp 80) 3, type := 4, pos := "laws.go:599", after := #[{ on := 32, ground := Ground.data }, { on := 35, ground := Ground.data }, { on := 29, ground := Ground.guard }], guard := some (29, true) }) (v := ?_) rfl (by kernel_rfl) (by kernel_rfl) (by kernel_rfl) (fun _ _ _ h => h) (Or.inl ⟨by rfl, ?_⟩) (by assumption) ?_
            rotate_left
            · (intro wY hSw; (try dsimp only at hSw); go_simp; try with_reducible rfl)
            simp only [Act.put, List.setIfInBounds_toArray, List.set_cons_zero, List.set_cons_succ]
            refine wpAnyH_take (i := 37) (oi := { dst := some 82, op := Op.pick (Operand.tmp 74) (Operand.tmp 81) (Operand.const (Value.bool false)), type := 4, pos := "laws.go:599", after := #[{ on := 29, ground := Ground.data }, { on := 36, ground := Ground.data }], guard := none }) (v := ?_) rfl (by kernel_rfl) (by kernel_rfl) (by kernel_rfl) (fun _ _ _ h => h) (Or.inl ⟨by rfl, ?_⟩) (by assumption) ?_
            rotate_left
            · (intro wY hSw; (try dsimp only at hSw); go_simp; try with_reducible rfl)
            simp only [Act.put, List.setIfInBounds_toArray, List.set_cons_zero, List.set_cons_succ]
            refine wpAnyH_take (i := 38) (oi := { dst := some 2, op := Op.assign (Operand.tmp 82), type := 4, pos := "laws.go:599", after := #[{ on := 37, ground := Ground.data }, { on := 35, ground := Ground.chain }, { on := 0, ground := Ground.phase }, { on := 1, ground := Ground.phase }, { on := 2, ground := Ground.phase }, { on := 3, ground := Ground.phase }, { on := 4, ground := Ground.phase }, { on := 5, ground := Ground.phase }, { on := 6, ground := Ground.phase }, { on := 7, ground := Ground.phase }, { on := 8, ground := Ground.phase }, { on := 9, ground := Ground.phase }, { on := 10, ground := Ground.phase }, { on := 11, ground := Ground.phase }, { on := 12, ground := Ground.phase }, { on := 13, ground := Ground.phase }, { on := 14, ground := Ground.phase }, { on := 15, ground := Ground.phase }, { on := 16, ground := Ground.phase }, { on := 17, ground := Ground.phase }, { on := 18, ground := Ground.phase }, { on := 19, ground := Ground.phase }, { on := 20, ground := Ground.phase }, { on := 21, ground := Ground.phase }, { on := 22, ground := Ground.phase }, { on := 23, ground := Ground.phase }, { on := 24, ground := Ground.phase }, { on := 25, ground := Ground.phase }, { on := 26, ground := Ground.phase }, { on := 27, ground := Ground.phase }, { on := 28, ground := Ground.phase }, { on := 29, ground := Ground.phase }, { on := 30, ground := Ground.phase }, { on := 31, ground := Ground.phase }, { on := 32, ground := Ground.phase }, { on := 33, ground := Ground.phase }, { on := 34, ground := Ground.phase }, { on := 35, ground := Ground.phase }, { on := 36, ground := Ground.phase }, { on := 37, ground := Ground.phase }], guard := none }) (v := ?_) rfl (by kernel_rfl) (by kernel_rfl) (by kernel_rfl) (fun _ _ _ h => h) (Or.inl ⟨by rfl, ?_⟩) (by assumption) ?_
            rotate_left
            · (intro wY hSw; (try dsimp only at hSw); go_simp; try with_reducible rfl)
            simp only [Act.put, List.setIfInBounds_toArray, List.set_cons_zero, List.set_cons_succ]
            refine wpAnyH_done (by kernel_rfl) ?_ _
            clear hHeld
            go_wp2
            go_ret
            exact ⟨rfl, gr_trans UU.out vv⟩
          exact AllReadyH.nil
        exact AllReadyH.nil
      exact AllReadyH.nil
    exact AllReadyH.nil
  exact AllReadyH.nil

theorem fnRolesBent_own : ownKnob Try.prog.godebug = none := by kernel_rfl
theorem fnRolesBent_laid : laidOutB Try.prog = true := by kernel_rfl

open Go.ChangeShapes Go.WideShapes Go.ChangeAt in
open Go.ChangeMaps (open_string shut_string) in
set_option maxRecDepth 100000 in
theorem fnRolesBent_lifted (os : Os) (started : os.Started) (H : Type) (enc : TypeId × Value → H) :
    ReturnsInHanded {} Try.checked os 4 .any (Rows.fnRolesBentSpec.pre6 enc Try.prog Try.f4 Rows.fnRolesBentRow.domain false) (Rows.fnRolesBentSpec.post enc Try.prog Try.f4 false true false false) := by
  refine returnsInHanded_of_change (C := Try.checked) fnRolesBent_own started (by kernel_rfl) Try.func4
    (ChangeSpec.witness6 (enc := enc) (C := Try.checked) false ⟨#[], #[.slice none 0 0], []⟩ 8 (by kernel_rfl) (by kernel_rfl) (by kernel_rfl) (by kernel_rfl)) ?_
  intro W base args ds gs before hval0 hW hcnd _
  have hval : ∀ (j : Nat) t v, Try.f4.params[j]? = some t → args[j]? = some v → Value.okWide Try.prog W .any base t v := hval0
  have hW' := hW
  obtain ⟨p, q, hA0, hV, rfl, hfz, hnd⟩ := hW
  have hA : DataW.TrodAll enc Try.prog W 0 (fun _ => true) true Try.f4.params.toList args.toList ds p := hA0
  rw [Try.params4] at hA hval
  obtain ⟨v0, vs0, d0, ds0, p0, q0, hargs, rfl, rfl, h0, r0⟩ := trodAll_cons hA
  obtain ⟨rfl, rfl, rfl⟩ := trodAll_nil r0
  obtain rfl : args = #[v0] := by cases args; simp_all
  obtain ⟨rfl, rfl⟩ := trodVars_none hV
  obtain ⟨a0, len0, cap0, rfl⟩ := okWide_slice Try.underlying22 (hval 0 22 v0 rfl rfl)
  have k0 := h0
  have lt0 : ∀ x ∈ p0, x.block < W.heap.size := by obtain ⟨m, hm⟩ := k0; exact DataW.trod_lt m _ _ _ hm
  obtain ⟨z0, w0⟩ : ∃ zs, Row W a0 len0 cap0 zs := by
    obtain ⟨fuel, hf⟩ := h0
    rcases open_ints Try.underlying22 Try.underlying5 (by kernel_rfl) hf with ⟨hcs, _⟩ | ⟨x, l, c, zs, hcs, _, hl, hm, hz, _, hcell, hwz⟩
    · simp [Value.cells] at hcs
      obtain ⟨rfl, rfl, rfl⟩ := hcs
      exact ⟨[], row_nil W⟩
    · simp [Value.cells] at hcs
      obtain ⟨rfl, rfl, rfl⟩ := hcs
      exact ⟨zs.take len0, row_open hl hm (by simpa using hz) hcell hwz⟩
  clear hA0 hval0
  refine (rolesBent_walk a0 len0 cap0 z0 W w0).mono fun e W' ⟨he, bel⟩ => ?_
  subst he
  exact ⟨_, rfl, _, _, _, [], _, [], hW', trodAll_mk1 (shut_bool Try.underlying4 _), (trodAll_cons_mk (Below.trod fnRolesBent_laid (by kernel_rfl) (of_decide_eq_true (by kernel_rfl)) k0 bel lt0) trodAll_mk0), rfl, bel.frame _, fun h => by cases h⟩

theorem fnRolesBent_holds : Rows.FnRolesBentSaid :=
  OpenClaim.holds_of_wide 4 Try.f4 rfl rfl rfl rfl rfl rfl rfl ⟨rfl, rfl, rfl, rfl, rfl⟩ rfl rfl rfl rfl rfl (by kernel_rfl) Try.func4 (by kernel_rfl)
    (of_decide_eq_true (by kernel_rfl)) (by unfold Func.isWrapper; first | (rw [if_pos (by decide +kernel)]; kernel_rfl) | (rw [if_neg (by decide +kernel)]; exact ⟨rfl, rfl⟩))
    (fun os started H enc _ => fnRolesBent_lifted os started H enc)

#print axioms fnRolesBent_holds

end Go.Proofs.Ytmlcjdfnoipihaa
