/-
  FnNetworksBent answers true at all bytes: of drawn tables, bent or not, each is right, dropped and set as the specification has it; new ones too.
-/
import Derived.Test.YtafonmfgeecopaaDrawVtab3
import Derived.Test.YtafonmfgeecopaaVlanNew
import Derived.Test.YtafonmfgeecopaaVlanDrop
import Derived.Test.YtafonmfgeecopaaVlanSet
import Derived.Test.YtafonmfgeecopaaSameVtab
import Derived.Test.YtafonmfgeecopaaBig
import Derived.WalkKit
import Derived.ProofKit
import Derived.OpenShut
import Derived.ShutString
import Derived.ChangeOld
import Derived.Below
namespace Go.Proofs.Ytafonmfgeecopaa
open Go.RowKit

theorem vtabNew_ok (ports : Int) : vtabOk (vtabNew ports) ports = (decide (1 ≤ ports) && decide (ports ≤ 6)) := by
  cases h : (decide (1 ≤ ports) && decide (ports ≤ 6))
  · exact vtab_in h
  · obtain ⟨p, rfl⟩ : ∃ p : Nat, ports = (p : Int) := ⟨ports.toNat, by simp at h; omega⟩
    rw [vtabNew_yes h]
    have hp : 1 ≤ p ∧ p ≤ 6 := by simp at h; omega
    rcases (show p = 1 ∨ p = 2 ∨ p = 3 ∨ p = 4 ∨ p = 5 ∨ p = 6 by omega) with rfl | rfl | rfl | rfl | rfl | rfl <;> decide +kernel

theorem vtabNew_rng (ports : Int) : ∀ r ∈ (vtabNew ports).rows, r.Rng := by
  intro r hr
  unfold vtabNew at hr
  split at hr
  · rename_i h
    have hp : 1 ≤ ports.toNat ∧ ports.toNat ≤ 6 := by simp at h; omega
    obtain ⟨h1, h2⟩ := all_small ports.toNat hp.1 hp.2
    have : r = ⟨1, allOf ports.toNat, allOf ports.toNat⟩ := by simpa using hr
    subst this
    unfold VR.Rng I64
    simp only
    omega
  · cases hr

set_option maxRecDepth 100000 in
set_option maxHeartbeats 16000000 in
theorem networksBent_walk (a0 : Option Addr) (l0 c0 : Nat) (z0 : List Int) (w : World) (h0 : Row w a0 l0 c0 z0) :
    Calls Try.prog 4 #[.slice a0 l0 c0] w fun e w' => e = .returned (.bool true) ∧ Below w.heap.size w w' := by
  by_cases g0 : 1048576 < l0
  · have i1 : (1048576 : Int) < l0 := by omega
    go_enter Try.func4, Try.ntmps4
    go_wp2
    go_ret
    exact ⟨rfl, Below.refl _ _⟩
  have hs : l0 ≤ 1048576 := by omega
  have u : Below w.heap.size w w := Below.refl _ _
  go_enter Try.func4, Try.ntmps4
  go_wp2_with fail
  refine (big_no _ _ _ _ g0).mono ?_
  rintro e w0 ⟨rfl, rfl⟩
  go_wp2_with fail
  refine (drawVtabNew_any a0 l0 c0 z0 _ (h0.below u) hs).mono ?_
  rintro e w1 ⟨nn, rfl, hnn, hb⟩
  have u := gr_trans u hb
  clear hb
  go_wp2_with fail
  refine (implVtabNew_made nn _).mono ?_
  rintro e w2 ⟨a2, n2, c2, o2, p2, q2, rfl, t2, hb⟩
  have u := gr_trans u hb
  clear hb
  generalize hwV : w2.alloc (Obj.cells #[Value.slice a2 n2 c2, Value.slice o2 p2 q2] 27) = wV
  have bV : Below w2.heap.size w2 wV := by subst hwV; exact below_one _ _
  have t2 := t2.below bV
  have u := gr_trans u bV
  have kV : wV.heap[w2.heap.size]? = some (.cells #[.slice a2 n2 c2, .slice o2 p2 q2] 27) := by rw [← hwV]; exact block_last _ _
  obtain ⟨⟨j0, j1⟩, j2, j3⟩ := cells2 kV
  clear bV
  go_wp2_with fail
  refine (drawVtabOk_any a0 l0 c0 z0 _ (h0.below u) hs).mono ?_
  rintro e w3 ⟨a3, n3, c3, o3, p3, q3, v3, pp3, ports, rfl, t3, hF3, -, hp3, hb⟩
  clear j0 j1 j2 j3
  have t2 := t2.below hb
  have kV := kept_block kV hb
  have u := gr_trans u hb
  clear hb
  generalize hwW : w3.alloc (Obj.cells #[Value.slice a3 n3 c3, Value.slice o3 p3 q3] 27) = wW
  have bW : Below w3.heap.size w3 wW := by subst hwW; exact below_one _ _
  have t2 := t2.below bW
  have t3 := t3.below bW
  have kV := kept_block kV bW
  have u := gr_trans u bW
  have kW : wW.heap[w3.heap.size]? = some (.cells #[.slice a3 n3 c3, .slice o3 p3 q3] 27) := by rw [← hwW]; exact block_last _ _
  obtain ⟨⟨j0, j1⟩, j2, j3⟩ := cells2 kW
  clear bW
  go_wp2_with fail
  refine (drawDropRow_any a0 l0 c0 z0 _ (h0.below u) hs).mono ?_
  rintro e w4 ⟨a4, n4, c4, o4, p4, q4, v4, pp4, id, rfl, t4, hF4, -, hp4, -, hb⟩
  clear j0 j1 j2 j3
  have t2 := t2.below hb
  have t3 := t3.below hb
  have kV := kept_block kV hb
  have kW := kept_block kW hb
  have u := gr_trans u hb
  clear hb
  generalize hwD : w4.alloc (Obj.cells #[Value.slice a4 n4 c4, Value.slice o4 p4 q4] 27) = wD
  have bD : Below w4.heap.size w4 wD := by subst hwD; exact below_one _ _
  have t2 := t2.below bD
  have t3 := t3.below bD
  have t4 := t4.below bD
  have kV := kept_block kV bD
  have kW := kept_block kW bD
  have u := gr_trans u bD
  have kD : wD.heap[w4.heap.size]? = some (.cells #[.slice a4 n4 c4, .slice o4 p4 q4] 27) := by rw [← hwD]; exact block_last _ _
  obtain ⟨⟨j0, j1⟩, j2, j3⟩ := cells2 kD
  clear bD
  have z4 : n4 ≤ 16777216 ∧ p4 ≤ 16777216 := by have h1 := t4.len; have h2 := hF4.len; have h3 := hF4.own; omega
  have r4 := hide (fun r hr => (hF4.rows r hr).1 : ∀ r ∈ v4.rows, r.Rng)
  go_wp2_with fail
  refine (implDropRow_made _ _ _ _ _ _ v4 id _ t4.tab z4.1 z4.2 r4.out).mono ?_
  rintro e w5 ⟨a5, n5, c5, o5, p5, q5, rfl, t5, hb⟩
  clear j0 j1 j2 j3
  have t2 := t2.below hb
  have t3 := t3.below hb
  have t4 := t4.below hb
  have kV := kept_block kV hb
  have kW := kept_block kW hb
  have kD := kept_block kD hb
  have u := gr_trans u hb
  clear hb
  generalize hwX : w5.alloc (Obj.cells #[Value.slice a5 n5 c5, Value.slice o5 p5 q5] 27) = wX
  have bX : Below w5.heap.size w5 wX := by subst hwX; exact below_one _ _
  have t2 := t2.below bX
  have t3 := t3.below bX
  have t4 := t4.below bX
  have t5 := t5.below bX
  have kV := kept_block kV bX
  have kW := kept_block kW bX
  have kD := kept_block kD bX
  have u := gr_trans u bX
  have kX : wX.heap[w5.heap.size]? = some (.cells #[.slice a5 n5 c5, .slice o5 p5 q5] 27) := by rw [← hwX]; exact block_last _ _
  obtain ⟨⟨j0, j1⟩, j2, j3⟩ := cells2 kX
  clear bX
  obtain ⟨⟨m0, m1⟩, -⟩ := cells2 kD
  go_wp2_with fail
  refine (specDropRow_made _ _ _ _ _ _ v4 id _ t4.tab z4.1 z4.2).mono ?_
  rintro e w6 ⟨a6, n6, c6, o6, p6, q6, rfl, t6, hb⟩
  clear j0 j1 j2 j3 m0 m1
  have t2 := t2.below hb
  have t3 := t3.below hb
  have t4 := t4.below hb
  have t5 := t5.below hb
  have kV := kept_block kV hb
  have kW := kept_block kW hb
  have kD := kept_block kD hb
  have kX := kept_block kX hb
  have u := gr_trans u hb
  clear hb
  generalize hwY : w6.alloc (Obj.cells #[Value.slice a6 n6 c6, Value.slice o6 p6 q6] 27) = wY
  have bY : Below w6.heap.size w6 wY := by subst hwY; exact below_one _ _
  have t2 := t2.below bY
  have t3 := t3.below bY
  have t4 := t4.below bY
  have t5 := t5.below bY
  have t6 := t6.below bY
  have kV := kept_block kV bY
  have kW := kept_block kW bY
  have kD := kept_block kD bY
  have kX := kept_block kX bY
  have u := gr_trans u bY
  have kY : wY.heap[w6.heap.size]? = some (.cells #[.slice a6 n6 c6, .slice o6 p6 q6] 27) := by rw [← hwY]; exact block_last _ _
  obtain ⟨⟨j0, j1⟩, j2, j3⟩ := cells2 kY
  clear bY
  go_wp2_with fail
  refine (drawSetPvid_any a0 l0 c0 z0 _ (h0.below u) hs).mono ?_
  rintro e w7 ⟨a7, n7, c7, o7, p7, q7, v7, pp7, port, to, rfl, t7, hF7, -, hp7, -, hto, hb⟩
  clear j0 j1 j2 j3
  have t2 := t2.below hb
  have t3 := t3.below hb
  have t4 := t4.below hb
  have t5 := t5.below hb
  have t6 := t6.below hb
  have kV := kept_block kV hb
  have kW := kept_block kW hb
  have kD := kept_block kD hb
  have kX := kept_block kX hb
  have kY := kept_block kY hb
  have u := gr_trans u hb
  clear hb
  generalize hwS : w7.alloc (Obj.cells #[Value.slice a7 n7 c7, Value.slice o7 p7 q7] 27) = wS
  have bS : Below w7.heap.size w7 wS := by subst hwS; exact below_one _ _
  have t2 := t2.below bS
  have t3 := t3.below bS
  have t4 := t4.below bS
  have t5 := t5.below bS
  have t6 := t6.below bS
  have t7 := t7.below bS
  have kV := kept_block kV bS
  have kW := kept_block kW bS
  have kD := kept_block kD bS
  have kX := kept_block kX bS
  have kY := kept_block kY bS
  have u := gr_trans u bS
  have kS : wS.heap[w7.heap.size]? = some (.cells #[.slice a7 n7 c7, .slice o7 p7 q7] 27) := by rw [← hwS]; exact block_last _ _
  obtain ⟨⟨j0, j1⟩, j2, j3⟩ := cells2 kS
  clear bS
  have z7 : n7 ≤ 16777216 ∧ p7 ≤ 16777216 := by have h1 := t7.len; have h2 := hF7.len; have h3 := hF7.own; omega
  have r7 := hide (fun r hr => (hF7.rows r hr).1 : ∀ r ∈ v7.rows, r.Rng)
  go_wp2_with fail
  refine (implSetPvid_made _ _ _ _ _ _ v7 port to _ t7.tab z7.1 z7.2 (by omega) r7.out).mono ?_
  rintro e w8 ⟨a8, n8, c8, o8, p8, q8, rfl, t8, hb⟩
  clear j0 j1 j2 j3
  have t2 := t2.below hb
  have t3 := t3.below hb
  have t4 := t4.below hb
  have t5 := t5.below hb
  have t6 := t6.below hb
  have t7 := t7.below hb
  have kV := kept_block kV hb
  have kW := kept_block kW hb
  have kD := kept_block kD hb
  have kX := kept_block kX hb
  have kY := kept_block kY hb
  have kS := kept_block kS hb
  have u := gr_trans u hb
  clear hb
  generalize hwP : w8.alloc (Obj.cells #[Value.slice a8 n8 c8, Value.slice o8 p8 q8] 27) = wP
  have bP : Below w8.heap.size w8 wP := by subst hwP; exact below_one _ _
  have t2 := t2.below bP
  have t3 := t3.below bP
  have t4 := t4.below bP
  have t5 := t5.below bP
  have t6 := t6.below bP
  have t7 := t7.below bP
  have t8 := t8.below bP
  have kV := kept_block kV bP
  have kW := kept_block kW bP
  have kD := kept_block kD bP
  have kX := kept_block kX bP
  have kY := kept_block kY bP
  have kS := kept_block kS bP
  have u := gr_trans u bP
  have kP : wP.heap[w8.heap.size]? = some (.cells #[.slice a8 n8 c8, .slice o8 p8 q8] 27) := by rw [← hwP]; exact block_last _ _
  obtain ⟨⟨j0, j1⟩, j2, j3⟩ := cells2 kP
  clear bP
  obtain ⟨⟨m0, m1⟩, -⟩ := cells2 kS
  go_wp2_with fail
  refine (specSetPvid_made _ _ _ _ _ _ v7 port to _ t7.tab z7.1 z7.2 (by omega)).mono ?_
  rintro e w9 ⟨a9, n9, c9, o9, p9, q9, rfl, t9, hb⟩
  clear j0 j1 j2 j3 m0 m1
  have t2 := t2.below hb
  have t3 := t3.below hb
  have t4 := t4.below hb
  have t5 := t5.below hb
  have t6 := t6.below hb
  have t7 := t7.below hb
  have t8 := t8.below hb
  have kV := kept_block kV hb
  have kW := kept_block kW hb
  have kD := kept_block kD hb
  have kX := kept_block kX hb
  have kY := kept_block kY hb
  have kS := kept_block kS hb
  have kP := kept_block kP hb
  have u := gr_trans u hb
  clear hb
  generalize hwQ : w9.alloc (Obj.cells #[Value.slice a9 n9 c9, Value.slice o9 p9 q9] 27) = wQ
  have bQ : Below w9.heap.size w9 wQ := by subst hwQ; exact below_one _ _
  have t2 := t2.below bQ
  have t3 := t3.below bQ
  have t4 := t4.below bQ
  have t5 := t5.below bQ
  have t6 := t6.below bQ
  have t7 := t7.below bQ
  have t8 := t8.below bQ
  have t9 := t9.below bQ
  have kV := kept_block kV bQ
  have kW := kept_block kW bQ
  have kD := kept_block kD bQ
  have kX := kept_block kX bQ
  have kY := kept_block kY bQ
  have kS := kept_block kS bQ
  have kP := kept_block kP bQ
  have u := gr_trans u bQ
  have kQ : wQ.heap[w9.heap.size]? = some (.cells #[.slice a9 n9 c9, .slice o9 p9 q9] 27) := by rw [← hwQ]; exact block_last _ _
  obtain ⟨⟨j0, j1⟩, j2, j3⟩ := cells2 kQ
  clear bQ
  have R3 := hide (fun r hr => (hF3.rows r hr).1 : ∀ r ∈ v3.rows, r.Rng)
  generalize dropRow v4 id = DV at t5 t6 ⊢
  generalize setPvid v7 port to = SV at t8 t9 ⊢
  generalize hOK : vtabOk v3 ports = okW
  have HOK := hide hOK
  have vv : Below wQ.heap.size wQ wQ.drew := gr_drew (Below.refl _ _)
  clear hOK hF3 hF4 hF7 z4 z7 r4 r7 t4 t7 hp3 hp4 hp7
  have RV := hide (vtabNew_rng nn)
  have hok := vtabNew_ok nn
  by_cases hn1 : 1 ≤ nn
  · by_cases hn6 : nn ≤ 6
    · have HN : Hid (vtabOk (vtabNew nn) nn = true) := hide (by rw [hok]; simp [hn1, hn6])
      clear hok
      go_wp2_with fail
      refine wp_region_held_drew (S := (fun W => (W.cell? ⟨w2.heap.size, 0, none⟩ = some (.slice a2 n2 c2) ∧ W.cell? ⟨w2.heap.size, 1, none⟩ = some (.slice o2 p2 q2)) ∧ (W.cell? ⟨w3.heap.size, 0, none⟩ = some (.slice a3 n3 c3) ∧ W.cell? ⟨w3.heap.size, 1, none⟩ = some (.slice o3 p3 q3)) ∧ (W.cell? ⟨w5.heap.size, 0, none⟩ = some (.slice a5 n5 c5) ∧ W.cell? ⟨w5.heap.size, 1, none⟩ = some (.slice o5 p5 q5)) ∧ (W.cell? ⟨w6.heap.size, 0, none⟩ = some (.slice a6 n6 c6) ∧ W.cell? ⟨w6.heap.size, 1, none⟩ = some (.slice o6 p6 q6)) ∧ (W.cell? ⟨w8.heap.size, 0, none⟩ = some (.slice a8 n8 c8) ∧ W.cell? ⟨w8.heap.size, 1, none⟩ = some (.slice o8 p8 q8)) ∧ (W.cell? ⟨w9.heap.size, 0, none⟩ = some (.slice a9 n9 c9) ∧ W.cell? ⟨w9.heap.size, 1, none⟩ = some (.slice o9 p9 q9)))) (by kernel_rfl) (⟨(cells2 (kept_block kV vv)).1, (cells2 (kept_block kW vv)).1, (cells2 (kept_block kX vv)).1, (cells2 (kept_block kY vv)).1, (cells2 (kept_block kP vv)).1, (cells2 (kept_block kQ vv)).1⟩) (fun hHeld => ?_)
      refine wpAnyH_take (i := 0) (oi := { dst := some 68, op := Op.load 27 (Operand.tmp 4), type := 27, pos := "laws.go:544", after := #[], guard := none }) (v := ?_) rfl (by kernel_rfl) (by kernel_rfl) (by kernel_rfl) (fun _ _ _ h => h) (Or.inl ⟨by rfl, ?_⟩) (by assumption) ?_
      rotate_left
      · (intro wY hSw; (try dsimp only at hSw); go_simp; try with_reducible rfl)
      simp only [Act.put, List.setIfInBounds_toArray, List.set_cons_zero, List.set_cons_succ]
      refine wpAnyH_take (i := 1) (oi := { dst := some 69, op := Op.move (Operand.tmp 3), type := 3, pos := "laws.go:544", after := #[], guard := none }) (v := ?_) rfl (by kernel_rfl) (by kernel_rfl) (by kernel_rfl) (fun _ _ _ h => h) (Or.inl ⟨by rfl, ?_⟩) (by assumption) ?_
      rotate_left
      · (intro wY hSw; (try dsimp only at hSw); go_simp; try with_reducible rfl)
      simp only [Act.put, List.setIfInBounds_toArray, List.set_cons_zero, List.set_cons_succ]
      refine wpAnyH_take (i := 3) (oi := { dst := some 71, op := Op.move (Operand.tmp 3), type := 3, pos := "laws.go:544", after := #[], guard := none }) (v := ?_) rfl (by kernel_rfl) (by kernel_rfl) (by kernel_rfl) (fun _ _ _ h => h) (Or.inl ⟨by rfl, ?_⟩) (by assumption) ?_
      rotate_left
      · (intro wY hSw; (try dsimp only at hSw); go_simp; try with_reducible rfl)
      simp only [Act.put, List.setIfInBounds_toArray, List.set_cons_zero, List.set_cons_succ]
      refine wpAnyH_take (i := 4) (oi := { dst := some 72, op := Op.binOp BinOp.geq 3 (Operand.tmp 71) (Operand.const (Value.int IntKind.i64 1)) 3, type := 4, pos := "laws.go:544", after := #[{ on := 3, ground := Ground.data }], guard := none }) (v := .bool true) rfl (by kernel_rfl) (by kernel_rfl) (by kernel_rfl) (fun _ _ _ h => h) (Or.inl ⟨by rfl, ?_⟩) (by assumption) ?_
      · (intro wY hSw; (try dsimp only at hSw); go_simp; first | done | omega)
      simp only [Act.put, List.setIfInBounds_toArray, List.set_cons_zero, List.set_cons_succ]
      refine wpAnyH_ready (rs := [2]) (by kernel_rfl) (by simp) ?_
      refine AllReadyH.cons (o := { dst := some 70, op := Op.call { callee := Callee.value (Operand.func 16), args := #[Operand.tmp 68, Operand.tmp 69], argTypes := #[27, 3] }, type := 4, pos := "laws.go:544", after := #[{ on := 0, ground := Ground.data }, { on := 1, ground := Ground.data }], guard := none }) rfl (fun K hK => ?_) ?_
      · go_simp
        refine (implVtabOk_any _ _ _ _ _ _ (vtabNew nn) nn _ (t2.below vv).tab RV.out).mono ?_
        rintro e wx ⟨rfl, hbx⟩
        rw [HN.out]
        have vv := gr_trans vv hbx
        clear hbx
        go_wp2_with fail
        refine hK.out _ _ (⟨(cells2 (kept_block kV vv)).1, (cells2 (kept_block kW vv)).1, (cells2 (kept_block kX vv)).1, (cells2 (kept_block kY vv)).1, (cells2 (kept_block kP vv)).1, (cells2 (kept_block kQ vv)).1⟩) (fun hHeld => ?_)
        clear hK K
        try simp only [Act.put, List.setIfInBounds_toArray, List.set_cons_zero, List.set_cons_succ]
        refine wpAnyH_take (i := 5) (oi := { dst := some 73, op := Op.move (Operand.tmp 72), type := 4, pos := "laws.go:544", after := #[{ on := 4, ground := Ground.data }, { on := 2, ground := Ground.chain }], guard := none }) (v := ?_) rfl (by kernel_rfl) (by kernel_rfl) (by kernel_rfl) (fun _ _ _ h => h) (Or.inl ⟨by rfl, ?_⟩) (by assumption) ?_
        rotate_left
        · (intro wY hSw; (try dsimp only at hSw); go_simp; try with_reducible rfl)
        simp only [Act.put, List.setIfInBounds_toArray, List.set_cons_zero, List.set_cons_succ]
        refine wpAnyH_take (i := 6) (oi := { dst := some 74, op := Op.move (Operand.tmp 3), type := 3, pos := "laws.go:544", after := #[{ on := 5, ground := Ground.guard }], guard := some (5, true) }) (v := ?_) rfl (by kernel_rfl) (by kernel_rfl) (by kernel_rfl) (fun _ _ _ h => h) (Or.inl ⟨by rfl, ?_⟩) (by assumption) ?_
        rotate_left
        · (intro wY hSw; (try dsimp only at hSw); go_simp; try with_reducible rfl)
        simp only [Act.put, List.setIfInBounds_toArray, List.set_cons_zero, List.set_cons_succ]
        refine wpAnyH_take (i := 7) (oi := { dst := some 75, op := Op.binOp BinOp.leq 3 (Operand.tmp 74) (Operand.const (Value.int IntKind.i64 6)) 3, type := 4, pos := "laws.go:544", after := #[{ on := 6, ground := Ground.data }, { on := 5, ground := Ground.guard }], guard := some (5, true) }) (v := .bool true) rfl (by kernel_rfl) (by kernel_rfl) (by kernel_rfl) (fun _ _ _ h => h) (Or.inl ⟨by rfl, ?_⟩) (by assumption) ?_
        · (intro wY hSw; (try dsimp only at hSw); go_simp; first | done | omega)
        simp only [Act.put, List.setIfInBounds_toArray, List.set_cons_zero, List.set_cons_succ]
        refine wpAnyH_take (i := 8) (oi := { dst := some 76, op := Op.pick (Operand.tmp 73) (Operand.tmp 75) (Operand.const (Value.bool false)), type := 4, pos := "laws.go:544", after := #[{ on := 5, ground := Ground.data }, { on := 7, ground := Ground.data }], guard := none }) (v := ?_) rfl (by kernel_rfl) (by kernel_rfl) (by kernel_rfl) (fun _ _ _ h => h) (Or.inl ⟨by rfl, ?_⟩) (by assumption) ?_
        rotate_left
        · (intro wY hSw; (try dsimp only at hSw); go_simp; try with_reducible rfl)
        simp only [Act.put, List.setIfInBounds_toArray, List.set_cons_zero, List.set_cons_succ]
        refine wpAnyH_take (i := 9) (oi := { dst := some 77, op := Op.binOp BinOp.eql 4 (Operand.tmp 70) (Operand.tmp 76) 4, type := 4, pos := "laws.go:544", after := #[{ on := 2, ground := Ground.data }, { on := 8, ground := Ground.data }], guard := none }) (v := .bool true) rfl (by kernel_rfl) (by kernel_rfl) (by kernel_rfl) (fun _ _ _ h => h) (Or.inl ⟨by rfl, ?_⟩) (by assumption) ?_
        · (intro wY hSw; (try dsimp only at hSw); go_simp; first | done | omega)
        simp only [Act.put, List.setIfInBounds_toArray, List.set_cons_zero, List.set_cons_succ]
        refine wpAnyH_take (i := 10) (oi := { dst := some 78, op := Op.move (Operand.tmp 77), type := 4, pos := "laws.go:544", after := #[{ on := 9, ground := Ground.data }, { on := 5, ground := Ground.chain }], guard := none }) (v := ?_) rfl (by kernel_rfl) (by kernel_rfl) (by kernel_rfl) (fun _ _ _ h => h) (Or.inl ⟨by rfl, ?_⟩) (by assumption) ?_
        rotate_left
        · (intro wY hSw; (try dsimp only at hSw); go_simp; try with_reducible rfl)
        simp only [Act.put, List.setIfInBounds_toArray, List.set_cons_zero, List.set_cons_succ]
        refine wpAnyH_take (i := 11) (oi := { dst := some 79, op := Op.load 27 (Operand.tmp 5), type := 27, pos := "laws.go:544", after := #[{ on := 10, ground := Ground.guard }], guard := some (10, true) }) (v := ?_) rfl (by kernel_rfl) (by kernel_rfl) (by kernel_rfl) (fun _ _ _ h => h) (Or.inl ⟨by rfl, ?_⟩) (by assumption) ?_
        rotate_left
        · (intro wY hSw; (try dsimp only at hSw); go_simp; try with_reducible rfl)
        simp only [Act.put, List.setIfInBounds_toArray, List.set_cons_zero, List.set_cons_succ]
        refine wpAnyH_take (i := 12) (oi := { dst := some 80, op := Op.move (Operand.tmp 6), type := 3, pos := "laws.go:544", after := #[{ on := 10, ground := Ground.guard }], guard := some (10, true) }) (v := ?_) rfl (by kernel_rfl) (by kernel_rfl) (by kernel_rfl) (fun _ _ _ h => h) (Or.inl ⟨by rfl, ?_⟩) (by assumption) ?_
        rotate_left
        · (intro wY hSw; (try dsimp only at hSw); go_simp; try with_reducible rfl)
        simp only [Act.put, List.setIfInBounds_toArray, List.set_cons_zero, List.set_cons_succ]
        refine wpAnyH_take (i := 14) (oi := { dst := some 82, op := Op.load 27 (Operand.tmp 5), type := 27, pos := "laws.go:544", after := #[{ on := 10, ground := Ground.guard }], guard := some (10, true) }) (v := ?_) rfl (by kernel_rfl) (by kernel_rfl) (by kernel_rfl) (fun _ _ _ h => h) (Or.inl ⟨by rfl, ?_⟩) (by assumption) ?_
        rotate_left
        · (intro wY hSw; (try dsimp only at hSw); go_simp; try with_reducible rfl)
        simp only [Act.put, List.setIfInBounds_toArray, List.set_cons_zero, List.set_cons_succ]
        refine wpAnyH_take (i := 15) (oi := { dst := some 83, op := Op.move (Operand.tmp 6), type := 3, pos := "laws.go:544", after := #[{ on := 10, ground := Ground.guard }], guard := some (10, true) }) (v := ?_) rfl (by kernel_rfl) (by kernel_rfl) (by kernel_rfl) (fun _ _ _ h => h) (Or.inl ⟨by rfl, ?_⟩) (by assumption) ?_
        rotate_left
        · (intro wY hSw; (try dsimp only at hSw); go_simp; try with_reducible rfl)
        simp only [Act.put, List.setIfInBounds_toArray, List.set_cons_zero, List.set_cons_succ]
        refine wpAnyH_ready (rs := [13]) (by kernel_rfl) (by simp) ?_
        refine AllReadyH.cons (o := { dst := some 81, op := Op.call { callee := Callee.value (Operand.func 16), args := #[Operand.tmp 79, Operand.tmp 80], argTypes := #[27, 3] }, type := 4, pos := "laws.go:544", after := #[{ on := 11, ground := Ground.data }, { on := 12, ground := Ground.data }, { on := 10, ground := Ground.chain }, { on := 10, ground := Ground.guard }], guard := some (10, true) }) rfl (fun K hK => ?_) ?_
        · go_simp
          refine (implVtabOk_any _ _ _ _ _ _ v3 ports _ (t3.below vv).tab R3.out).mono ?_
          rintro e wx ⟨rfl, hbx⟩
          rw [HOK.out]
          have vv := gr_trans vv hbx
          clear hbx
          go_wp2_with fail
          refine hK.out _ _ (⟨(cells2 (kept_block kV vv)).1, (cells2 (kept_block kW vv)).1, (cells2 (kept_block kX vv)).1, (cells2 (kept_block kY vv)).1, (cells2 (kept_block kP vv)).1, (cells2 (kept_block kQ vv)).1⟩) (fun hHeld => ?_)
          clear hK K
          try simp only [Act.put, List.setIfInBounds_toArray, List.set_cons_zero, List.set_cons_succ]
          refine wpAnyH_ready (rs := [16]) (by kernel_rfl) (by simp) ?_
          refine AllReadyH.cons (o := { dst := some 84, op := Op.call { callee := Callee.value (Operand.func 26), args := #[Operand.tmp 82, Operand.tmp 83], argTypes := #[27, 3] }, type := 4, pos := "laws.go:544", after := #[{ on := 14, ground := Ground.data }, { on := 15, ground := Ground.data }, { on := 13, ground := Ground.chain }, { on := 10, ground := Ground.guard }], guard := some (10, true) }) rfl (fun K hK => ?_) ?_
          · go_simp
            refine (specVtabOk_any _ _ _ _ _ _ v3 ports _ (t3.below vv).tab).mono ?_
            rintro e wx ⟨rfl, hbx⟩
            rw [HOK.out]
            have vv := gr_trans vv hbx
            clear hbx
            go_wp2_with fail
            refine hK.out _ _ (⟨(cells2 (kept_block kV vv)).1, (cells2 (kept_block kW vv)).1, (cells2 (kept_block kX vv)).1, (cells2 (kept_block kY vv)).1, (cells2 (kept_block kP vv)).1, (cells2 (kept_block kQ vv)).1⟩) (fun hHeld => ?_)
            clear hK K
            try simp only [Act.put, List.setIfInBounds_toArray, List.set_cons_zero, List.set_cons_succ]
            refine wpAnyH_take (i := 17) (oi := { dst := some 85, op := Op.binOp BinOp.eql 4 (Operand.tmp 81) (Operand.tmp 84) 4, type := 4, pos := "laws.go:544", after := #[{ on := 13, ground := Ground.data }, { on := 16, ground := Ground.data }, { on := 10, ground := Ground.guard }], guard := some (10, true) }) (v := .bool true) rfl (by kernel_rfl) (by kernel_rfl) (by kernel_rfl) (fun _ _ _ h => h) (Or.inl ⟨by rfl, ?_⟩) (by assumption) ?_
            · (intro wY hSw; (try dsimp only at hSw); go_simp; first | done | omega)
            simp only [Act.put, List.setIfInBounds_toArray, List.set_cons_zero, List.set_cons_succ]
            refine wpAnyH_take (i := 18) (oi := { dst := some 86, op := Op.pick (Operand.tmp 78) (Operand.tmp 85) (Operand.const (Value.bool false)), type := 4, pos := "laws.go:544", after := #[{ on := 10, ground := Ground.data }, { on := 17, ground := Ground.data }], guard := none }) (v := ?_) rfl (by kernel_rfl) (by kernel_rfl) (by kernel_rfl) (fun _ _ _ h => h) (Or.inl ⟨by rfl, ?_⟩) (by assumption) ?_
            rotate_left
            · (intro wY hSw; (try dsimp only at hSw); go_simp; try with_reducible rfl)
            simp only [Act.put, List.setIfInBounds_toArray, List.set_cons_zero, List.set_cons_succ]
            refine wpAnyH_take (i := 19) (oi := { dst := some 87, op := Op.move (Operand.tmp 86), type := 4, pos := "laws.go:544", after := #[{ on := 18, ground := Ground.data }, { on := 16, ground := Ground.chain }], guard := none }) (v := ?_) rfl (by kernel_rfl) (by kernel_rfl) (by kernel_rfl) (fun _ _ _ h => h) (Or.inl ⟨by rfl, ?_⟩) (by assumption) ?_
            rotate_left
            · (intro wY hSw; (try dsimp only at hSw); go_simp; try with_reducible rfl)
            simp only [Act.put, List.setIfInBounds_toArray, List.set_cons_zero, List.set_cons_succ]
            refine wpAnyH_take (i := 20) (oi := { dst := some 88, op := Op.move (Operand.tmp 10), type := 4, pos := "laws.go:544", after := #[{ on := 19, ground := Ground.guard }], guard := some (19, true) }) (v := ?_) rfl (by kernel_rfl) (by kernel_rfl) (by kernel_rfl) (fun _ _ _ h => h) (Or.inl ⟨by rfl, ?_⟩) (by assumption) ?_
            rotate_left
            · (intro wY hSw; (try dsimp only at hSw); go_simp; try with_reducible rfl)
            simp only [Act.put, List.setIfInBounds_toArray, List.set_cons_zero, List.set_cons_succ]
            refine wpAnyH_take (i := 21) (oi := { dst := some 89, op := Op.move (Operand.tmp 12), type := 4, pos := "laws.go:544", after := #[{ on := 19, ground := Ground.guard }], guard := some (19, true) }) (v := ?_) rfl (by kernel_rfl) (by kernel_rfl) (by kernel_rfl) (fun _ _ _ h => h) (Or.inl ⟨by rfl, ?_⟩) (by assumption) ?_
            rotate_left
            · (intro wY hSw; (try dsimp only at hSw); go_simp; try with_reducible rfl)
            simp only [Act.put, List.setIfInBounds_toArray, List.set_cons_zero, List.set_cons_succ]
            refine wpAnyH_take (i := 22) (oi := { dst := some 90, op := Op.binOp BinOp.eql 4 (Operand.tmp 88) (Operand.tmp 89) 4, type := 4, pos := "laws.go:544", after := #[{ on := 20, ground := Ground.data }, { on := 21, ground := Ground.data }, { on := 19, ground := Ground.guard }], guard := some (19, true) }) (v := .bool true) rfl (by kernel_rfl) (by kernel_rfl) (by kernel_rfl) (fun _ _ _ h => h) (Or.inl ⟨by rfl, ?_⟩) (by assumption) ?_
            · (intro wY hSw; (try dsimp only at hSw); go_simp; first | done | omega)
            simp only [Act.put, List.setIfInBounds_toArray, List.set_cons_zero, List.set_cons_succ]
            refine wpAnyH_take (i := 23) (oi := { dst := some 91, op := Op.pick (Operand.tmp 87) (Operand.tmp 90) (Operand.const (Value.bool false)), type := 4, pos := "laws.go:544", after := #[{ on := 19, ground := Ground.data }, { on := 22, ground := Ground.data }], guard := none }) (v := ?_) rfl (by kernel_rfl) (by kernel_rfl) (by kernel_rfl) (fun _ _ _ h => h) (Or.inl ⟨by rfl, ?_⟩) (by assumption) ?_
            rotate_left
            · (intro wY hSw; (try dsimp only at hSw); go_simp; try with_reducible rfl)
            simp only [Act.put, List.setIfInBounds_toArray, List.set_cons_zero, List.set_cons_succ]
            refine wpAnyH_take (i := 24) (oi := { dst := some 92, op := Op.move (Operand.tmp 91), type := 4, pos := "laws.go:544", after := #[{ on := 23, ground := Ground.data }, { on := 19, ground := Ground.chain }], guard := none }) (v := ?_) rfl (by kernel_rfl) (by kernel_rfl) (by kernel_rfl) (fun _ _ _ h => h) (Or.inl ⟨by rfl, ?_⟩) (by assumption) ?_
            rotate_left
            · (intro wY hSw; (try dsimp only at hSw); go_simp; try with_reducible rfl)
            simp only [Act.put, List.setIfInBounds_toArray, List.set_cons_zero, List.set_cons_succ]
            refine wpAnyH_take (i := 25) (oi := { dst := some 93, op := Op.move (Operand.tmp 17), type := 4, pos := "laws.go:544", after := #[{ on := 24, ground := Ground.guard }], guard := some (24, true) }) (v := ?_) rfl (by kernel_rfl) (by kernel_rfl) (by kernel_rfl) (fun _ _ _ h => h) (Or.inl ⟨by rfl, ?_⟩) (by assumption) ?_
            rotate_left
            · (intro wY hSw; (try dsimp only at hSw); go_simp; try with_reducible rfl)
            simp only [Act.put, List.setIfInBounds_toArray, List.set_cons_zero, List.set_cons_succ]
            refine wpAnyH_take (i := 26) (oi := { dst := some 94, op := Op.move (Operand.tmp 19), type := 4, pos := "laws.go:544", after := #[{ on := 24, ground := Ground.guard }], guard := some (24, true) }) (v := ?_) rfl (by kernel_rfl) (by kernel_rfl) (by kernel_rfl) (fun _ _ _ h => h) (Or.inl ⟨by rfl, ?_⟩) (by assumption) ?_
            rotate_left
            · (intro wY hSw; (try dsimp only at hSw); go_simp; try with_reducible rfl)
            simp only [Act.put, List.setIfInBounds_toArray, List.set_cons_zero, List.set_cons_succ]
            refine wpAnyH_take (i := 27) (oi := { dst := some 95, op := Op.binOp BinOp.eql 4 (Operand.tmp 93) (Operand.tmp 94) 4, type := 4, pos := "laws.go:544", after := #[{ on := 25, ground := Ground.data }, { on := 26, ground := Ground.data }, { on := 24, ground := Ground.guard }], guard := some (24, true) }) (v := .bool true) rfl (by kernel_rfl) (by kernel_rfl) (by kernel_rfl) (fun _ _ _ h => h) (Or.inl ⟨by rfl, ?_⟩) (by assumption) ?_
            · (intro wY hSw; (try dsimp only at hSw); go_simp; first | done | omega)
            simp only [Act.put, List.setIfInBounds_toArray, List.set_cons_zero, List.set_cons_succ]
            refine wpAnyH_take (i := 28) (oi := { dst := some 96, op := Op.pick (Operand.tmp 92) (Operand.tmp 95) (Operand.const (Value.bool false)), type := 4, pos := "laws.go:544", after := #[{ on := 24, ground := Ground.data }, { on := 27, ground := Ground.data }], guard := none }) (v := ?_) rfl (by kernel_rfl) (by kernel_rfl) (by kernel_rfl) (fun _ _ _ h => h) (Or.inl ⟨by rfl, ?_⟩) (by assumption) ?_
            rotate_left
            · (intro wY hSw; (try dsimp only at hSw); go_simp; try with_reducible rfl)
            simp only [Act.put, List.setIfInBounds_toArray, List.set_cons_zero, List.set_cons_succ]
            refine wpAnyH_take (i := 29) (oi := { dst := some 97, op := Op.move (Operand.tmp 96), type := 4, pos := "laws.go:544", after := #[{ on := 28, ground := Ground.data }, { on := 24, ground := Ground.chain }], guard := none }) (v := ?_) rfl (by kernel_rfl) (by kernel_rfl) (by kernel_rfl) (fun _ _ _ h => h) (Or.inl ⟨by rfl, ?_⟩) (by assumption) ?_
            rotate_left
            · (intro wY hSw; (try dsimp only at hSw); go_simp; try with_reducible rfl)
            simp only [Act.put, List.setIfInBounds_toArray, List.set_cons_zero, List.set_cons_succ]
            refine wpAnyH_take (i := 30) (oi := { dst := some 98, op := Op.load 27 (Operand.tmp 9), type := 27, pos := "laws.go:544", after := #[{ on := 29, ground := Ground.guard }], guard := some (29, true) }) (v := ?_) rfl (by kernel_rfl) (by kernel_rfl) (by kernel_rfl) (fun _ _ _ h => h) (Or.inl ⟨by rfl, ?_⟩) (by assumption) ?_
            rotate_left
            · (intro wY hSw; (try dsimp only at hSw); go_simp; try with_reducible rfl)
            simp only [Act.put, List.setIfInBounds_toArray, List.set_cons_zero, List.set_cons_succ]
            refine wpAnyH_take (i := 31) (oi := { dst := some 99, op := Op.load 27 (Operand.tmp 11), type := 27, pos := "laws.go:544", after := #[{ on := 29, ground := Ground.guard }], guard := some (29, true) }) (v := ?_) rfl (by kernel_rfl) (by kernel_rfl) (by kernel_rfl) (fun _ _ _ h => h) (Or.inl ⟨by rfl, ?_⟩) (by assumption) ?_
            rotate_left
            · (intro wY hSw; (try dsimp only at hSw); go_simp; try with_reducible rfl)
            simp only [Act.put, List.setIfInBounds_toArray, List.set_cons_zero, List.set_cons_succ]
            refine wpAnyH_ready (rs := [32]) (by kernel_rfl) (by simp) ?_
            refine AllReadyH.cons (o := { dst := some 100, op := Op.call { callee := Callee.value (Operand.func 13), args := #[Operand.tmp 98, Operand.tmp 99], argTypes := #[27, 27] }, type := 4, pos := "laws.go:544", after := #[{ on := 30, ground := Ground.data }, { on := 31, ground := Ground.data }, { on := 29, ground := Ground.chain }, { on := 29, ground := Ground.guard }], guard := some (29, true) }) rfl (fun K hK => ?_) ?_
            · go_simp
              refine (sameVtab_same _ _ _ _ _ _ _ _ _ _ _ _ DV.1 _ (t5.below vv).tab (t6.below vv).tab).mono ?_
              rintro e wx ⟨rfl, hbx⟩
              have vv := gr_trans vv hbx
              clear hbx
              go_wp2_with fail
              refine hK.out _ _ (⟨(cells2 (kept_block kV vv)).1, (cells2 (kept_block kW vv)).1, (cells2 (kept_block kX vv)).1, (cells2 (kept_block kY vv)).1, (cells2 (kept_block kP vv)).1, (cells2 (kept_block kQ vv)).1⟩) (fun hHeld => ?_)
              clear hK K
              try simp only [Act.put, List.setIfInBounds_toArray, List.set_cons_zero, List.set_cons_succ]
              refine wpAnyH_take (i := 33) (oi := { dst := some 101, op := Op.pick (Operand.tmp 97) (Operand.tmp 100) (Operand.const (Value.bool false)), type := 4, pos := "laws.go:544", after := #[{ on := 29, ground := Ground.data }, { on := 32, ground := Ground.data }], guard := none }) (v := ?_) rfl (by kernel_rfl) (by kernel_rfl) (by kernel_rfl) (fun _ _ _ h => h) (Or.inl ⟨by rfl, ?_⟩) (by assumption) ?_
              rotate_left
              · (intro wY hSw; (try dsimp only at hSw); go_simp; try with_reducible rfl)
              simp only [Act.put, List.setIfInBounds_toArray, List.set_cons_zero, List.set_cons_succ]
              refine wpAnyH_take (i := 34) (oi := { dst := some 102, op := Op.move (Operand.tmp 101), type := 4, pos := "laws.go:544", after := #[{ on := 33, ground := Ground.data }, { on := 32, ground := Ground.chain }], guard := none }) (v := ?_) rfl (by kernel_rfl) (by kernel_rfl) (by kernel_rfl) (fun _ _ _ h => h) (Or.inl ⟨by rfl, ?_⟩) (by assumption) ?_
              rotate_left
              · (intro wY hSw; (try dsimp only at hSw); go_simp; try with_reducible rfl)
              simp only [Act.put, List.setIfInBounds_toArray, List.set_cons_zero, List.set_cons_succ]
              refine wpAnyH_take (i := 35) (oi := { dst := some 103, op := Op.load 27 (Operand.tmp 16), type := 27, pos := "laws.go:544", after := #[{ on := 34, ground := Ground.guard }], guard := some (34, true) }) (v := ?_) rfl (by kernel_rfl) (by kernel_rfl) (by kernel_rfl) (fun _ _ _ h => h) (Or.inl ⟨by rfl, ?_⟩) (by assumption) ?_
              rotate_left
              · (intro wY hSw; (try dsimp only at hSw); go_simp; try with_reducible rfl)
              simp only [Act.put, List.setIfInBounds_toArray, List.set_cons_zero, List.set_cons_succ]
              refine wpAnyH_take (i := 36) (oi := { dst := some 104, op := Op.load 27 (Operand.tmp 18), type := 27, pos := "laws.go:544", after := #[{ on := 34, ground := Ground.guard }], guard := some (34, true) }) (v := ?_) rfl (by kernel_rfl) (by kernel_rfl) (by kernel_rfl) (fun _ _ _ h => h) (Or.inl ⟨by rfl, ?_⟩) (by assumption) ?_
              rotate_left
              · (intro wY hSw; (try dsimp only at hSw); go_simp; try with_reducible rfl)
              simp only [Act.put, List.setIfInBounds_toArray, List.set_cons_zero, List.set_cons_succ]
              refine wpAnyH_ready (rs := [37]) (by kernel_rfl) (by simp) ?_
              refine AllReadyH.cons (o := { dst := some 105, op := Op.call { callee := Callee.value (Operand.func 13), args := #[Operand.tmp 103, Operand.tmp 104], argTypes := #[27, 27] }, type := 4, pos := "laws.go:544", after := #[{ on := 35, ground := Ground.data }, { on := 36, ground := Ground.data }, { on := 34, ground := Ground.chain }, { on := 34, ground := Ground.guard }], guard := some (34, true) }) rfl (fun K hK => ?_) ?_
              · go_simp
                refine (sameVtab_same _ _ _ _ _ _ _ _ _ _ _ _ SV.1 _ (t8.below vv).tab (t9.below vv).tab).mono ?_
                rintro e wx ⟨rfl, hbx⟩
                have vv := gr_trans vv hbx
                clear hbx
                go_wp2_with fail
                refine hK.out _ _ (⟨(cells2 (kept_block kV vv)).1, (cells2 (kept_block kW vv)).1, (cells2 (kept_block kX vv)).1, (cells2 (kept_block kY vv)).1, (cells2 (kept_block kP vv)).1, (cells2 (kept_block kQ vv)).1⟩) (fun hHeld => ?_)
                clear hK K
                try simp only [Act.put, List.setIfInBounds_toArray, List.set_cons_zero, List.set_cons_succ]
                refine wpAnyH_take (i := 38) (oi := { dst := some 106, op := Op.pick (Operand.tmp 102) (Operand.tmp 105) (Operand.const (Value.bool false)), type := 4, pos := "laws.go:544", after := #[{ on := 34, ground := Ground.data }, { on := 37, ground := Ground.data }], guard := none }) (v := ?_) rfl (by kernel_rfl) (by kernel_rfl) (by kernel_rfl) (fun _ _ _ h => h) (Or.inl ⟨by rfl, ?_⟩) (by assumption) ?_
                rotate_left
                · (intro wY hSw; (try dsimp only at hSw); go_simp; try with_reducible rfl)
                simp only [Act.put, List.setIfInBounds_toArray, List.set_cons_zero, List.set_cons_succ]
                refine wpAnyH_take (i := 39) (oi := { dst := some 107, op := Op.move (Operand.tmp 106), type := 4, pos := "laws.go:544", after := #[{ on := 38, ground := Ground.data }, { on := 37, ground := Ground.chain }], guard := none }) (v := ?_) rfl (by kernel_rfl) (by kernel_rfl) (by kernel_rfl) (fun _ _ _ h => h) (Or.inl ⟨by rfl, ?_⟩) (by assumption) ?_
                rotate_left
                · (intro wY hSw; (try dsimp only at hSw); go_simp; try with_reducible rfl)
                simp only [Act.put, List.setIfInBounds_toArray, List.set_cons_zero, List.set_cons_succ]
                refine wpAnyH_take (i := 40) (oi := { dst := some 108, op := Op.load 27 (Operand.tmp 4), type := 27, pos := "laws.go:544", after := #[{ on := 39, ground := Ground.guard }], guard := some (39, true) }) (v := ?_) rfl (by kernel_rfl) (by kernel_rfl) (by kernel_rfl) (fun _ _ _ h => h) (Or.inl ⟨by rfl, ?_⟩) (by assumption) ?_
                rotate_left
                · (intro wY hSw; (try dsimp only at hSw); go_simp; try with_reducible rfl)
                simp only [Act.put, List.setIfInBounds_toArray, List.set_cons_zero, List.set_cons_succ]
                refine wpAnyH_take (i := 41) (oi := { dst := some 109, op := Op.move (Operand.tmp 3), type := 3, pos := "laws.go:544", after := #[{ on := 39, ground := Ground.guard }], guard := some (39, true) }) (v := ?_) rfl (by kernel_rfl) (by kernel_rfl) (by kernel_rfl) (fun _ _ _ h => h) (Or.inl ⟨by rfl, ?_⟩) (by assumption) ?_
                rotate_left
                · (intro wY hSw; (try dsimp only at hSw); go_simp; try with_reducible rfl)
                simp only [Act.put, List.setIfInBounds_toArray, List.set_cons_zero, List.set_cons_succ]
                refine wpAnyH_ready (rs := [42]) (by kernel_rfl) (by simp) ?_
                refine AllReadyH.cons (o := { dst := some 110, op := Op.call { callee := Callee.value (Operand.func 27), args := #[Operand.tmp 109], argTypes := #[3] }, type := 27, pos := "laws.go:544", after := #[{ on := 41, ground := Ground.data }, { on := 39, ground := Ground.chain }, { on := 39, ground := Ground.guard }], guard := some (39, true) }) rfl (fun K hK => ?_) ?_
                · go_simp
                  refine (specVtabNew_made nn _).mono ?_
                  rintro e wx ⟨a10, n10, c10, o10, p10, q10, rfl, t10, hbx⟩
                  have vv := gr_trans vv hbx
                  clear hbx
                  go_wp2_with fail
                  refine hK.out _ _ (⟨(cells2 (kept_block kV vv)).1, (cells2 (kept_block kW vv)).1, (cells2 (kept_block kX vv)).1, (cells2 (kept_block kY vv)).1, (cells2 (kept_block kP vv)).1, (cells2 (kept_block kQ vv)).1⟩) (fun hHeld => ?_)
                  clear hK K
                  try simp only [Act.put, List.setIfInBounds_toArray, List.set_cons_zero, List.set_cons_succ]
                  refine wpAnyH_ready (rs := [43]) (by kernel_rfl) (by simp) ?_
                  refine AllReadyH.cons (o := { dst := some 111, op := Op.call { callee := Callee.value (Operand.func 13), args := #[Operand.tmp 108, Operand.tmp 110], argTypes := #[27, 27] }, type := 4, pos := "laws.go:544", after := #[{ on := 40, ground := Ground.data }, { on := 42, ground := Ground.data }, { on := 42, ground := Ground.chain }, { on := 39, ground := Ground.guard }], guard := some (39, true) }) rfl (fun K hK => ?_) ?_
                  · go_simp
                    refine (sameVtab_same _ _ _ _ _ _ _ _ _ _ _ _ (vtabNew nn) _ (t2.below vv).tab t10.tab).mono ?_
                    rintro e wx ⟨rfl, hbx⟩
                    have vv := gr_trans vv hbx
                    clear hbx
                    clear t10
                    go_wp2_with fail
                    refine hK.out _ _ (⟨(cells2 (kept_block kV vv)).1, (cells2 (kept_block kW vv)).1, (cells2 (kept_block kX vv)).1, (cells2 (kept_block kY vv)).1, (cells2 (kept_block kP vv)).1, (cells2 (kept_block kQ vv)).1⟩) (fun hHeld => ?_)
                    clear hK K
                    try simp only [Act.put, List.setIfInBounds_toArray, List.set_cons_zero, List.set_cons_succ]
                    refine wpAnyH_take (i := 44) (oi := { dst := some 112, op := Op.pick (Operand.tmp 107) (Operand.tmp 111) (Operand.const (Value.bool false)), type := 4, pos := "laws.go:544", after := #[{ on := 39, ground := Ground.data }, { on := 43, ground := Ground.data }], guard := none }) (v := ?_) rfl (by kernel_rfl) (by kernel_rfl) (by kernel_rfl) (fun _ _ _ h => h) (Or.inl ⟨by rfl, ?_⟩) (by assumption) ?_
                    rotate_left
                    · (intro wY hSw; (try dsimp only at hSw); go_simp; try with_reducible rfl)
                    simp only [Act.put, List.setIfInBounds_toArray, List.set_cons_zero, List.set_cons_succ]
                    refine wpAnyH_take (i := 45) (oi := { dst := some 2, op := Op.assign (Operand.tmp 112), type := 4, pos := "laws.go:544", after := #[{ on := 44, ground := Ground.data }, { on := 43, ground := Ground.chain }, { on := 0, ground := Ground.phase }, { on := 1, ground := Ground.phase }, { on := 2, ground := Ground.phase }, { on := 3, ground := Ground.phase }, { on := 4, ground := Ground.phase }, { on := 5, ground := Ground.phase }, { on := 6, ground := Ground.phase }, { on := 7, ground := Ground.phase }, { on := 8, ground := Ground.phase }, { on := 9, ground := Ground.phase }, { on := 10, ground := Ground.phase }, { on := 11, ground := Ground.phase }, { on := 12, ground := Ground.phase }, { on := 13, ground := Ground.phase }, { on := 14, ground := Ground.phase }, { on := 15, ground := Ground.phase }, { on := 16, ground := Ground.phase }, { on := 17, ground := Ground.phase }, { on := 18, ground := Ground.phase }, { on := 19, ground := Ground.phase }, { on := 20, ground := Ground.phase }, { on := 21, ground := Ground.phase }, { on := 22, ground := Ground.phase }, { on := 23, ground := Ground.phase }, { on := 24, ground := Ground.phase }, { on := 25, ground := Ground.phase }, { on := 26, ground := Ground.phase }, { on := 27, ground := Ground.phase }, { on := 28, ground := Ground.phase }, { on := 29, ground := Ground.phase }, { on := 30, ground := Ground.phase }, { on := 31, ground := Ground.phase }, { on := 32, ground := Ground.phase }, { on := 33, ground := Ground.phase }, { on := 34, ground := Ground.phase }, { on := 35, ground := Ground.phase }, { on := 36, ground := Ground.phase }, { on := 37, ground := Ground.phase }, { on := 38, ground := Ground.phase }, { on := 39, ground := Ground.phase }, { on := 40, ground := Ground.phase }, { on := 41, ground := Ground.phase }, { on := 42, ground := Ground.phase }, { on := 43, ground := Ground.phase }, { on := 44, ground := Ground.phase }], guard := none }) (v := ?_) rfl (by kernel_rfl) (by kernel_rfl) (by kernel_rfl) (fun _ _ _ h => h) (Or.inl ⟨by rfl, ?_⟩) (by assumption) ?_
                    rotate_left
                    · (intro wY hSw; (try dsimp only at hSw); go_simp; try with_reducible rfl)
                    simp only [Act.put, List.setIfInBounds_toArray, List.set_cons_zero, List.set_cons_succ]
                    refine wpAnyH_done (by kernel_rfl) ?_ _
                    have HB := hide (gr_trans u vv)
                    clear hHeld vv
                    go_wp2
                    go_ret
                    exact ⟨rfl, HB.out⟩
                  exact AllReadyH.nil
                exact AllReadyH.nil
              exact AllReadyH.nil
            exact AllReadyH.nil
          exact AllReadyH.nil
        exact AllReadyH.nil
      exact AllReadyH.nil
    · have HN : Hid (vtabOk (vtabNew nn) nn = false) := hide (by rw [hok]; simp [hn6])
      clear hok
      go_wp2_with fail
      refine wp_region_held_drew (S := (fun W => (W.cell? ⟨w2.heap.size, 0, none⟩ = some (.slice a2 n2 c2) ∧ W.cell? ⟨w2.heap.size, 1, none⟩ = some (.slice o2 p2 q2)) ∧ (W.cell? ⟨w3.heap.size, 0, none⟩ = some (.slice a3 n3 c3) ∧ W.cell? ⟨w3.heap.size, 1, none⟩ = some (.slice o3 p3 q3)) ∧ (W.cell? ⟨w5.heap.size, 0, none⟩ = some (.slice a5 n5 c5) ∧ W.cell? ⟨w5.heap.size, 1, none⟩ = some (.slice o5 p5 q5)) ∧ (W.cell? ⟨w6.heap.size, 0, none⟩ = some (.slice a6 n6 c6) ∧ W.cell? ⟨w6.heap.size, 1, none⟩ = some (.slice o6 p6 q6)) ∧ (W.cell? ⟨w8.heap.size, 0, none⟩ = some (.slice a8 n8 c8) ∧ W.cell? ⟨w8.heap.size, 1, none⟩ = some (.slice o8 p8 q8)) ∧ (W.cell? ⟨w9.heap.size, 0, none⟩ = some (.slice a9 n9 c9) ∧ W.cell? ⟨w9.heap.size, 1, none⟩ = some (.slice o9 p9 q9)))) (by kernel_rfl) (⟨(cells2 (kept_block kV vv)).1, (cells2 (kept_block kW vv)).1, (cells2 (kept_block kX vv)).1, (cells2 (kept_block kY vv)).1, (cells2 (kept_block kP vv)).1, (cells2 (kept_block kQ vv)).1⟩) (fun hHeld => ?_)
      refine wpAnyH_take (i := 0) (oi := { dst := some 68, op := Op.load 27 (Operand.tmp 4), type := 27, pos := "laws.go:544", after := #[], guard := none }) (v := ?_) rfl (by kernel_rfl) (by kernel_rfl) (by kernel_rfl) (fun _ _ _ h => h) (Or.inl ⟨by rfl, ?_⟩) (by assumption) ?_
      rotate_left
      · (intro wY hSw; (try dsimp only at hSw); go_simp; try with_reducible rfl)
      simp only [Act.put, List.setIfInBounds_toArray, List.set_cons_zero, List.set_cons_succ]
      refine wpAnyH_take (i := 1) (oi := { dst := some 69, op := Op.move (Operand.tmp 3), type := 3, pos := "laws.go:544", after := #[], guard := none }) (v := ?_) rfl (by kernel_rfl) (by kernel_rfl) (by kernel_rfl) (fun _ _ _ h => h) (Or.inl ⟨by rfl, ?_⟩) (by assumption) ?_
      rotate_left
      · (intro wY hSw; (try dsimp only at hSw); go_simp; try with_reducible rfl)
      simp only [Act.put, List.setIfInBounds_toArray, List.set_cons_zero, List.set_cons_succ]
      refine wpAnyH_take (i := 3) (oi := { dst := some 71, op := Op.move (Operand.tmp 3), type := 3, pos := "laws.go:544", after := #[], guard := none }) (v := ?_) rfl (by kernel_rfl) (by kernel_rfl) (by kernel_rfl) (fun _ _ _ h => h) (Or.inl ⟨by rfl, ?_⟩) (by assumption) ?_
      rotate_left
      · (intro wY hSw; (try dsimp only at hSw); go_simp; try with_reducible rfl)
      simp only [Act.put, List.setIfInBounds_toArray, List.set_cons_zero, List.set_cons_succ]
      refine wpAnyH_take (i := 4) (oi := { dst := some 72, op := Op.binOp BinOp.geq 3 (Operand.tmp 71) (Operand.const (Value.int IntKind.i64 1)) 3, type := 4, pos := "laws.go:544", after := #[{ on := 3, ground := Ground.data }], guard := none }) (v := .bool true) rfl (by kernel_rfl) (by kernel_rfl) (by kernel_rfl) (fun _ _ _ h => h) (Or.inl ⟨by rfl, ?_⟩) (by assumption) ?_
      · (intro wY hSw; (try dsimp only at hSw); go_simp; first | done | omega)
      simp only [Act.put, List.setIfInBounds_toArray, List.set_cons_zero, List.set_cons_succ]
      refine wpAnyH_ready (rs := [2]) (by kernel_rfl) (by simp) ?_
      refine AllReadyH.cons (o := { dst := some 70, op := Op.call { callee := Callee.value (Operand.func 16), args := #[Operand.tmp 68, Operand.tmp 69], argTypes := #[27, 3] }, type := 4, pos := "laws.go:544", after := #[{ on := 0, ground := Ground.data }, { on := 1, ground := Ground.data }], guard := none }) rfl (fun K hK => ?_) ?_
      · go_simp
        refine (implVtabOk_any _ _ _ _ _ _ (vtabNew nn) nn _ (t2.below vv).tab RV.out).mono ?_
        rintro e wx ⟨rfl, hbx⟩
        rw [HN.out]
        have vv := gr_trans vv hbx
        clear hbx
        go_wp2_with fail
        refine hK.out _ _ (⟨(cells2 (kept_block kV vv)).1, (cells2 (kept_block kW vv)).1, (cells2 (kept_block kX vv)).1, (cells2 (kept_block kY vv)).1, (cells2 (kept_block kP vv)).1, (cells2 (kept_block kQ vv)).1⟩) (fun hHeld => ?_)
        clear hK K
        try simp only [Act.put, List.setIfInBounds_toArray, List.set_cons_zero, List.set_cons_succ]
        refine wpAnyH_take (i := 5) (oi := { dst := some 73, op := Op.move (Operand.tmp 72), type := 4, pos := "laws.go:544", after := #[{ on := 4, ground := Ground.data }, { on := 2, ground := Ground.chain }], guard := none }) (v := ?_) rfl (by kernel_rfl) (by kernel_rfl) (by kernel_rfl) (fun _ _ _ h => h) (Or.inl ⟨by rfl, ?_⟩) (by assumption) ?_
        rotate_left
        · (intro wY hSw; (try dsimp only at hSw); go_simp; try with_reducible rfl)
        simp only [Act.put, List.setIfInBounds_toArray, List.set_cons_zero, List.set_cons_succ]
        refine wpAnyH_take (i := 6) (oi := { dst := some 74, op := Op.move (Operand.tmp 3), type := 3, pos := "laws.go:544", after := #[{ on := 5, ground := Ground.guard }], guard := some (5, true) }) (v := ?_) rfl (by kernel_rfl) (by kernel_rfl) (by kernel_rfl) (fun _ _ _ h => h) (Or.inl ⟨by rfl, ?_⟩) (by assumption) ?_
        rotate_left
        · (intro wY hSw; (try dsimp only at hSw); go_simp; try with_reducible rfl)
        simp only [Act.put, List.setIfInBounds_toArray, List.set_cons_zero, List.set_cons_succ]
        refine wpAnyH_take (i := 7) (oi := { dst := some 75, op := Op.binOp BinOp.leq 3 (Operand.tmp 74) (Operand.const (Value.int IntKind.i64 6)) 3, type := 4, pos := "laws.go:544", after := #[{ on := 6, ground := Ground.data }, { on := 5, ground := Ground.guard }], guard := some (5, true) }) (v := .bool false) rfl (by kernel_rfl) (by kernel_rfl) (by kernel_rfl) (fun _ _ _ h => h) (Or.inl ⟨by rfl, ?_⟩) (by assumption) ?_
        · (intro wY hSw; (try dsimp only at hSw); go_simp; first | done | omega)
        simp only [Act.put, List.setIfInBounds_toArray, List.set_cons_zero, List.set_cons_succ]
        refine wpAnyH_take (i := 8) (oi := { dst := some 76, op := Op.pick (Operand.tmp 73) (Operand.tmp 75) (Operand.const (Value.bool false)), type := 4, pos := "laws.go:544", after := #[{ on := 5, ground := Ground.data }, { on := 7, ground := Ground.data }], guard := none }) (v := ?_) rfl (by kernel_rfl) (by kernel_rfl) (by kernel_rfl) (fun _ _ _ h => h) (Or.inl ⟨by rfl, ?_⟩) (by assumption) ?_
        rotate_left
        · (intro wY hSw; (try dsimp only at hSw); go_simp; try with_reducible rfl)
        simp only [Act.put, List.setIfInBounds_toArray, List.set_cons_zero, List.set_cons_succ]
        refine wpAnyH_take (i := 9) (oi := { dst := some 77, op := Op.binOp BinOp.eql 4 (Operand.tmp 70) (Operand.tmp 76) 4, type := 4, pos := "laws.go:544", after := #[{ on := 2, ground := Ground.data }, { on := 8, ground := Ground.data }], guard := none }) (v := .bool true) rfl (by kernel_rfl) (by kernel_rfl) (by kernel_rfl) (fun _ _ _ h => h) (Or.inl ⟨by rfl, ?_⟩) (by assumption) ?_
        · (intro wY hSw; (try dsimp only at hSw); go_simp; first | done | omega)
        simp only [Act.put, List.setIfInBounds_toArray, List.set_cons_zero, List.set_cons_succ]
        refine wpAnyH_take (i := 10) (oi := { dst := some 78, op := Op.move (Operand.tmp 77), type := 4, pos := "laws.go:544", after := #[{ on := 9, ground := Ground.data }, { on := 5, ground := Ground.chain }], guard := none }) (v := ?_) rfl (by kernel_rfl) (by kernel_rfl) (by kernel_rfl) (fun _ _ _ h => h) (Or.inl ⟨by rfl, ?_⟩) (by assumption) ?_
        rotate_left
        · (intro wY hSw; (try dsimp only at hSw); go_simp; try with_reducible rfl)
        simp only [Act.put, List.setIfInBounds_toArray, List.set_cons_zero, List.set_cons_succ]
        refine wpAnyH_take (i := 11) (oi := { dst := some 79, op := Op.load 27 (Operand.tmp 5), type := 27, pos := "laws.go:544", after := #[{ on := 10, ground := Ground.guard }], guard := some (10, true) }) (v := ?_) rfl (by kernel_rfl) (by kernel_rfl) (by kernel_rfl) (fun _ _ _ h => h) (Or.inl ⟨by rfl, ?_⟩) (by assumption) ?_
        rotate_left
        · (intro wY hSw; (try dsimp only at hSw); go_simp; try with_reducible rfl)
        simp only [Act.put, List.setIfInBounds_toArray, List.set_cons_zero, List.set_cons_succ]
        refine wpAnyH_take (i := 12) (oi := { dst := some 80, op := Op.move (Operand.tmp 6), type := 3, pos := "laws.go:544", after := #[{ on := 10, ground := Ground.guard }], guard := some (10, true) }) (v := ?_) rfl (by kernel_rfl) (by kernel_rfl) (by kernel_rfl) (fun _ _ _ h => h) (Or.inl ⟨by rfl, ?_⟩) (by assumption) ?_
        rotate_left
        · (intro wY hSw; (try dsimp only at hSw); go_simp; try with_reducible rfl)
        simp only [Act.put, List.setIfInBounds_toArray, List.set_cons_zero, List.set_cons_succ]
        refine wpAnyH_take (i := 14) (oi := { dst := some 82, op := Op.load 27 (Operand.tmp 5), type := 27, pos := "laws.go:544", after := #[{ on := 10, ground := Ground.guard }], guard := some (10, true) }) (v := ?_) rfl (by kernel_rfl) (by kernel_rfl) (by kernel_rfl) (fun _ _ _ h => h) (Or.inl ⟨by rfl, ?_⟩) (by assumption) ?_
        rotate_left
        · (intro wY hSw; (try dsimp only at hSw); go_simp; try with_reducible rfl)
        simp only [Act.put, List.setIfInBounds_toArray, List.set_cons_zero, List.set_cons_succ]
        refine wpAnyH_take (i := 15) (oi := { dst := some 83, op := Op.move (Operand.tmp 6), type := 3, pos := "laws.go:544", after := #[{ on := 10, ground := Ground.guard }], guard := some (10, true) }) (v := ?_) rfl (by kernel_rfl) (by kernel_rfl) (by kernel_rfl) (fun _ _ _ h => h) (Or.inl ⟨by rfl, ?_⟩) (by assumption) ?_
        rotate_left
        · (intro wY hSw; (try dsimp only at hSw); go_simp; try with_reducible rfl)
        simp only [Act.put, List.setIfInBounds_toArray, List.set_cons_zero, List.set_cons_succ]
        refine wpAnyH_ready (rs := [13]) (by kernel_rfl) (by simp) ?_
        refine AllReadyH.cons (o := { dst := some 81, op := Op.call { callee := Callee.value (Operand.func 16), args := #[Operand.tmp 79, Operand.tmp 80], argTypes := #[27, 3] }, type := 4, pos := "laws.go:544", after := #[{ on := 11, ground := Ground.data }, { on := 12, ground := Ground.data }, { on := 10, ground := Ground.chain }, { on := 10, ground := Ground.guard }], guard := some (10, true) }) rfl (fun K hK => ?_) ?_
        · go_simp
          refine (implVtabOk_any _ _ _ _ _ _ v3 ports _ (t3.below vv).tab R3.out).mono ?_
          rintro e wx ⟨rfl, hbx⟩
          rw [HOK.out]
          have vv := gr_trans vv hbx
          clear hbx
          go_wp2_with fail
          refine hK.out _ _ (⟨(cells2 (kept_block kV vv)).1, (cells2 (kept_block kW vv)).1, (cells2 (kept_block kX vv)).1, (cells2 (kept_block kY vv)).1, (cells2 (kept_block kP vv)).1, (cells2 (kept_block kQ vv)).1⟩) (fun hHeld => ?_)
          clear hK K
          try simp only [Act.put, List.setIfInBounds_toArray, List.set_cons_zero, List.set_cons_succ]
          refine wpAnyH_ready (rs := [16]) (by kernel_rfl) (by simp) ?_
          refine AllReadyH.cons (o := { dst := some 84, op := Op.call { callee := Callee.value (Operand.func 26), args := #[Operand.tmp 82, Operand.tmp 83], argTypes := #[27, 3] }, type := 4, pos := "laws.go:544", after := #[{ on := 14, ground := Ground.data }, { on := 15, ground := Ground.data }, { on := 13, ground := Ground.chain }, { on := 10, ground := Ground.guard }], guard := some (10, true) }) rfl (fun K hK => ?_) ?_
          · go_simp
            refine (specVtabOk_any _ _ _ _ _ _ v3 ports _ (t3.below vv).tab).mono ?_
            rintro e wx ⟨rfl, hbx⟩
            rw [HOK.out]
            have vv := gr_trans vv hbx
            clear hbx
            go_wp2_with fail
            refine hK.out _ _ (⟨(cells2 (kept_block kV vv)).1, (cells2 (kept_block kW vv)).1, (cells2 (kept_block kX vv)).1, (cells2 (kept_block kY vv)).1, (cells2 (kept_block kP vv)).1, (cells2 (kept_block kQ vv)).1⟩) (fun hHeld => ?_)
            clear hK K
            try simp only [Act.put, List.setIfInBounds_toArray, List.set_cons_zero, List.set_cons_succ]
            refine wpAnyH_take (i := 17) (oi := { dst := some 85, op := Op.binOp BinOp.eql 4 (Operand.tmp 81) (Operand.tmp 84) 4, type := 4, pos := "laws.go:544", after := #[{ on := 13, ground := Ground.data }, { on := 16, ground := Ground.data }, { on := 10, ground := Ground.guard }], guard := some (10, true) }) (v := .bool true) rfl (by kernel_rfl) (by kernel_rfl) (by kernel_rfl) (fun _ _ _ h => h) (Or.inl ⟨by rfl, ?_⟩) (by assumption) ?_
            · (intro wY hSw; (try dsimp only at hSw); go_simp; first | done | omega)
            simp only [Act.put, List.setIfInBounds_toArray, List.set_cons_zero, List.set_cons_succ]
            refine wpAnyH_take (i := 18) (oi := { dst := some 86, op := Op.pick (Operand.tmp 78) (Operand.tmp 85) (Operand.const (Value.bool false)), type := 4, pos := "laws.go:544", after := #[{ on := 10, ground := Ground.data }, { on := 17, ground := Ground.data }], guard := none }) (v := ?_) rfl (by kernel_rfl) (by kernel_rfl) (by kernel_rfl) (fun _ _ _ h => h) (Or.inl ⟨by rfl, ?_⟩) (by assumption) ?_
            rotate_left
            · (intro wY hSw; (try dsimp only at hSw); go_simp; try with_reducible rfl)
            simp only [Act.put, List.setIfInBounds_toArray, List.set_cons_zero, List.set_cons_succ]
            refine wpAnyH_take (i := 19) (oi := { dst := some 87, op := Op.move (Operand.tmp 86), type := 4, pos := "laws.go:544", after := #[{ on := 18, ground := Ground.data }, { on := 16, ground := Ground.chain }], guard := none }) (v := ?_) rfl (by kernel_rfl) (by kernel_rfl) (by kernel_rfl) (fun _ _ _ h => h) (Or.inl ⟨by rfl, ?_⟩) (by assumption) ?_
            rotate_left
            · (intro wY hSw; (try dsimp only at hSw); go_simp; try with_reducible rfl)
            simp only [Act.put, List.setIfInBounds_toArray, List.set_cons_zero, List.set_cons_succ]
            refine wpAnyH_take (i := 20) (oi := { dst := some 88, op := Op.move (Operand.tmp 10), type := 4, pos := "laws.go:544", after := #[{ on := 19, ground := Ground.guard }], guard := some (19, true) }) (v := ?_) rfl (by kernel_rfl) (by kernel_rfl) (by kernel_rfl) (fun _ _ _ h => h) (Or.inl ⟨by rfl, ?_⟩) (by assumption) ?_
            rotate_left
            · (intro wY hSw; (try dsimp only at hSw); go_simp; try with_reducible rfl)
            simp only [Act.put, List.setIfInBounds_toArray, List.set_cons_zero, List.set_cons_succ]
            refine wpAnyH_take (i := 21) (oi := { dst := some 89, op := Op.move (Operand.tmp 12), type := 4, pos := "laws.go:544", after := #[{ on := 19, ground := Ground.guard }], guard := some (19, true) }) (v := ?_) rfl (by kernel_rfl) (by kernel_rfl) (by kernel_rfl) (fun _ _ _ h => h) (Or.inl ⟨by rfl, ?_⟩) (by assumption) ?_
            rotate_left
            · (intro wY hSw; (try dsimp only at hSw); go_simp; try with_reducible rfl)
            simp only [Act.put, List.setIfInBounds_toArray, List.set_cons_zero, List.set_cons_succ]
            refine wpAnyH_take (i := 22) (oi := { dst := some 90, op := Op.binOp BinOp.eql 4 (Operand.tmp 88) (Operand.tmp 89) 4, type := 4, pos := "laws.go:544", after := #[{ on := 20, ground := Ground.data }, { on := 21, ground := Ground.data }, { on := 19, ground := Ground.guard }], guard := some (19, true) }) (v := .bool true) rfl (by kernel_rfl) (by kernel_rfl) (by kernel_rfl) (fun _ _ _ h => h) (Or.inl ⟨by rfl, ?_⟩) (by assumption) ?_
            · (intro wY hSw; (try dsimp only at hSw); go_simp; first | done | omega)
            simp only [Act.put, List.setIfInBounds_toArray, List.set_cons_zero, List.set_cons_succ]
            refine wpAnyH_take (i := 23) (oi := { dst := some 91, op := Op.pick (Operand.tmp 87) (Operand.tmp 90) (Operand.const (Value.bool false)), type := 4, pos := "laws.go:544", after := #[{ on := 19, ground := Ground.data }, { on := 22, ground := Ground.data }], guard := none }) (v := ?_) rfl (by kernel_rfl) (by kernel_rfl) (by kernel_rfl) (fun _ _ _ h => h) (Or.inl ⟨by rfl, ?_⟩) (by assumption) ?_
            rotate_left
            · (intro wY hSw; (try dsimp only at hSw); go_simp; try with_reducible rfl)
            simp only [Act.put, List.setIfInBounds_toArray, List.set_cons_zero, List.set_cons_succ]
            refine wpAnyH_take (i := 24) (oi := { dst := some 92, op := Op.move (Operand.tmp 91), type := 4, pos := "laws.go:544", after := #[{ on := 23, ground := Ground.data }, { on := 19, ground := Ground.chain }], guard := none }) (v := ?_) rfl (by kernel_rfl) (by kernel_rfl) (by kernel_rfl) (fun _ _ _ h => h) (Or.inl ⟨by rfl, ?_⟩) (by assumption) ?_
            rotate_left
            · (intro wY hSw; (try dsimp only at hSw); go_simp; try with_reducible rfl)
            simp only [Act.put, List.setIfInBounds_toArray, List.set_cons_zero, List.set_cons_succ]
            refine wpAnyH_take (i := 25) (oi := { dst := some 93, op := Op.move (Operand.tmp 17), type := 4, pos := "laws.go:544", after := #[{ on := 24, ground := Ground.guard }], guard := some (24, true) }) (v := ?_) rfl (by kernel_rfl) (by kernel_rfl) (by kernel_rfl) (fun _ _ _ h => h) (Or.inl ⟨by rfl, ?_⟩) (by assumption) ?_
            rotate_left
            · (intro wY hSw; (try dsimp only at hSw); go_simp; try with_reducible rfl)
            simp only [Act.put, List.setIfInBounds_toArray, List.set_cons_zero, List.set_cons_succ]
            refine wpAnyH_take (i := 26) (oi := { dst := some 94, op := Op.move (Operand.tmp 19), type := 4, pos := "laws.go:544", after := #[{ on := 24, ground := Ground.guard }], guard := some (24, true) }) (v := ?_) rfl (by kernel_rfl) (by kernel_rfl) (by kernel_rfl) (fun _ _ _ h => h) (Or.inl ⟨by rfl, ?_⟩) (by assumption) ?_
            rotate_left
            · (intro wY hSw; (try dsimp only at hSw); go_simp; try with_reducible rfl)
            simp only [Act.put, List.setIfInBounds_toArray, List.set_cons_zero, List.set_cons_succ]
            refine wpAnyH_take (i := 27) (oi := { dst := some 95, op := Op.binOp BinOp.eql 4 (Operand.tmp 93) (Operand.tmp 94) 4, type := 4, pos := "laws.go:544", after := #[{ on := 25, ground := Ground.data }, { on := 26, ground := Ground.data }, { on := 24, ground := Ground.guard }], guard := some (24, true) }) (v := .bool true) rfl (by kernel_rfl) (by kernel_rfl) (by kernel_rfl) (fun _ _ _ h => h) (Or.inl ⟨by rfl, ?_⟩) (by assumption) ?_
            · (intro wY hSw; (try dsimp only at hSw); go_simp; first | done | omega)
            simp only [Act.put, List.setIfInBounds_toArray, List.set_cons_zero, List.set_cons_succ]
            refine wpAnyH_take (i := 28) (oi := { dst := some 96, op := Op.pick (Operand.tmp 92) (Operand.tmp 95) (Operand.const (Value.bool false)), type := 4, pos := "laws.go:544", after := #[{ on := 24, ground := Ground.data }, { on := 27, ground := Ground.data }], guard := none }) (v := ?_) rfl (by kernel_rfl) (by kernel_rfl) (by kernel_rfl) (fun _ _ _ h => h) (Or.inl ⟨by rfl, ?_⟩) (by assumption) ?_
            rotate_left
            · (intro wY hSw; (try dsimp only at hSw); go_simp; try with_reducible rfl)
            simp only [Act.put, List.setIfInBounds_toArray, List.set_cons_zero, List.set_cons_succ]
            refine wpAnyH_take (i := 29) (oi := { dst := some 97, op := Op.move (Operand.tmp 96), type := 4, pos := "laws.go:544", after := #[{ on := 28, ground := Ground.data }, { on := 24, ground := Ground.chain }], guard := none }) (v := ?_) rfl (by kernel_rfl) (by kernel_rfl) (by kernel_rfl) (fun _ _ _ h => h) (Or.inl ⟨by rfl, ?_⟩) (by assumption) ?_
            rotate_left
            · (intro wY hSw; (try dsimp only at hSw); go_simp; try with_reducible rfl)
            simp only [Act.put, List.setIfInBounds_toArray, List.set_cons_zero, List.set_cons_succ]
            refine wpAnyH_take (i := 30) (oi := { dst := some 98, op := Op.load 27 (Operand.tmp 9), type := 27, pos := "laws.go:544", after := #[{ on := 29, ground := Ground.guard }], guard := some (29, true) }) (v := ?_) rfl (by kernel_rfl) (by kernel_rfl) (by kernel_rfl) (fun _ _ _ h => h) (Or.inl ⟨by rfl, ?_⟩) (by assumption) ?_
            rotate_left
            · (intro wY hSw; (try dsimp only at hSw); go_simp; try with_reducible rfl)
            simp only [Act.put, List.setIfInBounds_toArray, List.set_cons_zero, List.set_cons_succ]
            refine wpAnyH_take (i := 31) (oi := { dst := some 99, op := Op.load 27 (Operand.tmp 11), type := 27, pos := "laws.go:544", after := #[{ on := 29, ground := Ground.guard }], guard := some (29, true) }) (v := ?_) rfl (by kernel_rfl) (by kernel_rfl) (by kernel_rfl) (fun _ _ _ h => h) (Or.inl ⟨by rfl, ?_⟩) (by assumption) ?_
            rotate_left
            · (intro wY hSw; (try dsimp only at hSw); go_simp; try with_reducible rfl)
            simp only [Act.put, List.setIfInBounds_toArray, List.set_cons_zero, List.set_cons_succ]
            refine wpAnyH_ready (rs := [32]) (by kernel_rfl) (by simp) ?_
            refine AllReadyH.cons (o := { dst := some 100, op := Op.call { callee := Callee.value (Operand.func 13), args := #[Operand.tmp 98, Operand.tmp 99], argTypes := #[27, 27] }, type := 4, pos := "laws.go:544", after := #[{ on := 30, ground := Ground.data }, { on := 31, ground := Ground.data }, { on := 29, ground := Ground.chain }, { on := 29, ground := Ground.guard }], guard := some (29, true) }) rfl (fun K hK => ?_) ?_
            · go_simp
              refine (sameVtab_same _ _ _ _ _ _ _ _ _ _ _ _ DV.1 _ (t5.below vv).tab (t6.below vv).tab).mono ?_
              rintro e wx ⟨rfl, hbx⟩
              have vv := gr_trans vv hbx
              clear hbx
              go_wp2_with fail
              refine hK.out _ _ (⟨(cells2 (kept_block kV vv)).1, (cells2 (kept_block kW vv)).1, (cells2 (kept_block kX vv)).1, (cells2 (kept_block kY vv)).1, (cells2 (kept_block kP vv)).1, (cells2 (kept_block kQ vv)).1⟩) (fun hHeld => ?_)
              clear hK K
              try simp only [Act.put, List.setIfInBounds_toArray, List.set_cons_zero, List.set_cons_succ]
              refine wpAnyH_take (i := 33) (oi := { dst := some 101, op := Op.pick (Operand.tmp 97) (Operand.tmp 100) (Operand.const (Value.bool false)), type := 4, pos := "laws.go:544", after := #[{ on := 29, ground := Ground.data }, { on := 32, ground := Ground.data }], guard := none }) (v := ?_) rfl (by kernel_rfl) (by kernel_rfl) (by kernel_rfl) (fun _ _ _ h => h) (Or.inl ⟨by rfl, ?_⟩) (by assumption) ?_
              rotate_left
              · (intro wY hSw; (try dsimp only at hSw); go_simp; try with_reducible rfl)
              simp only [Act.put, List.setIfInBounds_toArray, List.set_cons_zero, List.set_cons_succ]
              refine wpAnyH_take (i := 34) (oi := { dst := some 102, op := Op.move (Operand.tmp 101), type := 4, pos := "laws.go:544", after := #[{ on := 33, ground := Ground.data }, { on := 32, ground := Ground.chain }], guard := none }) (v := ?_) rfl (by kernel_rfl) (by kernel_rfl) (by kernel_rfl) (fun _ _ _ h => h) (Or.inl ⟨by rfl, ?_⟩) (by assumption) ?_
              rotate_left
              · (intro wY hSw; (try dsimp only at hSw); go_simp; try with_reducible rfl)
              simp only [Act.put, List.setIfInBounds_toArray, List.set_cons_zero, List.set_cons_succ]
              refine wpAnyH_take (i := 35) (oi := { dst := some 103, op := Op.load 27 (Operand.tmp 16), type := 27, pos := "laws.go:544", after := #[{ on := 34, ground := Ground.guard }], guard := some (34, true) }) (v := ?_) rfl (by kernel_rfl) (by kernel_rfl) (by kernel_rfl) (fun _ _ _ h => h) (Or.inl ⟨by rfl, ?_⟩) (by assumption) ?_
              rotate_left
              · (intro wY hSw; (try dsimp only at hSw); go_simp; try with_reducible rfl)
              simp only [Act.put, List.setIfInBounds_toArray, List.set_cons_zero, List.set_cons_succ]
              refine wpAnyH_take (i := 36) (oi := { dst := some 104, op := Op.load 27 (Operand.tmp 18), type := 27, pos := "laws.go:544", after := #[{ on := 34, ground := Ground.guard }], guard := some (34, true) }) (v := ?_) rfl (by kernel_rfl) (by kernel_rfl) (by kernel_rfl) (fun _ _ _ h => h) (Or.inl ⟨by rfl, ?_⟩) (by assumption) ?_
              rotate_left
              · (intro wY hSw; (try dsimp only at hSw); go_simp; try with_reducible rfl)
              simp only [Act.put, List.setIfInBounds_toArray, List.set_cons_zero, List.set_cons_succ]
              refine wpAnyH_ready (rs := [37]) (by kernel_rfl) (by simp) ?_
              refine AllReadyH.cons (o := { dst := some 105, op := Op.call { callee := Callee.value (Operand.func 13), args := #[Operand.tmp 103, Operand.tmp 104], argTypes := #[27, 27] }, type := 4, pos := "laws.go:544", after := #[{ on := 35, ground := Ground.data }, { on := 36, ground := Ground.data }, { on := 34, ground := Ground.chain }, { on := 34, ground := Ground.guard }], guard := some (34, true) }) rfl (fun K hK => ?_) ?_
              · go_simp
                refine (sameVtab_same _ _ _ _ _ _ _ _ _ _ _ _ SV.1 _ (t8.below vv).tab (t9.below vv).tab).mono ?_
                rintro e wx ⟨rfl, hbx⟩
                have vv := gr_trans vv hbx
                clear hbx
                go_wp2_with fail
                refine hK.out _ _ (⟨(cells2 (kept_block kV vv)).1, (cells2 (kept_block kW vv)).1, (cells2 (kept_block kX vv)).1, (cells2 (kept_block kY vv)).1, (cells2 (kept_block kP vv)).1, (cells2 (kept_block kQ vv)).1⟩) (fun hHeld => ?_)
                clear hK K
                try simp only [Act.put, List.setIfInBounds_toArray, List.set_cons_zero, List.set_cons_succ]
                refine wpAnyH_take (i := 38) (oi := { dst := some 106, op := Op.pick (Operand.tmp 102) (Operand.tmp 105) (Operand.const (Value.bool false)), type := 4, pos := "laws.go:544", after := #[{ on := 34, ground := Ground.data }, { on := 37, ground := Ground.data }], guard := none }) (v := ?_) rfl (by kernel_rfl) (by kernel_rfl) (by kernel_rfl) (fun _ _ _ h => h) (Or.inl ⟨by rfl, ?_⟩) (by assumption) ?_
                rotate_left
                · (intro wY hSw; (try dsimp only at hSw); go_simp; try with_reducible rfl)
                simp only [Act.put, List.setIfInBounds_toArray, List.set_cons_zero, List.set_cons_succ]
                refine wpAnyH_take (i := 39) (oi := { dst := some 107, op := Op.move (Operand.tmp 106), type := 4, pos := "laws.go:544", after := #[{ on := 38, ground := Ground.data }, { on := 37, ground := Ground.chain }], guard := none }) (v := ?_) rfl (by kernel_rfl) (by kernel_rfl) (by kernel_rfl) (fun _ _ _ h => h) (Or.inl ⟨by rfl, ?_⟩) (by assumption) ?_
                rotate_left
                · (intro wY hSw; (try dsimp only at hSw); go_simp; try with_reducible rfl)
                simp only [Act.put, List.setIfInBounds_toArray, List.set_cons_zero, List.set_cons_succ]
                refine wpAnyH_take (i := 40) (oi := { dst := some 108, op := Op.load 27 (Operand.tmp 4), type := 27, pos := "laws.go:544", after := #[{ on := 39, ground := Ground.guard }], guard := some (39, true) }) (v := ?_) rfl (by kernel_rfl) (by kernel_rfl) (by kernel_rfl) (fun _ _ _ h => h) (Or.inl ⟨by rfl, ?_⟩) (by assumption) ?_
                rotate_left
                · (intro wY hSw; (try dsimp only at hSw); go_simp; try with_reducible rfl)
                simp only [Act.put, List.setIfInBounds_toArray, List.set_cons_zero, List.set_cons_succ]
                refine wpAnyH_take (i := 41) (oi := { dst := some 109, op := Op.move (Operand.tmp 3), type := 3, pos := "laws.go:544", after := #[{ on := 39, ground := Ground.guard }], guard := some (39, true) }) (v := ?_) rfl (by kernel_rfl) (by kernel_rfl) (by kernel_rfl) (fun _ _ _ h => h) (Or.inl ⟨by rfl, ?_⟩) (by assumption) ?_
                rotate_left
                · (intro wY hSw; (try dsimp only at hSw); go_simp; try with_reducible rfl)
                simp only [Act.put, List.setIfInBounds_toArray, List.set_cons_zero, List.set_cons_succ]
                refine wpAnyH_ready (rs := [42]) (by kernel_rfl) (by simp) ?_
                refine AllReadyH.cons (o := { dst := some 110, op := Op.call { callee := Callee.value (Operand.func 27), args := #[Operand.tmp 109], argTypes := #[3] }, type := 27, pos := "laws.go:544", after := #[{ on := 41, ground := Ground.data }, { on := 39, ground := Ground.chain }, { on := 39, ground := Ground.guard }], guard := some (39, true) }) rfl (fun K hK => ?_) ?_
                · go_simp
                  refine (specVtabNew_made nn _).mono ?_
                  rintro e wx ⟨a10, n10, c10, o10, p10, q10, rfl, t10, hbx⟩
                  have vv := gr_trans vv hbx
                  clear hbx
                  go_wp2_with fail
                  refine hK.out _ _ (⟨(cells2 (kept_block kV vv)).1, (cells2 (kept_block kW vv)).1, (cells2 (kept_block kX vv)).1, (cells2 (kept_block kY vv)).1, (cells2 (kept_block kP vv)).1, (cells2 (kept_block kQ vv)).1⟩) (fun hHeld => ?_)
                  clear hK K
                  try simp only [Act.put, List.setIfInBounds_toArray, List.set_cons_zero, List.set_cons_succ]
                  refine wpAnyH_ready (rs := [43]) (by kernel_rfl) (by simp) ?_
                  refine AllReadyH.cons (o := { dst := some 111, op := Op.call { callee := Callee.value (Operand.func 13), args := #[Operand.tmp 108, Operand.tmp 110], argTypes := #[27, 27] }, type := 4, pos := "laws.go:544", after := #[{ on := 40, ground := Ground.data }, { on := 42, ground := Ground.data }, { on := 42, ground := Ground.chain }, { on := 39, ground := Ground.guard }], guard := some (39, true) }) rfl (fun K hK => ?_) ?_
                  · go_simp
                    refine (sameVtab_same _ _ _ _ _ _ _ _ _ _ _ _ (vtabNew nn) _ (t2.below vv).tab t10.tab).mono ?_
                    rintro e wx ⟨rfl, hbx⟩
                    have vv := gr_trans vv hbx
                    clear hbx
                    clear t10
                    go_wp2_with fail
                    refine hK.out _ _ (⟨(cells2 (kept_block kV vv)).1, (cells2 (kept_block kW vv)).1, (cells2 (kept_block kX vv)).1, (cells2 (kept_block kY vv)).1, (cells2 (kept_block kP vv)).1, (cells2 (kept_block kQ vv)).1⟩) (fun hHeld => ?_)
                    clear hK K
                    try simp only [Act.put, List.setIfInBounds_toArray, List.set_cons_zero, List.set_cons_succ]
                    refine wpAnyH_take (i := 44) (oi := { dst := some 112, op := Op.pick (Operand.tmp 107) (Operand.tmp 111) (Operand.const (Value.bool false)), type := 4, pos := "laws.go:544", after := #[{ on := 39, ground := Ground.data }, { on := 43, ground := Ground.data }], guard := none }) (v := ?_) rfl (by kernel_rfl) (by kernel_rfl) (by kernel_rfl) (fun _ _ _ h => h) (Or.inl ⟨by rfl, ?_⟩) (by assumption) ?_
                    rotate_left
                    · (intro wY hSw; (try dsimp only at hSw); go_simp; try with_reducible rfl)
                    simp only [Act.put, List.setIfInBounds_toArray, List.set_cons_zero, List.set_cons_succ]
                    refine wpAnyH_take (i := 45) (oi := { dst := some 2, op := Op.assign (Operand.tmp 112), type := 4, pos := "laws.go:544", after := #[{ on := 44, ground := Ground.data }, { on := 43, ground := Ground.chain }, { on := 0, ground := Ground.phase }, { on := 1, ground := Ground.phase }, { on := 2, ground := Ground.phase }, { on := 3, ground := Ground.phase }, { on := 4, ground := Ground.phase }, { on := 5, ground := Ground.phase }, { on := 6, ground := Ground.phase }, { on := 7, ground := Ground.phase }, { on := 8, ground := Ground.phase }, { on := 9, ground := Ground.phase }, { on := 10, ground := Ground.phase }, { on := 11, ground := Ground.phase }, { on := 12, ground := Ground.phase }, { on := 13, ground := Ground.phase }, { on := 14, ground := Ground.phase }, { on := 15, ground := Ground.phase }, { on := 16, ground := Ground.phase }, { on := 17, ground := Ground.phase }, { on := 18, ground := Ground.phase }, { on := 19, ground := Ground.phase }, { on := 20, ground := Ground.phase }, { on := 21, ground := Ground.phase }, { on := 22, ground := Ground.phase }, { on := 23, ground := Ground.phase }, { on := 24, ground := Ground.phase }, { on := 25, ground := Ground.phase }, { on := 26, ground := Ground.phase }, { on := 27, ground := Ground.phase }, { on := 28, ground := Ground.phase }, { on := 29, ground := Ground.phase }, { on := 30, ground := Ground.phase }, { on := 31, ground := Ground.phase }, { on := 32, ground := Ground.phase }, { on := 33, ground := Ground.phase }, { on := 34, ground := Ground.phase }, { on := 35, ground := Ground.phase }, { on := 36, ground := Ground.phase }, { on := 37, ground := Ground.phase }, { on := 38, ground := Ground.phase }, { on := 39, ground := Ground.phase }, { on := 40, ground := Ground.phase }, { on := 41, ground := Ground.phase }, { on := 42, ground := Ground.phase }, { on := 43, ground := Ground.phase }, { on := 44, ground := Ground.phase }], guard := none }) (v := ?_) rfl (by kernel_rfl) (by kernel_rfl) (by kernel_rfl) (fun _ _ _ h => h) (Or.inl ⟨by rfl, ?_⟩) (by assumption) ?_
                    rotate_left
                    · (intro wY hSw; (try dsimp only at hSw); go_simp; try with_reducible rfl)
                    simp only [Act.put, List.setIfInBounds_toArray, List.set_cons_zero, List.set_cons_succ]
                    refine wpAnyH_done (by kernel_rfl) ?_ _
                    have HB := hide (gr_trans u vv)
                    clear hHeld vv
                    go_wp2
                    go_ret
                    exact ⟨rfl, HB.out⟩
                  exact AllReadyH.nil
                exact AllReadyH.nil
              exact AllReadyH.nil
            exact AllReadyH.nil
          exact AllReadyH.nil
        exact AllReadyH.nil
      exact AllReadyH.nil
  · have HN : Hid (vtabOk (vtabNew nn) nn = false) := hide (by rw [hok]; simp [hn1])
    clear hok
    go_wp2_with fail
    refine wp_region_held_drew (S := (fun W => (W.cell? ⟨w2.heap.size, 0, none⟩ = some (.slice a2 n2 c2) ∧ W.cell? ⟨w2.heap.size, 1, none⟩ = some (.slice o2 p2 q2)) ∧ (W.cell? ⟨w3.heap.size, 0, none⟩ = some (.slice a3 n3 c3) ∧ W.cell? ⟨w3.heap.size, 1, none⟩ = some (.slice o3 p3 q3)) ∧ (W.cell? ⟨w5.heap.size, 0, none⟩ = some (.slice a5 n5 c5) ∧ W.cell? ⟨w5.heap.size, 1, none⟩ = some (.slice o5 p5 q5)) ∧ (W.cell? ⟨w6.heap.size, 0, none⟩ = some (.slice a6 n6 c6) ∧ W.cell? ⟨w6.heap.size, 1, none⟩ = some (.slice o6 p6 q6)) ∧ (W.cell? ⟨w8.heap.size, 0, none⟩ = some (.slice a8 n8 c8) ∧ W.cell? ⟨w8.heap.size, 1, none⟩ = some (.slice o8 p8 q8)) ∧ (W.cell? ⟨w9.heap.size, 0, none⟩ = some (.slice a9 n9 c9) ∧ W.cell? ⟨w9.heap.size, 1, none⟩ = some (.slice o9 p9 q9)))) (by kernel_rfl) (⟨(cells2 (kept_block kV vv)).1, (cells2 (kept_block kW vv)).1, (cells2 (kept_block kX vv)).1, (cells2 (kept_block kY vv)).1, (cells2 (kept_block kP vv)).1, (cells2 (kept_block kQ vv)).1⟩) (fun hHeld => ?_)
    refine wpAnyH_take (i := 0) (oi := { dst := some 68, op := Op.load 27 (Operand.tmp 4), type := 27, pos := "laws.go:544", after := #[], guard := none }) (v := ?_) rfl (by kernel_rfl) (by kernel_rfl) (by kernel_rfl) (fun _ _ _ h => h) (Or.inl ⟨by rfl, ?_⟩) (by assumption) ?_
    rotate_left
    · (intro wY hSw; (try dsimp only at hSw); go_simp; try with_reducible rfl)
    simp only [Act.put, List.setIfInBounds_toArray, List.set_cons_zero, List.set_cons_succ]
    refine wpAnyH_take (i := 1) (oi := { dst := some 69, op := Op.move (Operand.tmp 3), type := 3, pos := "laws.go:544", after := #[], guard := none }) (v := ?_) rfl (by kernel_rfl) (by kernel_rfl) (by kernel_rfl) (fun _ _ _ h => h) (Or.inl ⟨by rfl, ?_⟩) (by assumption) ?_
    rotate_left
    · (intro wY hSw; (try dsimp only at hSw); go_simp; try with_reducible rfl)
    simp only [Act.put, List.setIfInBounds_toArray, List.set_cons_zero, List.set_cons_succ]
    refine wpAnyH_take (i := 3) (oi := { dst := some 71, op := Op.move (Operand.tmp 3), type := 3, pos := "laws.go:544", after := #[], guard := none }) (v := ?_) rfl (by kernel_rfl) (by kernel_rfl) (by kernel_rfl) (fun _ _ _ h => h) (Or.inl ⟨by rfl, ?_⟩) (by assumption) ?_
    rotate_left
    · (intro wY hSw; (try dsimp only at hSw); go_simp; try with_reducible rfl)
    simp only [Act.put, List.setIfInBounds_toArray, List.set_cons_zero, List.set_cons_succ]
    refine wpAnyH_take (i := 4) (oi := { dst := some 72, op := Op.binOp BinOp.geq 3 (Operand.tmp 71) (Operand.const (Value.int IntKind.i64 1)) 3, type := 4, pos := "laws.go:544", after := #[{ on := 3, ground := Ground.data }], guard := none }) (v := .bool false) rfl (by kernel_rfl) (by kernel_rfl) (by kernel_rfl) (fun _ _ _ h => h) (Or.inl ⟨by rfl, ?_⟩) (by assumption) ?_
    · (intro wY hSw; (try dsimp only at hSw); go_simp; first | done | omega)
    simp only [Act.put, List.setIfInBounds_toArray, List.set_cons_zero, List.set_cons_succ]
    refine wpAnyH_ready (rs := [2]) (by kernel_rfl) (by simp) ?_
    refine AllReadyH.cons (o := { dst := some 70, op := Op.call { callee := Callee.value (Operand.func 16), args := #[Operand.tmp 68, Operand.tmp 69], argTypes := #[27, 3] }, type := 4, pos := "laws.go:544", after := #[{ on := 0, ground := Ground.data }, { on := 1, ground := Ground.data }], guard := none }) rfl (fun K hK => ?_) ?_
    · go_simp
      refine (implVtabOk_any _ _ _ _ _ _ (vtabNew nn) nn _ (t2.below vv).tab RV.out).mono ?_
      rintro e wx ⟨rfl, hbx⟩
      rw [HN.out]
      have vv := gr_trans vv hbx
      clear hbx
      go_wp2_with fail
      refine hK.out _ _ (⟨(cells2 (kept_block kV vv)).1, (cells2 (kept_block kW vv)).1, (cells2 (kept_block kX vv)).1, (cells2 (kept_block kY vv)).1, (cells2 (kept_block kP vv)).1, (cells2 (kept_block kQ vv)).1⟩) (fun hHeld => ?_)
      clear hK K
      try simp only [Act.put, List.setIfInBounds_toArray, List.set_cons_zero, List.set_cons_succ]
      refine wpAnyH_take (i := 5) (oi := { dst := some 73, op := Op.move (Operand.tmp 72), type := 4, pos := "laws.go:544", after := #[{ on := 4, ground := Ground.data }, { on := 2, ground := Ground.chain }], guard := none }) (v := ?_) rfl (by kernel_rfl) (by kernel_rfl) (by kernel_rfl) (fun _ _ _ h => h) (Or.inl ⟨by rfl, ?_⟩) (by assumption) ?_
      rotate_left
      · (intro wY hSw; (try dsimp only at hSw); go_simp; try with_reducible rfl)
      simp only [Act.put, List.setIfInBounds_toArray, List.set_cons_zero, List.set_cons_succ]
      refine wpAnyH_take (i := 6) (oi := { dst := some 74, op := Op.move (Operand.tmp 3), type := 3, pos := "laws.go:544", after := #[{ on := 5, ground := Ground.guard }], guard := some (5, true) }) (v := undef) rfl (by kernel_rfl) (by kernel_rfl) (by kernel_rfl) (fun _ _ _ h => h) (Or.inr ⟨by rfl, rfl⟩) (by assumption) ?_
      simp only [Act.put, List.setIfInBounds_toArray, List.set_cons_zero, List.set_cons_succ]
      refine wpAnyH_take (i := 7) (oi := { dst := some 75, op := Op.binOp BinOp.leq 3 (Operand.tmp 74) (Operand.const (Value.int IntKind.i64 6)) 3, type := 4, pos := "laws.go:544", after := #[{ on := 6, ground := Ground.data }, { on := 5, ground := Ground.guard }], guard := some (5, true) }) (v := undef) rfl (by kernel_rfl) (by kernel_rfl) (by kernel_rfl) (fun _ _ _ h => h) (Or.inr ⟨by rfl, rfl⟩) (by assumption) ?_
      simp only [Act.put, List.setIfInBounds_toArray, List.set_cons_zero, List.set_cons_succ]
      refine wpAnyH_take (i := 8) (oi := { dst := some 76, op := Op.pick (Operand.tmp 73) (Operand.tmp 75) (Operand.const (Value.bool false)), type := 4, pos := "laws.go:544", after := #[{ on := 5, ground := Ground.data }, { on := 7, ground := Ground.data }], guard := none }) (v := ?_) rfl (by kernel_rfl) (by kernel_rfl) (by kernel_rfl) (fun _ _ _ h => h) (Or.inl ⟨by rfl, ?_⟩) (by assumption) ?_
      rotate_left
      · (intro wY hSw; (try dsimp only at hSw); go_simp; try with_reducible rfl)
      simp only [Act.put, List.setIfInBounds_toArray, List.set_cons_zero, List.set_cons_succ]
      refine wpAnyH_take (i := 9) (oi := { dst := some 77, op := Op.binOp BinOp.eql 4 (Operand.tmp 70) (Operand.tmp 76) 4, type := 4, pos := "laws.go:544", after := #[{ on := 2, ground := Ground.data }, { on := 8, ground := Ground.data }], guard := none }) (v := .bool true) rfl (by kernel_rfl) (by kernel_rfl) (by kernel_rfl) (fun _ _ _ h => h) (Or.inl ⟨by rfl, ?_⟩) (by assumption) ?_
      · (intro wY hSw; (try dsimp only at hSw); go_simp; first | done | omega)
      simp only [Act.put, List.setIfInBounds_toArray, List.set_cons_zero, List.set_cons_succ]
      refine wpAnyH_take (i := 10) (oi := { dst := some 78, op := Op.move (Operand.tmp 77), type := 4, pos := "laws.go:544", after := #[{ on := 9, ground := Ground.data }, { on := 5, ground := Ground.chain }], guard := none }) (v := ?_) rfl (by kernel_rfl) (by kernel_rfl) (by kernel_rfl) (fun _ _ _ h => h) (Or.inl ⟨by rfl, ?_⟩) (by assumption) ?_
      rotate_left
      · (intro wY hSw; (try dsimp only at hSw); go_simp; try with_reducible rfl)
      simp only [Act.put, List.setIfInBounds_toArray, List.set_cons_zero, List.set_cons_succ]
      refine wpAnyH_take (i := 11) (oi := { dst := some 79, op := Op.load 27 (Operand.tmp 5), type := 27, pos := "laws.go:544", after := #[{ on := 10, ground := Ground.guard }], guard := some (10, true) }) (v := ?_) rfl (by kernel_rfl) (by kernel_rfl) (by kernel_rfl) (fun _ _ _ h => h) (Or.inl ⟨by rfl, ?_⟩) (by assumption) ?_
      rotate_left
      · (intro wY hSw; (try dsimp only at hSw); go_simp; try with_reducible rfl)
      simp only [Act.put, List.setIfInBounds_toArray, List.set_cons_zero, List.set_cons_succ]
      refine wpAnyH_take (i := 12) (oi := { dst := some 80, op := Op.move (Operand.tmp 6), type := 3, pos := "laws.go:544", after := #[{ on := 10, ground := Ground.guard }], guard := some (10, true) }) (v := ?_) rfl (by kernel_rfl) (by kernel_rfl) (by kernel_rfl) (fun _ _ _ h => h) (Or.inl ⟨by rfl, ?_⟩) (by assumption) ?_
      rotate_left
      · (intro wY hSw; (try dsimp only at hSw); go_simp; try with_reducible rfl)
      simp only [Act.put, List.setIfInBounds_toArray, List.set_cons_zero, List.set_cons_succ]
      refine wpAnyH_take (i := 14) (oi := { dst := some 82, op := Op.load 27 (Operand.tmp 5), type := 27, pos := "laws.go:544", after := #[{ on := 10, ground := Ground.guard }], guard := some (10, true) }) (v := ?_) rfl (by kernel_rfl) (by kernel_rfl) (by kernel_rfl) (fun _ _ _ h => h) (Or.inl ⟨by rfl, ?_⟩) (by assumption) ?_
      rotate_left
      · (intro wY hSw; (try dsimp only at hSw); go_simp; try with_reducible rfl)
      simp only [Act.put, List.setIfInBounds_toArray, List.set_cons_zero, List.set_cons_succ]
      refine wpAnyH_take (i := 15) (oi := { dst := some 83, op := Op.move (Operand.tmp 6), type := 3, pos := "laws.go:544", after := #[{ on := 10, ground := Ground.guard }], guard := some (10, true) }) (v := ?_) rfl (by kernel_rfl) (by kernel_rfl) (by kernel_rfl) (fun _ _ _ h => h) (Or.inl ⟨by rfl, ?_⟩) (by assumption) ?_
      rotate_left
      · (intro wY hSw; (try dsimp only at hSw); go_simp; try with_reducible rfl)
      simp only [Act.put, List.setIfInBounds_toArray, List.set_cons_zero, List.set_cons_succ]
      refine wpAnyH_ready (rs := [13]) (by kernel_rfl) (by simp) ?_
      refine AllReadyH.cons (o := { dst := some 81, op := Op.call { callee := Callee.value (Operand.func 16), args := #[Operand.tmp 79, Operand.tmp 80], argTypes := #[27, 3] }, type := 4, pos := "laws.go:544", after := #[{ on := 11, ground := Ground.data }, { on := 12, ground := Ground.data }, { on := 10, ground := Ground.chain }, { on := 10, ground := Ground.guard }], guard := some (10, true) }) rfl (fun K hK => ?_) ?_
      · go_simp
        refine (implVtabOk_any _ _ _ _ _ _ v3 ports _ (t3.below vv).tab R3.out).mono ?_
        rintro e wx ⟨rfl, hbx⟩
        rw [HOK.out]
        have vv := gr_trans vv hbx
        clear hbx
        go_wp2_with fail
        refine hK.out _ _ (⟨(cells2 (kept_block kV vv)).1, (cells2 (kept_block kW vv)).1, (cells2 (kept_block kX vv)).1, (cells2 (kept_block kY vv)).1, (cells2 (kept_block kP vv)).1, (cells2 (kept_block kQ vv)).1⟩) (fun hHeld => ?_)
        clear hK K
        try simp only [Act.put, List.setIfInBounds_toArray, List.set_cons_zero, List.set_cons_succ]
        refine wpAnyH_ready (rs := [16]) (by kernel_rfl) (by simp) ?_
        refine AllReadyH.cons (o := { dst := some 84, op := Op.call { callee := Callee.value (Operand.func 26), args := #[Operand.tmp 82, Operand.tmp 83], argTypes := #[27, 3] }, type := 4, pos := "laws.go:544", after := #[{ on := 14, ground := Ground.data }, { on := 15, ground := Ground.data }, { on := 13, ground := Ground.chain }, { on := 10, ground := Ground.guard }], guard := some (10, true) }) rfl (fun K hK => ?_) ?_
        · go_simp
          refine (specVtabOk_any _ _ _ _ _ _ v3 ports _ (t3.below vv).tab).mono ?_
          rintro e wx ⟨rfl, hbx⟩
          rw [HOK.out]
          have vv := gr_trans vv hbx
          clear hbx
          go_wp2_with fail
          refine hK.out _ _ (⟨(cells2 (kept_block kV vv)).1, (cells2 (kept_block kW vv)).1, (cells2 (kept_block kX vv)).1, (cells2 (kept_block kY vv)).1, (cells2 (kept_block kP vv)).1, (cells2 (kept_block kQ vv)).1⟩) (fun hHeld => ?_)
          clear hK K
          try simp only [Act.put, List.setIfInBounds_toArray, List.set_cons_zero, List.set_cons_succ]
          refine wpAnyH_take (i := 17) (oi := { dst := some 85, op := Op.binOp BinOp.eql 4 (Operand.tmp 81) (Operand.tmp 84) 4, type := 4, pos := "laws.go:544", after := #[{ on := 13, ground := Ground.data }, { on := 16, ground := Ground.data }, { on := 10, ground := Ground.guard }], guard := some (10, true) }) (v := .bool true) rfl (by kernel_rfl) (by kernel_rfl) (by kernel_rfl) (fun _ _ _ h => h) (Or.inl ⟨by rfl, ?_⟩) (by assumption) ?_
          · (intro wY hSw; (try dsimp only at hSw); go_simp; first | done | omega)
          simp only [Act.put, List.setIfInBounds_toArray, List.set_cons_zero, List.set_cons_succ]
          refine wpAnyH_take (i := 18) (oi := { dst := some 86, op := Op.pick (Operand.tmp 78) (Operand.tmp 85) (Operand.const (Value.bool false)), type := 4, pos := "laws.go:544", after := #[{ on := 10, ground := Ground.data }, { on := 17, ground := Ground.data }], guard := none }) (v := ?_) rfl (by kernel_rfl) (by kernel_rfl) (by kernel_rfl) (fun _ _ _ h => h) (Or.inl ⟨by rfl, ?_⟩) (by assumption) ?_
          rotate_left
          · (intro wY hSw; (try dsimp only at hSw); go_simp; try with_reducible rfl)
          simp only [Act.put, List.setIfInBounds_toArray, List.set_cons_zero, List.set_cons_succ]
          refine wpAnyH_take (i := 19) (oi := { dst := some 87, op := Op.move (Operand.tmp 86), type := 4, pos := "laws.go:544", after := #[{ on := 18, ground := Ground.data }, { on := 16, ground := Ground.chain }], guard := none }) (v := ?_) rfl (by kernel_rfl) (by kernel_rfl) (by kernel_rfl) (fun _ _ _ h => h) (Or.inl ⟨by rfl, ?_⟩) (by assumption) ?_
          rotate_left
          · (intro wY hSw; (try dsimp only at hSw); go_simp; try with_reducible rfl)
          simp only [Act.put, List.setIfInBounds_toArray, List.set_cons_zero, List.set_cons_succ]
          refine wpAnyH_take (i := 20) (oi := { dst := some 88, op := Op.move (Operand.tmp 10), type := 4, pos := "laws.go:544", after := #[{ on := 19, ground := Ground.guard }], guard := some (19, true) }) (v := ?_) rfl (by kernel_rfl) (by kernel_rfl) (by kernel_rfl) (fun _ _ _ h => h) (Or.inl ⟨by rfl, ?_⟩) (by assumption) ?_
          rotate_left
          · (intro wY hSw; (try dsimp only at hSw); go_simp; try with_reducible rfl)
          simp only [Act.put, List.setIfInBounds_toArray, List.set_cons_zero, List.set_cons_succ]
          refine wpAnyH_take (i := 21) (oi := { dst := some 89, op := Op.move (Operand.tmp 12), type := 4, pos := "laws.go:544", after := #[{ on := 19, ground := Ground.guard }], guard := some (19, true) }) (v := ?_) rfl (by kernel_rfl) (by kernel_rfl) (by kernel_rfl) (fun _ _ _ h => h) (Or.inl ⟨by rfl, ?_⟩) (by assumption) ?_
          rotate_left
          · (intro wY hSw; (try dsimp only at hSw); go_simp; try with_reducible rfl)
          simp only [Act.put, List.setIfInBounds_toArray, List.set_cons_zero, List.set_cons_succ]
          refine wpAnyH_take (i := 22) (oi := { dst := some 90, op := Op.binOp BinOp.eql 4 (Operand.tmp 88) (Operand.tmp 89) 4, type := 4, pos := "laws.go:544", after := #[{ on := 20, ground := Ground.data }, { on := 21, ground := Ground.data }, { on := 19, ground := Ground.guard }], guard := some (19, true) }) (v := .bool true) rfl (by kernel_rfl) (by kernel_rfl) (by kernel_rfl) (fun _ _ _ h => h) (Or.inl ⟨by rfl, ?_⟩) (by assumption) ?_
          · (intro wY hSw; (try dsimp only at hSw); go_simp; first | done | omega)
          simp only [Act.put, List.setIfInBounds_toArray, List.set_cons_zero, List.set_cons_succ]
          refine wpAnyH_take (i := 23) (oi := { dst := some 91, op := Op.pick (Operand.tmp 87) (Operand.tmp 90) (Operand.const (Value.bool false)), type := 4, pos := "laws.go:544", after := #[{ on := 19, ground := Ground.data }, { on := 22, ground := Ground.data }], guard := none }) (v := ?_) rfl (by kernel_rfl) (by kernel_rfl) (by kernel_rfl) (fun _ _ _ h => h) (Or.inl ⟨by rfl, ?_⟩) (by assumption) ?_
          rotate_left
          · (intro wY hSw; (try dsimp only at hSw); go_simp; try with_reducible rfl)
          simp only [Act.put, List.setIfInBounds_toArray, List.set_cons_zero, List.set_cons_succ]
          refine wpAnyH_take (i := 24) (oi := { dst := some 92, op := Op.move (Operand.tmp 91), type := 4, pos := "laws.go:544", after := #[{ on := 23, ground := Ground.data }, { on := 19, ground := Ground.chain }], guard := none }) (v := ?_) rfl (by kernel_rfl) (by kernel_rfl) (by kernel_rfl) (fun _ _ _ h => h) (Or.inl ⟨by rfl, ?_⟩) (by assumption) ?_
          rotate_left
          · (intro wY hSw; (try dsimp only at hSw); go_simp; try with_reducible rfl)
          simp only [Act.put, List.setIfInBounds_toArray, List.set_cons_zero, List.set_cons_succ]
          refine wpAnyH_take (i := 25) (oi := { dst := some 93, op := Op.move (Operand.tmp 17), type := 4, pos := "laws.go:544", after := #[{ on := 24, ground := Ground.guard }], guard := some (24, true) }) (v := ?_) rfl (by kernel_rfl) (by kernel_rfl) (by kernel_rfl) (fun _ _ _ h => h) (Or.inl ⟨by rfl, ?_⟩) (by assumption) ?_
          rotate_left
          · (intro wY hSw; (try dsimp only at hSw); go_simp; try with_reducible rfl)
          simp only [Act.put, List.setIfInBounds_toArray, List.set_cons_zero, List.set_cons_succ]
          refine wpAnyH_take (i := 26) (oi := { dst := some 94, op := Op.move (Operand.tmp 19), type := 4, pos := "laws.go:544", after := #[{ on := 24, ground := Ground.guard }], guard := some (24, true) }) (v := ?_) rfl (by kernel_rfl) (by kernel_rfl) (by kernel_rfl) (fun _ _ _ h => h) (Or.inl ⟨by rfl, ?_⟩) (by assumption) ?_
          rotate_left
          · (intro wY hSw; (try dsimp only at hSw); go_simp; try with_reducible rfl)
          simp only [Act.put, List.setIfInBounds_toArray, List.set_cons_zero, List.set_cons_succ]
          refine wpAnyH_take (i := 27) (oi := { dst := some 95, op := Op.binOp BinOp.eql 4 (Operand.tmp 93) (Operand.tmp 94) 4, type := 4, pos := "laws.go:544", after := #[{ on := 25, ground := Ground.data }, { on := 26, ground := Ground.data }, { on := 24, ground := Ground.guard }], guard := some (24, true) }) (v := .bool true) rfl (by kernel_rfl) (by kernel_rfl) (by kernel_rfl) (fun _ _ _ h => h) (Or.inl ⟨by rfl, ?_⟩) (by assumption) ?_
          · (intro wY hSw; (try dsimp only at hSw); go_simp; first | done | omega)
          simp only [Act.put, List.setIfInBounds_toArray, List.set_cons_zero, List.set_cons_succ]
          refine wpAnyH_take (i := 28) (oi := { dst := some 96, op := Op.pick (Operand.tmp 92) (Operand.tmp 95) (Operand.const (Value.bool false)), type := 4, pos := "laws.go:544", after := #[{ on := 24, ground := Ground.data }, { on := 27, ground := Ground.data }], guard := none }) (v := ?_) rfl (by kernel_rfl) (by kernel_rfl) (by kernel_rfl) (fun _ _ _ h => h) (Or.inl ⟨by rfl, ?_⟩) (by assumption) ?_
          rotate_left
          · (intro wY hSw; (try dsimp only at hSw); go_simp; try with_reducible rfl)
          simp only [Act.put, List.setIfInBounds_toArray, List.set_cons_zero, List.set_cons_succ]
          refine wpAnyH_take (i := 29) (oi := { dst := some 97, op := Op.move (Operand.tmp 96), type := 4, pos := "laws.go:544", after := #[{ on := 28, ground := Ground.data }, { on := 24, ground := Ground.chain }], guard := none }) (v := ?_) rfl (by kernel_rfl) (by kernel_rfl) (by kernel_rfl) (fun _ _ _ h => h) (Or.inl ⟨by rfl, ?_⟩) (by assumption) ?_
          rotate_left
          · (intro wY hSw; (try dsimp only at hSw); go_simp; try with_reducible rfl)
          simp only [Act.put, List.setIfInBounds_toArray, List.set_cons_zero, List.set_cons_succ]
          refine wpAnyH_take (i := 30) (oi := { dst := some 98, op := Op.load 27 (Operand.tmp 9), type := 27, pos := "laws.go:544", after := #[{ on := 29, ground := Ground.guard }], guard := some (29, true) }) (v := ?_) rfl (by kernel_rfl) (by kernel_rfl) (by kernel_rfl) (fun _ _ _ h => h) (Or.inl ⟨by rfl, ?_⟩) (by assumption) ?_
          rotate_left
          · (intro wY hSw; (try dsimp only at hSw); go_simp; try with_reducible rfl)
          simp only [Act.put, List.setIfInBounds_toArray, List.set_cons_zero, List.set_cons_succ]
          refine wpAnyH_take (i := 31) (oi := { dst := some 99, op := Op.load 27 (Operand.tmp 11), type := 27, pos := "laws.go:544", after := #[{ on := 29, ground := Ground.guard }], guard := some (29, true) }) (v := ?_) rfl (by kernel_rfl) (by kernel_rfl) (by kernel_rfl) (fun _ _ _ h => h) (Or.inl ⟨by rfl, ?_⟩) (by assumption) ?_
          rotate_left
          · (intro wY hSw; (try dsimp only at hSw); go_simp; try with_reducible rfl)
          simp only [Act.put, List.setIfInBounds_toArray, List.set_cons_zero, List.set_cons_succ]
          refine wpAnyH_ready (rs := [32]) (by kernel_rfl) (by simp) ?_
          refine AllReadyH.cons (o := { dst := some 100, op := Op.call { callee := Callee.value (Operand.func 13), args := #[Operand.tmp 98, Operand.tmp 99], argTypes := #[27, 27] }, type := 4, pos := "laws.go:544", after := #[{ on := 30, ground := Ground.data }, { on := 31, ground := Ground.data }, { on := 29, ground := Ground.chain }, { on := 29, ground := Ground.guard }], guard := some (29, true) }) rfl (fun K hK => ?_) ?_
          · go_simp
            refine (sameVtab_same _ _ _ _ _ _ _ _ _ _ _ _ DV.1 _ (t5.below vv).tab (t6.below vv).tab).mono ?_
            rintro e wx ⟨rfl, hbx⟩
            have vv := gr_trans vv hbx
            clear hbx
            go_wp2_with fail
            refine hK.out _ _ (⟨(cells2 (kept_block kV vv)).1, (cells2 (kept_block kW vv)).1, (cells2 (kept_block kX vv)).1, (cells2 (kept_block kY vv)).1, (cells2 (kept_block kP vv)).1, (cells2 (kept_block kQ vv)).1⟩) (fun hHeld => ?_)
            clear hK K
            try simp only [Act.put, List.setIfInBounds_toArray, List.set_cons_zero, List.set_cons_succ]
            refine wpAnyH_take (i := 33) (oi := { dst := some 101, op := Op.pick (Operand.tmp 97) (Operand.tmp 100) (Operand.const (Value.bool false)), type := 4, pos := "laws.go:544", after := #[{ on := 29, ground := Ground.data }, { on := 32, ground := Ground.data }], guard := none }) (v := ?_) rfl (by kernel_rfl) (by kernel_rfl) (by kernel_rfl) (fun _ _ _ h => h) (Or.inl ⟨by rfl, ?_⟩) (by assumption) ?_
            rotate_left
            · (intro wY hSw; (try dsimp only at hSw); go_simp; try with_reducible rfl)
            simp only [Act.put, List.setIfInBounds_toArray, List.set_cons_zero, List.set_cons_succ]
            refine wpAnyH_take (i := 34) (oi := { dst := some 102, op := Op.move (Operand.tmp 101), type := 4, pos := "laws.go:544", after := #[{ on := 33, ground := Ground.data }, { on := 32, ground := Ground.chain }], guard := none }) (v := ?_) rfl (by kernel_rfl) (by kernel_rfl) (by kernel_rfl) (fun _ _ _ h => h) (Or.inl ⟨by rfl, ?_⟩) (by assumption) ?_
            rotate_left
            · (intro wY hSw; (try dsimp only at hSw); go_simp; try with_reducible rfl)
            simp only [Act.put, List.setIfInBounds_toArray, List.set_cons_zero, List.set_cons_succ]
            refine wpAnyH_take (i := 35) (oi := { dst := some 103, op := Op.load 27 (Operand.tmp 16), type := 27, pos := "laws.go:544", after := #[{ on := 34, ground := Ground.guard }], guard := some (34, true) }) (v := ?_) rfl (by kernel_rfl) (by kernel_rfl) (by kernel_rfl) (fun _ _ _ h => h) (Or.inl ⟨by rfl, ?_⟩) (by assumption) ?_
            rotate_left
            · (intro wY hSw; (try dsimp only at hSw); go_simp; try with_reducible rfl)
            simp only [Act.put, List.setIfInBounds_toArray, List.set_cons_zero, List.set_cons_succ]
            refine wpAnyH_take (i := 36) (oi := { dst := some 104, op := Op.load 27 (Operand.tmp 18), type := 27, pos := "laws.go:544", after := #[{ on := 34, ground := Ground.guard }], guard := some (34, true) }) (v := ?_) rfl (by kernel_rfl) (by kernel_rfl) (by kernel_rfl) (fun _ _ _ h => h) (Or.inl ⟨by rfl, ?_⟩) (by assumption) ?_
            rotate_left
            · (intro wY hSw; (try dsimp only at hSw); go_simp; try with_reducible rfl)
            simp only [Act.put, List.setIfInBounds_toArray, List.set_cons_zero, List.set_cons_succ]
            refine wpAnyH_ready (rs := [37]) (by kernel_rfl) (by simp) ?_
            refine AllReadyH.cons (o := { dst := some 105, op := Op.call { callee := Callee.value (Operand.func 13), args := #[Operand.tmp 103, Operand.tmp 104], argTypes := #[27, 27] }, type := 4, pos := "laws.go:544", after := #[{ on := 35, ground := Ground.data }, { on := 36, ground := Ground.data }, { on := 34, ground := Ground.chain }, { on := 34, ground := Ground.guard }], guard := some (34, true) }) rfl (fun K hK => ?_) ?_
            · go_simp
              refine (sameVtab_same _ _ _ _ _ _ _ _ _ _ _ _ SV.1 _ (t8.below vv).tab (t9.below vv).tab).mono ?_
              rintro e wx ⟨rfl, hbx⟩
              have vv := gr_trans vv hbx
              clear hbx
              go_wp2_with fail
              refine hK.out _ _ (⟨(cells2 (kept_block kV vv)).1, (cells2 (kept_block kW vv)).1, (cells2 (kept_block kX vv)).1, (cells2 (kept_block kY vv)).1, (cells2 (kept_block kP vv)).1, (cells2 (kept_block kQ vv)).1⟩) (fun hHeld => ?_)
              clear hK K
              try simp only [Act.put, List.setIfInBounds_toArray, List.set_cons_zero, List.set_cons_succ]
              refine wpAnyH_take (i := 38) (oi := { dst := some 106, op := Op.pick (Operand.tmp 102) (Operand.tmp 105) (Operand.const (Value.bool false)), type := 4, pos := "laws.go:544", after := #[{ on := 34, ground := Ground.data }, { on := 37, ground := Ground.data }], guard := none }) (v := ?_) rfl (by kernel_rfl) (by kernel_rfl) (by kernel_rfl) (fun _ _ _ h => h) (Or.inl ⟨by rfl, ?_⟩) (by assumption) ?_
              rotate_left
              · (intro wY hSw; (try dsimp only at hSw); go_simp; try with_reducible rfl)
              simp only [Act.put, List.setIfInBounds_toArray, List.set_cons_zero, List.set_cons_succ]
              refine wpAnyH_take (i := 39) (oi := { dst := some 107, op := Op.move (Operand.tmp 106), type := 4, pos := "laws.go:544", after := #[{ on := 38, ground := Ground.data }, { on := 37, ground := Ground.chain }], guard := none }) (v := ?_) rfl (by kernel_rfl) (by kernel_rfl) (by kernel_rfl) (fun _ _ _ h => h) (Or.inl ⟨by rfl, ?_⟩) (by assumption) ?_
              rotate_left
              · (intro wY hSw; (try dsimp only at hSw); go_simp; try with_reducible rfl)
              simp only [Act.put, List.setIfInBounds_toArray, List.set_cons_zero, List.set_cons_succ]
              refine wpAnyH_take (i := 40) (oi := { dst := some 108, op := Op.load 27 (Operand.tmp 4), type := 27, pos := "laws.go:544", after := #[{ on := 39, ground := Ground.guard }], guard := some (39, true) }) (v := ?_) rfl (by kernel_rfl) (by kernel_rfl) (by kernel_rfl) (fun _ _ _ h => h) (Or.inl ⟨by rfl, ?_⟩) (by assumption) ?_
              rotate_left
              · (intro wY hSw; (try dsimp only at hSw); go_simp; try with_reducible rfl)
              simp only [Act.put, List.setIfInBounds_toArray, List.set_cons_zero, List.set_cons_succ]
              refine wpAnyH_take (i := 41) (oi := { dst := some 109, op := Op.move (Operand.tmp 3), type := 3, pos := "laws.go:544", after := #[{ on := 39, ground := Ground.guard }], guard := some (39, true) }) (v := ?_) rfl (by kernel_rfl) (by kernel_rfl) (by kernel_rfl) (fun _ _ _ h => h) (Or.inl ⟨by rfl, ?_⟩) (by assumption) ?_
              rotate_left
              · (intro wY hSw; (try dsimp only at hSw); go_simp; try with_reducible rfl)
              simp only [Act.put, List.setIfInBounds_toArray, List.set_cons_zero, List.set_cons_succ]
              refine wpAnyH_ready (rs := [42]) (by kernel_rfl) (by simp) ?_
              refine AllReadyH.cons (o := { dst := some 110, op := Op.call { callee := Callee.value (Operand.func 27), args := #[Operand.tmp 109], argTypes := #[3] }, type := 27, pos := "laws.go:544", after := #[{ on := 41, ground := Ground.data }, { on := 39, ground := Ground.chain }, { on := 39, ground := Ground.guard }], guard := some (39, true) }) rfl (fun K hK => ?_) ?_
              · go_simp
                refine (specVtabNew_made nn _).mono ?_
                rintro e wx ⟨a10, n10, c10, o10, p10, q10, rfl, t10, hbx⟩
                have vv := gr_trans vv hbx
                clear hbx
                go_wp2_with fail
                refine hK.out _ _ (⟨(cells2 (kept_block kV vv)).1, (cells2 (kept_block kW vv)).1, (cells2 (kept_block kX vv)).1, (cells2 (kept_block kY vv)).1, (cells2 (kept_block kP vv)).1, (cells2 (kept_block kQ vv)).1⟩) (fun hHeld => ?_)
                clear hK K
                try simp only [Act.put, List.setIfInBounds_toArray, List.set_cons_zero, List.set_cons_succ]
                refine wpAnyH_ready (rs := [43]) (by kernel_rfl) (by simp) ?_
                refine AllReadyH.cons (o := { dst := some 111, op := Op.call { callee := Callee.value (Operand.func 13), args := #[Operand.tmp 108, Operand.tmp 110], argTypes := #[27, 27] }, type := 4, pos := "laws.go:544", after := #[{ on := 40, ground := Ground.data }, { on := 42, ground := Ground.data }, { on := 42, ground := Ground.chain }, { on := 39, ground := Ground.guard }], guard := some (39, true) }) rfl (fun K hK => ?_) ?_
                · go_simp
                  refine (sameVtab_same _ _ _ _ _ _ _ _ _ _ _ _ (vtabNew nn) _ (t2.below vv).tab t10.tab).mono ?_
                  rintro e wx ⟨rfl, hbx⟩
                  have vv := gr_trans vv hbx
                  clear hbx
                  clear t10
                  go_wp2_with fail
                  refine hK.out _ _ (⟨(cells2 (kept_block kV vv)).1, (cells2 (kept_block kW vv)).1, (cells2 (kept_block kX vv)).1, (cells2 (kept_block kY vv)).1, (cells2 (kept_block kP vv)).1, (cells2 (kept_block kQ vv)).1⟩) (fun hHeld => ?_)
                  clear hK K
                  try simp only [Act.put, List.setIfInBounds_toArray, List.set_cons_zero, List.set_cons_succ]
                  refine wpAnyH_take (i := 44) (oi := { dst := some 112, op := Op.pick (Operand.tmp 107) (Operand.tmp 111) (Operand.const (Value.bool false)), type := 4, pos := "laws.go:544", after := #[{ on := 39, ground := Ground.data }, { on := 43, ground := Ground.data }], guard := none }) (v := ?_) rfl (by kernel_rfl) (by kernel_rfl) (by kernel_rfl) (fun _ _ _ h => h) (Or.inl ⟨by rfl, ?_⟩) (by assumption) ?_
                  rotate_left
                  · (intro wY hSw; (try dsimp only at hSw); go_simp; try with_reducible rfl)
                  simp only [Act.put, List.setIfInBounds_toArray, List.set_cons_zero, List.set_cons_succ]
                  refine wpAnyH_take (i := 45) (oi := { dst := some 2, op := Op.assign (Operand.tmp 112), type := 4, pos := "laws.go:544", after := #[{ on := 44, ground := Ground.data }, { on := 43, ground := Ground.chain }, { on := 0, ground := Ground.phase }, { on := 1, ground := Ground.phase }, { on := 2, ground := Ground.phase }, { on := 3, ground := Ground.phase }, { on := 4, ground := Ground.phase }, { on := 5, ground := Ground.phase }, { on := 6, ground := Ground.phase }, { on := 7, ground := Ground.phase }, { on := 8, ground := Ground.phase }, { on := 9, ground := Ground.phase }, { on := 10, ground := Ground.phase }, { on := 11, ground := Ground.phase }, { on := 12, ground := Ground.phase }, { on := 13, ground := Ground.phase }, { on := 14, ground := Ground.phase }, { on := 15, ground := Ground.phase }, { on := 16, ground := Ground.phase }, { on := 17, ground := Ground.phase }, { on := 18, ground := Ground.phase }, { on := 19, ground := Ground.phase }, { on := 20, ground := Ground.phase }, { on := 21, ground := Ground.phase }, { on := 22, ground := Ground.phase }, { on := 23, ground := Ground.phase }, { on := 24, ground := Ground.phase }, { on := 25, ground := Ground.phase }, { on := 26, ground := Ground.phase }, { on := 27, ground := Ground.phase }, { on := 28, ground := Ground.phase }, { on := 29, ground := Ground.phase }, { on := 30, ground := Ground.phase }, { on := 31, ground := Ground.phase }, { on := 32, ground := Ground.phase }, { on := 33, ground := Ground.phase }, { on := 34, ground := Ground.phase }, { on := 35, ground := Ground.phase }, { on := 36, ground := Ground.phase }, { on := 37, ground := Ground.phase }, { on := 38, ground := Ground.phase }, { on := 39, ground := Ground.phase }, { on := 40, ground := Ground.phase }, { on := 41, ground := Ground.phase }, { on := 42, ground := Ground.phase }, { on := 43, ground := Ground.phase }, { on := 44, ground := Ground.phase }], guard := none }) (v := ?_) rfl (by kernel_rfl) (by kernel_rfl) (by kernel_rfl) (fun _ _ _ h => h) (Or.inl ⟨by rfl, ?_⟩) (by assumption) ?_
                  rotate_left
                  · (intro wY hSw; (try dsimp only at hSw); go_simp; try with_reducible rfl)
                  simp only [Act.put, List.setIfInBounds_toArray, List.set_cons_zero, List.set_cons_succ]
                  refine wpAnyH_done (by kernel_rfl) ?_ _
                  have HB := hide (gr_trans u vv)
                  clear hHeld vv
                  go_wp2
                  go_ret
                  exact ⟨rfl, HB.out⟩
                exact AllReadyH.nil
              exact AllReadyH.nil
            exact AllReadyH.nil
          exact AllReadyH.nil
        exact AllReadyH.nil
      exact AllReadyH.nil
    exact AllReadyH.nil

theorem fnNetworksBent_own : ownKnob Try.prog.godebug = none := by kernel_rfl
theorem fnNetworksBent_laid : laidOutB Try.prog = true := by kernel_rfl

open Go.ChangeShapes Go.WideShapes Go.ChangeAt in
open Go.ChangeMaps (open_string shut_string) in
set_option maxRecDepth 100000 in
theorem fnNetworksBent_lifted (os : Os) (started : os.Started) (H : Type) (enc : TypeId × Value → H) :
    ReturnsInHanded {} Try.checked os 4 .any (Rows.fnNetworksBentSpec.pre6 enc Try.prog Try.f4 Rows.fnNetworksBentRow.domain false) (Rows.fnNetworksBentSpec.post enc Try.prog Try.f4 false true false false) := by
  refine returnsInHanded_of_change (C := Try.checked) fnNetworksBent_own started (by kernel_rfl) Try.func4
    (ChangeSpec.witness6 (enc := enc) (C := Try.checked) false ⟨#[], #[.slice none 0 0], []⟩ 8 (by kernel_rfl) (by kernel_rfl) (by kernel_rfl) (by kernel_rfl)) ?_
  intro W base args ds gs before hval0 hW hcnd _
  have hval : ∀ (j : Nat) t v, Try.f4.params[j]? = some t → args[j]? = some v → Value.okWide Try.prog W .any base t v := hval0
  have hW' := hW
  obtain ⟨p, q, hA0, hV, rfl, hfz, hnd⟩ := hW
  have hA : DataW.TrodAll enc Try.prog W 0 (fun _ => true) true Try.f4.params.toList args.toList ds p := hA0
  rw [Try.params4] at hA hval
  obtain ⟨v0, vs0, d0, ds0, p0, q0, hargs, rfl, rfl, h0, r0⟩ := trodAll_cons hA
  obtain ⟨rfl, rfl, rfl⟩ := trodAll_nil r0
  obtain rfl : args = #[v0] := by cases args; simp_all
  obtain ⟨rfl, rfl⟩ := trodVars_none hV
  obtain ⟨a0, len0, cap0, rfl⟩ := okWide_slice Try.underlying22 (hval 0 22 v0 rfl rfl)
  have k0 := h0
  have lt0 : ∀ x ∈ p0, x.block < W.heap.size := by obtain ⟨m, hm⟩ := k0; exact DataW.trod_lt m _ _ _ hm
  obtain ⟨z0, w0⟩ : ∃ zs, Row W a0 len0 cap0 zs := by
    obtain ⟨fuel, hf⟩ := h0
    rcases open_ints Try.underlying22 Try.underlying5 (by kernel_rfl) hf with ⟨hcs, _⟩ | ⟨x, l, c, zs, hcs, _, hl, hm, hz, _, hcell, hwz⟩
    · simp [Value.cells] at hcs
      obtain ⟨rfl, rfl, rfl⟩ := hcs
      exact ⟨[], row_nil W⟩
    · simp [Value.cells] at hcs
      obtain ⟨rfl, rfl, rfl⟩ := hcs
      exact ⟨zs.take len0, row_open hl hm (by simpa using hz) hcell hwz⟩
  clear hA0 hval0
  refine (networksBent_walk a0 len0 cap0 z0 W w0).mono fun e W' ⟨he, bel⟩ => ?_
  subst he
  exact ⟨_, rfl, _, _, _, [], _, [], hW', trodAll_mk1 (shut_bool Try.underlying4 _), (trodAll_cons_mk (Below.trod fnNetworksBent_laid (by kernel_rfl) (of_decide_eq_true (by kernel_rfl)) k0 bel lt0) trodAll_mk0), rfl, bel.frame _, fun h => by cases h⟩

theorem fnNetworksBent_holds : Rows.FnNetworksBentSaid :=
  OpenClaim.holds_of_wide 4 Try.f4 rfl rfl rfl rfl rfl rfl rfl ⟨rfl, rfl, rfl, rfl, rfl⟩ rfl rfl rfl rfl rfl (by kernel_rfl) Try.func4 (by kernel_rfl)
    (of_decide_eq_true (by kernel_rfl)) (by unfold Func.isWrapper; first | (rw [if_pos (by decide +kernel)]; kernel_rfl) | (rw [if_neg (by decide +kernel)]; exact ⟨rfl, rfl⟩))
    (fun os started H enc _ => fnNetworksBent_lifted os started H enc)

#print axioms fnNetworksBent_holds

end Go.Proofs.Ytafonmfgeecopaa
