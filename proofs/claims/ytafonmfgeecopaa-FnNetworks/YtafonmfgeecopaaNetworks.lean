/-
  FnNetworks answers true at all bytes: of a drawn table and a drawn row: what is put is there; dropped it is not, unless a port's own network is that one; what is refused changes nothing; what is made is right.
-/
import Derived.Test.YtafonmfgeecopaaVlanLaws
import Derived.Test.YtafonmfgeecopaaDrawVtab4
import Derived.Test.YtafonmfgeecopaaSameVtab
import Derived.Test.YtafonmfgeecopaaBig
import Derived.WalkKit
import Derived.ProofKit
import Derived.OpenShut
import Derived.ShutString
import Derived.ChangeOld
import Derived.Below
namespace Go.Proofs.Ytafonmfgeecopaa
open Go.RowKit

set_option maxRecDepth 100000 in
set_option maxHeartbeats 16000000 in
theorem networks_walk (a0 : Option Addr) (l0 c0 : Nat) (z0 : List Int) (w : World) (h0 : Row w a0 l0 c0 z0) :
    Calls Try.prog 3 #[.slice a0 l0 c0] w fun e w' => e = .returned (.bool true) ∧ Below w.heap.size w w' := by
  by_cases g0 : 1048576 < l0
  · have i1 : (1048576 : Int) < l0 := by omega
    go_enter Try.func3, Try.ntmps3
    go_wp2
    go_ret
    exact ⟨rfl, Below.refl _ _⟩
  have hs : l0 ≤ 1048576 := by omega
  have u : Below w.heap.size w w := Below.refl _ _
  go_enter Try.func3, Try.ntmps3
  go_wp2_with fail
  refine (big_no _ _ _ _ g0).mono ?_
  rintro e w0 ⟨rfl, rfl⟩
  go_wp2_with fail
  refine (drawPutRow_any a0 l0 c0 z0 _ (h0.below u) hs).mono ?_
  rintro e w1 ⟨a1, n1, c1, o1, p1, q1, v1, pp1, r, rfl, t1, hF1, -, hp1, hr, hb⟩
  have u := gr_trans u hb
  clear hb
  go_wp2_with fail
  generalize hwR : (w1.alloc (Obj.cells #[Value.slice a1 n1 c1, Value.slice o1 p1 q1] 27)).alloc (Obj.cells #[Value.int .i64 r.i, Value.int .i64 r.m, Value.int .i64 r.b] 29) = wR
  have b1R : Below w1.heap.size w1 wR := by subst hwR; exact below_two _ _ _
  obtain ⟨kV, kR⟩ : wR.heap[w1.heap.size]? = some (.cells #[.slice a1 n1 c1, .slice o1 p1 q1] 27) ∧ wR.heap[w1.heap.size + 1]? = some (.cells #[.int .i64 r.i, .int .i64 r.m, .int .i64 r.b] 29) := by rw [← hwR]; exact kept_two (Below.refl _ _)
  have t1 := t1.below b1R
  have u := gr_trans u b1R
  clear b1R hwR
  have hln := t1.len
  have hz : n1 ≤ 16777216 ∧ p1 ≤ 16777216 := by have h2 := hF1.len; have h3 := hF1.own; omega
  have hRg := hide (fun x hx => (hF1.rows x hx).1 : ∀ x ∈ v1.rows, x.Rng)
  have hF2 := hF1.put hr
  have HPF := hide (put_false (v := v1) (r := r))
  have HPT := hide (put_true (v := v1) (r := r))
  generalize hPR : putRow v1 r = PR at HPF HPT hF2
  have HPR := hide hPR
  clear hPR
  obtain ⟨xv, ok⟩ := PR
  refine (implPutRow_made _ _ _ _ _ _ v1 r _ t1.tab (vown_some t1) hz.1 hz.2 hRg.out hr.1).mono ?_
  rw [HPR.out]
  rintro e w2 ⟨a2, n2, c2, o2, p2, q2, rfl, t2, hb⟩
  have t1 := t1.below hb
  have kV := kept_block kV hb
  have kR := kept_block kR hb
  have u := gr_trans u hb
  clear hb
  generalize hwX : w2.alloc (Obj.cells #[Value.slice a2 n2 c2, Value.slice o2 p2 q2] 27) = wX
  have bX : Below w2.heap.size w2 wX := by subst hwX; exact below_one _ _
  have t1 := t1.below bX
  have t2 := t2.below bX
  have kV := kept_block kV bX
  have kR := kept_block kR bX
  have u := gr_trans u bX
  have kX : wX.heap[w2.heap.size]? = some (.cells #[.slice a2 n2 c2, .slice o2 p2 q2] 27) := by rw [← hwX]; exact block_last _ _
  obtain ⟨⟨j0, j1⟩, j2, j3⟩ := cells2 kX
  clear bX
  obtain ⟨⟨m0, m1⟩, -⟩ := cells2 kV
  obtain ⟨⟨m2, m3, m4⟩, -⟩ := cells3 kR
  go_wp2_with fail
  refine (specPutRow_made _ _ _ _ _ _ v1 r _ t1.tab hz.1 hz.2).mono ?_
  rw [HPR.out]
  rintro e w3 ⟨a3, n3, c3, o3, p3, q3, rfl, t3, hb⟩
  clear j0 j1 j2 j3 m0 m1 m2 m3 m4
  have t1 := t1.below hb
  have t2 := t2.below hb
  have kV := kept_block kV hb
  have kR := kept_block kR hb
  have kX := kept_block kX hb
  have u := gr_trans u hb
  clear hb
  generalize hwY : w3.alloc (Obj.cells #[Value.slice a3 n3 c3, Value.slice o3 p3 q3] 27) = wY
  have bY : Below w3.heap.size w3 wY := by subst hwY; exact below_one _ _
  have t1 := t1.below bY
  have t2 := t2.below bY
  have t3 := t3.below bY
  have kV := kept_block kV bY
  have kR := kept_block kR bY
  have kX := kept_block kX bY
  have u := gr_trans u bY
  have kY : wY.heap[w3.heap.size]? = some (.cells #[.slice a3 n3 c3, .slice o3 p3 q3] 27) := by rw [← hwY]; exact block_last _ _
  obtain ⟨⟨j0, j1⟩, j2, j3⟩ := cells2 kY
  clear bY
  cases ok
  · clear HPT
    obtain ⟨⟨m0, m1⟩, -⟩ := cells2 kX
    go_wp2_with fail
    refine (sameVtab_same _ _ _ _ _ _ _ _ _ _ _ _ xv _ t2.tab t3.tab).mono ?_
    rintro e w4 ⟨rfl, hb⟩
    clear j0 j1 j2 j3 m0 m1
    have t1 := t1.below hb
    have t2 := t2.below hb
    have t3 := t3.below hb
    have kV := kept_block kV hb
    have kR := kept_block kR hb
    have kX := kept_block kX hb
    have kY := kept_block kY hb
    have u := gr_trans u hb
    clear hb
    have hxv : xv = v1 := HPF.out (by trivial)
    subst hxv
    obtain ⟨⟨m0, m1⟩, -⟩ := cells2 kX
    obtain ⟨⟨m2, m3⟩, -⟩ := cells2 kV
    go_wp2_with fail
    refine (sameVtab_same _ _ _ _ _ _ _ _ _ _ _ _ xv _ t2.tab t1.tab).mono ?_
    rintro e w5 ⟨rfl, hb⟩
    have HB := hide (gr_trans u hb)
    clear hb m0 m1 m2 m3
    go_wp2
    go_ret
    exact ⟨rfl, HB.out⟩
  · clear HPF
    obtain ⟨⟨m0, m1⟩, -⟩ := cells2 kX
    go_wp2_with fail
    refine (sameVtab_same _ _ _ _ _ _ _ _ _ _ _ _ xv _ t2.tab t3.tab).mono ?_
    rintro e w4 ⟨rfl, hb⟩
    clear j0 j1 j2 j3 m0 m1
    have t1 := t1.below hb
    have t2 := t2.below hb
    have t3 := t3.below hb
    have kV := kept_block kV hb
    have kR := kept_block kR hb
    have kX := kept_block kX hb
    have kY := kept_block kY hb
    have u := gr_trans u hb
    clear hb
    obtain ⟨hok, hown, k, hk, hkr⟩ := HPT.out (by trivial)
    have hln2 := t2.len
    have hok1 : vtabOk xv xv.own.length = true := by
      have hok : vtabOk xv v1.own.length = true := hok
      have hown : xv.own = v1.own := hown
      rw [hown]
      exact hok
    have hpp : xv.own.length = p1 := by
      have hown : xv.own = v1.own := hown
      rw [hown]
      exact hln.2
    have HA := hide (rowAt_yes (show rowIdx xv.rows r.i = some k from hk))
    have HK := hide (show rowIdx xv.rows r.i = some k from hk)
    have hkr : xv.rows[k]? = some r := hkr
    have hkn : k < n2 := by have := (List.getElem?_eq_some_iff.1 hkr).1; omega
    have HOKP : Hid (vtabOk xv (p1 : Int) = true) := hide (by have := hok1; rw [hpp] at this; exact this)
    have hz2 : n2 ≤ 16777216 ∧ p2 ≤ 16777216 := by have h2 : xv.rows.length ≤ _ := hF2.len; have h3 : xv.own.length = _ := hF2.own; omega
    have hRx := hide (fun x hx => (hF2.rows x hx).1 : ∀ x ∈ xv.rows, x.Rng)
    have HDT := hide (drop_true (x := xv) (id := r.i) HK.out)
    have HDF := hide (drop_false (x := xv) (id := r.i) hok1 HK.out)
    have HOWN := hide hpp
    clear hok hown hk hok1 hpp hln2 hln
    obtain ⟨⟨m0, m1⟩, -⟩ := cells2 kX
    obtain ⟨⟨m2, m3, m4⟩, -⟩ := cells3 kR
    go_wp2_with fail
    refine (implRowAt_any _ _ _ xv.rows _ _ _ r.i _ t2.tab.rows).mono ?_
    rintro e w5 ⟨rfl, hb⟩
    rw [HA.out]
    clear m0 m1 m2 m3 m4
    have t1 := t1.below hb
    have t2 := t2.below hb
    have t3 := t3.below hb
    have kV := kept_block kV hb
    have kR := kept_block kR hb
    have kX := kept_block kX hb
    have kY := kept_block kY hb
    have u := gr_trans u hb
    clear hb
    obtain ⟨⟨m0, m1⟩, -⟩ := cells2 kX
    obtain ⟨⟨m2, m3, m4⟩, -⟩ := cells3 kR
    generalize hDR : dropRow xv r.i = DR at HDT HDF
    have HDR := hide hDR
    clear hDR
    obtain ⟨zv, is⟩ := DR
    go_wp2_with fail
    refine (implDropRow_made _ _ _ _ _ _ xv r.i _ t2.tab hz2.1 hz2.2 hRx.out).mono ?_
    rw [HDR.out]
    rintro e w6 ⟨a6, n6, c6, o6, p6, q6, rfl, t6, hb⟩
    clear m0 m1 m2 m3 m4
    have t1 := t1.below hb
    have t2 := t2.below hb
    have t3 := t3.below hb
    have kV := kept_block kV hb
    have kR := kept_block kR hb
    have kX := kept_block kX hb
    have kY := kept_block kY hb
    have u := gr_trans u hb
    clear hb
    generalize hwZ : w6.alloc (Obj.cells #[Value.slice a6 n6 c6, Value.slice o6 p6 q6] 27) = wZ
    have bZ : Below w6.heap.size w6 wZ := by subst hwZ; exact below_one _ _
    have t1 := t1.below bZ
    have t2 := t2.below bZ
    have t3 := t3.below bZ
    have t6 := t6.below bZ
    have kV := kept_block kV bZ
    have kR := kept_block kR bZ
    have kX := kept_block kX bZ
    have kY := kept_block kY bZ
    have u := gr_trans u bZ
    have kZ : wZ.heap[w6.heap.size]? = some (.cells #[.slice a6 n6 c6, .slice o6 p6 q6] 27) := by rw [← hwZ]; exact block_last _ _
    obtain ⟨⟨j0, j1⟩, j2, j3⟩ := cells2 kZ
    clear bZ
    obtain ⟨rr, bb, off, hrr, rfl, d0, d1, d2⟩ := vrow_at t2.tab.rows k hkn
    rw [hkr] at hrr
    cases hrr
    have hneq := vrow_neq
    have hgd : Try.prog.eqGuardType Try.prog.depth 29 = false := by kernel_rfl
    have hk0 : ¬ ((k : Int) < 0) := by omega
    have i1 : (0 : Int) ≤ (k : Int) := by omega
    have i2 : (k : Int) < (n2 : Int) := by omega
    have vv : Below wZ.heap.size wZ wZ.drew := gr_drew (Below.refl _ _)
    clear hkr
    go_wp2_with fail
    refine wp_region_held_drew (S := (fun W => (W.cell? ⟨w2.heap.size, 0, none⟩ = some (.slice (some ⟨bb, off, none⟩) n2 c2) ∧ W.cell? ⟨w2.heap.size, 1, none⟩ = some (.slice o2 p2 q2)) ∧ (W.cell? ⟨w1.heap.size + 1, 0, none⟩ = some (.int .i64 r.i) ∧ W.cell? ⟨w1.heap.size + 1, 1, none⟩ = some (.int .i64 r.m) ∧ W.cell? ⟨w1.heap.size + 1, 2, none⟩ = some (.int .i64 r.b)) ∧ (W.cell? ⟨bb, off + k * 3, none⟩ = some (.int .i64 r.i) ∧ W.cell? ⟨bb, off + k * 3 + 1, none⟩ = some (.int .i64 r.m) ∧ W.cell? ⟨bb, off + k * 3 + 2, none⟩ = some (.int .i64 r.b)))) (by kernel_rfl) (⟨(cells2 (kept_block kX vv)).1, (cells3 (kept_block kR vv)).1, kept_cell d0 vv, kept_cell d1 vv, kept_cell d2 vv⟩) (fun hHeld => ?_)
    refine wpAnyH_take (i := 0) (oi := { dst := some 67, op := Op.move (Operand.tmp 10), type := 3, pos := "laws.go:521", after := #[], guard := none }) (v := ?_) rfl (by kernel_rfl) (by kernel_rfl) (by kernel_rfl) (fun _ _ _ h => h) (Or.inl ⟨by rfl, ?_⟩) (by assumption) ?_
    rotate_left
    · (intro wY hSw; (try dsimp only at hSw); go_simp; try with_reducible rfl)
    simp only [Act.put, List.setIfInBounds_toArray, List.set_cons_zero, List.set_cons_succ]
    refine wpAnyH_take (i := 1) (oi := { dst := some 68, op := Op.binOp BinOp.lss 3 (Operand.tmp 67) (Operand.const (Value.int IntKind.i64 0)) 3, type := 4, pos := "laws.go:521", after := #[{ on := 0, ground := Ground.data }], guard := none }) (v := .bool false) rfl (by kernel_rfl) (by kernel_rfl) (by kernel_rfl) (fun _ _ _ h => h) (Or.inl ⟨by rfl, ?_⟩) (by assumption) ?_
    · (intro wY hSw; (try dsimp only at hSw); go_simp; first | done | omega)
    simp only [Act.put, List.setIfInBounds_toArray, List.set_cons_zero, List.set_cons_succ]
    refine wpAnyH_take (i := 2) (oi := { dst := some 69, op := Op.move (Operand.tmp 68), type := 4, pos := "laws.go:521", after := #[{ on := 1, ground := Ground.data }], guard := none }) (v := ?_) rfl (by kernel_rfl) (by kernel_rfl) (by kernel_rfl) (fun _ _ _ h => h) (Or.inl ⟨by rfl, ?_⟩) (by assumption) ?_
    rotate_left
    · (intro wY hSw; (try dsimp only at hSw); go_simp; try with_reducible rfl)
    simp only [Act.put, List.setIfInBounds_toArray, List.set_cons_zero, List.set_cons_succ]
    refine wpAnyH_take (i := 3) (oi := { dst := some 70, op := Op.fieldAddr 27 (Operand.tmp 6) 0, type := 0, pos := "laws.go:521", after := #[{ on := 2, ground := Ground.guard }], guard := some (2, false) }) (v := ?_) rfl (by kernel_rfl) (by kernel_rfl) (by kernel_rfl) (fun _ _ _ h => h) (Or.inl ⟨by rfl, ?_⟩) (by assumption) ?_
    rotate_left
    · (intro wY hSw; (try dsimp only at hSw); go_simp; try with_reducible rfl)
    simp only [Act.put, List.setIfInBounds_toArray, List.set_cons_zero, List.set_cons_succ]
    refine wpAnyH_take (i := 4) (oi := { dst := some 71, op := Op.load 24 (Operand.tmp 70), type := 24, pos := "laws.go:521", after := #[{ on := 3, ground := Ground.data }, { on := 2, ground := Ground.guard }], guard := some (2, false) }) (v := ?_) rfl (by kernel_rfl) (by kernel_rfl) (by kernel_rfl) (fun _ _ _ h => h) (Or.inl ⟨by rfl, ?_⟩) (by assumption) ?_
    rotate_left
    · (intro wY hSw; (try dsimp only at hSw); go_simp; try with_reducible rfl)
    simp only [Act.put, List.setIfInBounds_toArray, List.set_cons_zero, List.set_cons_succ]
    refine wpAnyH_take (i := 5) (oi := { dst := some 72, op := Op.move (Operand.tmp 10), type := 3, pos := "laws.go:521", after := #[{ on := 2, ground := Ground.guard }], guard := some (2, false) }) (v := ?_) rfl (by kernel_rfl) (by kernel_rfl) (by kernel_rfl) (fun _ _ _ h => h) (Or.inl ⟨by rfl, ?_⟩) (by assumption) ?_
    rotate_left
    · (intro wY hSw; (try dsimp only at hSw); go_simp; try with_reducible rfl)
    simp only [Act.put, List.setIfInBounds_toArray, List.set_cons_zero, List.set_cons_succ]
    refine wpAnyH_take (i := 6) (oi := { dst := some 73, op := Op.indexAddr 24 (Operand.tmp 71) (Operand.tmp 72), type := 0, pos := "laws.go:521", after := #[{ on := 4, ground := Ground.data }, { on := 5, ground := Ground.data }, { on := 2, ground := Ground.guard }], guard := some (2, false) }) (v := ?_) rfl (by kernel_rfl) (by kernel_rfl) (by kernel_rfl) (fun _ _ _ h => h) (Or.inl ⟨by rfl, ?_⟩) (by assumption) ?_
    rotate_left
    · (intro wY hSw; (try dsimp only at hSw); go_simp; try with_reducible rfl)
    simp only [Act.put, List.setIfInBounds_toArray, List.set_cons_zero, List.set_cons_succ]
    refine wpAnyH_take (i := 7) (oi := { dst := some 74, op := Op.load 29 (Operand.tmp 73), type := 29, pos := "laws.go:521", after := #[{ on := 6, ground := Ground.data }, { on := 2, ground := Ground.guard }], guard := some (2, false) }) (v := ?_) rfl (by kernel_rfl) (by kernel_rfl) (by kernel_rfl) (fun _ _ _ h => h) (Or.inl ⟨by rfl, ?_⟩) (by assumption) ?_
    rotate_left
    · (intro wY hSw; (try dsimp only at hSw); go_simp; try with_reducible rfl)
    simp only [Act.put, List.setIfInBounds_toArray, List.set_cons_zero, List.set_cons_succ]
    refine wpAnyH_take (i := 8) (oi := { dst := some 75, op := Op.load 29 (Operand.tmp 4), type := 29, pos := "laws.go:521", after := #[{ on := 2, ground := Ground.guard }], guard := some (2, false) }) (v := ?_) rfl (by kernel_rfl) (by kernel_rfl) (by kernel_rfl) (fun _ _ _ h => h) (Or.inl ⟨by rfl, ?_⟩) (by assumption) ?_
    rotate_left
    · (intro wY hSw; (try dsimp only at hSw); go_simp; try with_reducible rfl)
    simp only [Act.put, List.setIfInBounds_toArray, List.set_cons_zero, List.set_cons_succ]
    refine wpAnyH_take (i := 9) (oi := { dst := some 76, op := Op.binOp BinOp.neq 29 (Operand.tmp 74) (Operand.tmp 75) 29, type := 4, pos := "laws.go:521", after := #[{ on := 7, ground := Ground.data }, { on := 8, ground := Ground.data }, { on := 2, ground := Ground.guard }], guard := some (2, false) }) (v := ?_) rfl (by kernel_rfl) (by kernel_rfl) (by kernel_rfl) (fun _ _ _ h => h) (Or.inl ⟨by rfl, ?_⟩) (by assumption) ?_
    rotate_left
    · (intro wY hSw; (try dsimp only at hSw); go_simp; try with_reducible rfl)
    simp only [Act.put, List.setIfInBounds_toArray, List.set_cons_zero, List.set_cons_succ]
    refine wpAnyH_take (i := 10) (oi := { dst := some 77, op := Op.pick (Operand.tmp 69) (Operand.const (Value.bool true)) (Operand.tmp 76), type := 4, pos := "laws.go:521", after := #[{ on := 2, ground := Ground.data }, { on := 9, ground := Ground.data }], guard := none }) (v := ?_) rfl (by kernel_rfl) (by kernel_rfl) (by kernel_rfl) (fun _ _ _ h => h) (Or.inl ⟨by rfl, ?_⟩) (by assumption) ?_
    rotate_left
    · (intro wY hSw; (try dsimp only at hSw); go_simp; try with_reducible rfl)
    simp only [Act.put, List.setIfInBounds_toArray, List.set_cons_zero, List.set_cons_succ]
    refine wpAnyH_take (i := 11) (oi := { dst := some 78, op := Op.move (Operand.tmp 77), type := 4, pos := "laws.go:521", after := #[{ on := 10, ground := Ground.data }, { on := 2, ground := Ground.chain }], guard := none }) (v := ?_) rfl (by kernel_rfl) (by kernel_rfl) (by kernel_rfl) (fun _ _ _ h => h) (Or.inl ⟨by rfl, ?_⟩) (by assumption) ?_
    rotate_left
    · (intro wY hSw; (try dsimp only at hSw); go_simp; try with_reducible rfl)
    simp only [Act.put, List.setIfInBounds_toArray, List.set_cons_zero, List.set_cons_succ]
    refine wpAnyH_take (i := 12) (oi := { dst := some 79, op := Op.load 27 (Operand.tmp 6), type := 27, pos := "laws.go:521", after := #[{ on := 11, ground := Ground.guard }], guard := some (11, false) }) (v := ?_) rfl (by kernel_rfl) (by kernel_rfl) (by kernel_rfl) (fun _ _ _ h => h) (Or.inl ⟨by rfl, ?_⟩) (by assumption) ?_
    rotate_left
    · (intro wY hSw; (try dsimp only at hSw); go_simp; try with_reducible rfl)
    simp only [Act.put, List.setIfInBounds_toArray, List.set_cons_zero, List.set_cons_succ]
    refine wpAnyH_take (i := 13) (oi := { dst := some 80, op := Op.move (Operand.tmp 5), type := 3, pos := "laws.go:521", after := #[{ on := 11, ground := Ground.guard }], guard := some (11, false) }) (v := ?_) rfl (by kernel_rfl) (by kernel_rfl) (by kernel_rfl) (fun _ _ _ h => h) (Or.inl ⟨by rfl, ?_⟩) (by assumption) ?_
    rotate_left
    · (intro wY hSw; (try dsimp only at hSw); go_simp; try with_reducible rfl)
    simp only [Act.put, List.setIfInBounds_toArray, List.set_cons_zero, List.set_cons_succ]
    refine wpAnyH_ready (rs := [14]) (by kernel_rfl) (by simp) ?_
    refine AllReadyH.cons (o := { dst := some 81, op := Op.call { callee := Callee.value (Operand.func 16), args := #[Operand.tmp 79, Operand.tmp 80], argTypes := #[27, 3] }, type := 4, pos := "laws.go:521", after := #[{ on := 12, ground := Ground.data }, { on := 13, ground := Ground.data }, { on := 11, ground := Ground.chain }, { on := 11, ground := Ground.guard }], guard := some (11, false) }) rfl (fun K hK => ?_) ?_
    · go_simp
      refine (implVtabOk_any _ _ _ _ _ _ xv (p1 : Int) _ (t2.below vv).tab hRx.out).mono ?_
      rintro e wx ⟨rfl, hbx⟩
      rw [HOKP.out]
      have vv := gr_trans vv hbx
      clear hbx
      go_wp2_with fail
      refine hK.out _ _ (⟨(cells2 (kept_block kX vv)).1, (cells3 (kept_block kR vv)).1, kept_cell d0 vv, kept_cell d1 vv, kept_cell d2 vv⟩) (fun hHeld => ?_)
      clear hK K
      try simp only [Act.put, List.setIfInBounds_toArray, List.set_cons_zero, List.set_cons_succ]
      refine wpAnyH_take (i := 15) (oi := { dst := some 82, op := Op.unOp UnOp.not 4 (Operand.tmp 81), type := 4, pos := "laws.go:521", after := #[{ on := 14, ground := Ground.data }, { on := 11, ground := Ground.guard }], guard := some (11, false) }) (v := ?_) rfl (by kernel_rfl) (by kernel_rfl) (by kernel_rfl) (fun _ _ _ h => h) (Or.inl ⟨by rfl, ?_⟩) (by assumption) ?_
      rotate_left
      · (intro wY hSw; (try dsimp only at hSw); go_simp; try with_reducible rfl)
      simp only [Act.put, List.setIfInBounds_toArray, List.set_cons_zero, List.set_cons_succ]
      refine wpAnyH_take (i := 16) (oi := { dst := some 83, op := Op.pick (Operand.tmp 78) (Operand.const (Value.bool true)) (Operand.tmp 82), type := 4, pos := "laws.go:521", after := #[{ on := 11, ground := Ground.data }, { on := 15, ground := Ground.data }], guard := none }) (v := ?_) rfl (by kernel_rfl) (by kernel_rfl) (by kernel_rfl) (fun _ _ _ h => h) (Or.inl ⟨by rfl, ?_⟩) (by assumption) ?_
      rotate_left
      · (intro wY hSw; (try dsimp only at hSw); go_simp; try with_reducible rfl)
      simp only [Act.put, List.setIfInBounds_toArray, List.set_cons_zero, List.set_cons_succ]
      refine wpAnyH_done (by kernel_rfl) ?_ _
      clear hHeld d0 d1 d2
      have t1 := t1.below vv
      have t2 := t2.below vv
      have t3 := t3.below vv
      have t6 := t6.below vv
      have kV := kept_block kV vv
      have kR := kept_block kR vv
      have kX := kept_block kX vv
      have kY := kept_block kY vv
      have kZ := kept_block kZ vv
      have u := gr_trans u vv
      clear vv
      cases is
      · obtain ⟨hzv, hin⟩ := HDF.out (by trivial)
        have hzv : zv = xv := hzv
        subst hzv
        have HIN := hide hin
        clear hin
        obtain ⟨⟨m0, m1⟩, -⟩ := cells2 kX
        obtain ⟨⟨m2, m3, m4⟩, -⟩ := cells3 kR
        go_wp2_with fail
        refine (has_yes _ _ _ zv.own r.i _ t2.tab.own HIN.out).mono ?_
        rintro e w8 ⟨rfl, e8⟩
        obtain rfl := e8.symm
        obtain ⟨⟨m5, m6⟩, -⟩ := cells2 kZ
        go_wp2_with fail
        refine (sameVtab_same _ _ _ _ _ _ _ _ _ _ _ _ zv _ t6.tab t2.tab).mono ?_
        rintro e w9 ⟨rfl, hb⟩
        have HB := hide (gr_trans u hb)
        clear hb m0 m1 m2 m3 m4 m5 m6
        go_wp2
        go_ret
        exact ⟨rfl, HB.out⟩
      · obtain ⟨hzn, hzo⟩ := HDT.out (by trivial)
        have HZA := hide (rowAt_no (show rowIdx zv.rows r.i = none from hzn))
        have HZO : Hid (vtabOk zv (p1 : Int) = true) := hide (by have h : vtabOk zv xv.own.length = true := hzo; rw [HOWN.out] at h; exact h)
        have HZR : Hid (∀ x ∈ zv.rows, x.Rng) := hide (by
          have hd := hF2.drop r.i
          have e : dropRow xv r.i = (zv, true) := HDR.out
          have hd : Fine (dropRow xv r.i).1 _ _ := hd
          rw [e] at hd
          exact fun x hx => (hd.rows x hx).1)
        clear hzn hzo
        obtain ⟨⟨m0, m1⟩, -⟩ := cells2 kZ
        obtain ⟨⟨m2, m3, m4⟩, -⟩ := cells3 kR
        go_wp2_with fail
        refine (implRowAt_any _ _ _ zv.rows _ _ _ r.i _ t6.tab.rows).mono ?_
        rintro e w8 ⟨rfl, hb⟩
        rw [HZA.out]
        clear m0 m1 m2 m3 m4
        have t1 := t1.below hb
        have t2 := t2.below hb
        have t3 := t3.below hb
        have t6 := t6.below hb
        have kV := kept_block kV hb
        have kR := kept_block kR hb
        have kX := kept_block kX hb
        have kY := kept_block kY hb
        have kZ := kept_block kZ hb
        have u := gr_trans u hb
        clear hb
        obtain ⟨⟨m0, m1⟩, -⟩ := cells2 kZ
        go_wp2_with fail
        refine (implVtabOk_any _ _ _ _ _ _ zv (p1 : Int) _ t6.tab HZR.out).mono ?_
        rintro e w9 ⟨rfl, hb⟩
        rw [HZO.out]
        have HB := hide (gr_trans u hb)
        clear hb m0 m1
        go_wp2
        go_ret
        exact ⟨rfl, HB.out⟩
    exact AllReadyH.nil

theorem fnNetworks_own : ownKnob Try.prog.godebug = none := by kernel_rfl
theorem fnNetworks_laid : laidOutB Try.prog = true := by kernel_rfl

open Go.ChangeShapes Go.WideShapes Go.ChangeAt in
open Go.ChangeMaps (open_string shut_string) in
set_option maxRecDepth 100000 in
theorem fnNetworks_lifted (os : Os) (started : os.Started) (H : Type) (enc : TypeId × Value → H) :
    ReturnsInHanded {} Try.checked os 3 .any (Rows.fnNetworksSpec.pre6 enc Try.prog Try.f3 Rows.fnNetworksRow.domain false) (Rows.fnNetworksSpec.post enc Try.prog Try.f3 false true false false) := by
  refine returnsInHanded_of_change (C := Try.checked) fnNetworks_own started (by kernel_rfl) Try.func3
    (ChangeSpec.witness6 (enc := enc) (C := Try.checked) false ⟨#[], #[.slice none 0 0], []⟩ 8 (by kernel_rfl) (by kernel_rfl) (by kernel_rfl) (by kernel_rfl)) ?_
  intro W base args ds gs before hval0 hW hcnd _
  have hval : ∀ (j : Nat) t v, Try.f3.params[j]? = some t → args[j]? = some v → Value.okWide Try.prog W .any base t v := hval0
  have hW' := hW
  obtain ⟨p, q, hA0, hV, rfl, hfz, hnd⟩ := hW
  have hA : DataW.TrodAll enc Try.prog W 0 (fun _ => true) true Try.f3.params.toList args.toList ds p := hA0
  rw [Try.params3] at hA hval
  obtain ⟨v0, vs0, d0, ds0, p0, q0, hargs, rfl, rfl, h0, r0⟩ := trodAll_cons hA
  obtain ⟨rfl, rfl, rfl⟩ := trodAll_nil r0
  obtain rfl : args = #[v0] := by cases args; simp_all
  obtain ⟨rfl, rfl⟩ := trodVars_none hV
  obtain ⟨a0, len0, cap0, rfl⟩ := okWide_slice Try.underlying22 (hval 0 22 v0 rfl rfl)
  have k0 := h0
  have lt0 : ∀ x ∈ p0, x.block < W.heap.size := by obtain ⟨m, hm⟩ := k0; exact DataW.trod_lt m _ _ _ hm
  obtain ⟨z0, w0⟩ : ∃ zs, Row W a0 len0 cap0 zs := by
    obtain ⟨fuel, hf⟩ := h0
    rcases open_ints Try.underlying22 Try.underlying5 (by kernel_rfl) hf with ⟨hcs, _⟩ | ⟨x, l, c, zs, hcs, _, hl, hm, hz, _, hcell, hwz⟩
    · simp [Value.cells] at hcs
      obtain ⟨rfl, rfl, rfl⟩ := hcs
      exact ⟨[], row_nil W⟩
    · simp [Value.cells] at hcs
      obtain ⟨rfl, rfl, rfl⟩ := hcs
      exact ⟨zs.take len0, row_open hl hm (by simpa using hz) hcell hwz⟩
  clear hA0 hval0
  refine (networks_walk a0 len0 cap0 z0 W w0).mono fun e W' ⟨he, bel⟩ => ?_
  subst he
  exact ⟨_, rfl, _, _, _, [], _, [], hW', trodAll_mk1 (shut_bool Try.underlying4 _), (trodAll_cons_mk (Below.trod fnNetworks_laid (by kernel_rfl) (of_decide_eq_true (by kernel_rfl)) k0 bel lt0) trodAll_mk0), rfl, bel.frame _, fun h => by cases h⟩

theorem fnNetworks_holds : Rows.FnNetworksSaid :=
  OpenClaim.holds_of_wide 3 Try.f3 rfl rfl rfl rfl rfl rfl rfl ⟨rfl, rfl, rfl, rfl, rfl⟩ rfl rfl rfl rfl rfl (by kernel_rfl) Try.func3 (by kernel_rfl)
    (of_decide_eq_true (by kernel_rfl)) (by unfold Func.isWrapper; first | (rw [if_pos (by decide +kernel)]; kernel_rfl) | (rw [if_neg (by decide +kernel)]; exact ⟨rfl, rfl⟩))
    (fun os started H enc _ => fnNetworks_lifted os started H enc)

#print axioms fnNetworks_holds

end Go.Proofs.Ytafonmfgeecopaa
