/-
  A row put, the program's own.
-/
import Derived.Test.YtafonmfgeecopaaVlanWith
import Derived.Test.YtafonmfgeecopaaVtabPut
namespace Go.Proofs.Ytafonmfgeecopaa
open Go.RowKit

theorem putRow_is {v : VT} {r : VR} {L : List VR} (h : vrises v.rows = true → L = putRowF v.rows r false) : putRow v r = ifRight v ⟨L, v.own⟩ := by
  unfold putRow ifRight orV
  cases h1 : vtabOk v v.own.length
  · rfl
  · rw [h (vtab_rises h1)]
    simp

set_option maxRecDepth 100000 in
set_option maxHeartbeats 4000000 in
theorem implPutRow_made (a : Option Addr) (n c : Nat) (o : Option Addr) (p q : Nat) (v : VT) (r : VR) (w : World) (h : VTab w a n c o p q v) (hA : a = none ∨ ∃ b off, a = some ⟨b, off, none⟩) (hn : n ≤ 16777216) (hp : p ≤ 16777216) (hRg : ∀ x ∈ v.rows, x.Rng) (hrr : r.Rng) :
    Calls Try.prog 11 #[.agg #[.slice a n c, .slice o p q], .agg #[.int .i64 r.i, .int .i64 r.m, .int .i64 r.b]] w fun e w' => ∃ a' n' c' o' p' q', e = .returned (.tuple #[.agg #[.slice a' n' c', .slice o' p' q'], .bool (putRow v r).2]) ∧ VOwn w' w.heap.size a' n' c' o' p' q' (putRow v r).1 ∧ Below w.heap.size w w' := by
  generalize hw1 : w.alloc (Obj.cells #[Value.slice a n c, Value.slice o p q] 27) = w1
  generalize hw2 : w1.alloc (Obj.cells #[Value.int .i64 r.i, Value.int .i64 r.m, Value.int .i64 r.b] 29) = w2
  generalize hw3 : w2.alloc (Obj.cells #[Value.slice none 0 0, Value.slice none 0 0] 27) = w3
  have b01 : Below w.heap.size w w1 := by subst hw1; exact below_one _ _
  have b12 : Below w1.heap.size w1 w2 := by subst hw2; exact below_one _ _
  have b23 : Below w2.heap.size w2 w3 := by subst hw3; exact below_one _ _
  have b13 := gr_trans b12 b23
  have b03 := gr_trans b01 b13
  have k2 : w3.heap[w2.heap.size]? = some (.cells #[.slice none 0 0, .slice none 0 0] 27) := by rw [← hw3]; exact block_last _ _
  have z3 : Hid (w2.heap.size < w3.heap.size) := hide (by rw [← hw3]; simp)
  have kr : w2.heap[w1.heap.size]? = some (.cells #[.int .i64 r.i, .int .i64 r.m, .int .i64 r.b] 29) := by rw [← hw2]; exact block_last _ _
  have vv : Below w3.heap.size w3 w3.drew := gr_drew (Below.refl _ _)
  have vb : Below w1.heap.size w1 w3.drew := gr_drew b13
  have vc : Below w2.heap.size w2 w3.drew := gr_drew b23
  go_enter Try.func11, Try.ntmps11
  go_wp2_with fail
  refine wp_region_held_drew (S := (fun W => (W.cell? ⟨w.heap.size, 0, none⟩ = some (.slice a n c) ∧ W.cell? ⟨w.heap.size, 1, none⟩ = some (.slice o p q)) ∧ (W.cell? ⟨w1.heap.size, 0, none⟩ = some (.int .i64 r.i) ∧ W.cell? ⟨w1.heap.size, 1, none⟩ = some (.int .i64 r.m) ∧ W.cell? ⟨w1.heap.size, 2, none⟩ = some (.int .i64 r.b)))) (by kernel_rfl) (⟨box_two hw1 vb, (cells3 (kept_block kr vc)).1⟩) (fun hHeld => ?_)
  refine wpAnyH_take (i := 0) (oi := { dst := some 6, op := Op.load 27 (Operand.tmp 2), type := 27, pos := "l09_vlan.go:86", after := #[], guard := none }) (v := ?_) rfl (by kernel_rfl) (by kernel_rfl) (by kernel_rfl) (fun _ _ _ h => h) (Or.inl ⟨by rfl, ?_⟩) (by assumption) ?_
  rotate_left
  · (intro wY hSw; (try dsimp only at hSw); go_simp; try with_reducible rfl)
  simp only [Act.put, List.setIfInBounds_toArray, List.set_cons_zero, List.set_cons_succ]
  refine wpAnyH_take (i := 1) (oi := { dst := some 7, op := Op.load 27 (Operand.tmp 2), type := 27, pos := "l09_vlan.go:86", after := #[], guard := none }) (v := ?_) rfl (by kernel_rfl) (by kernel_rfl) (by kernel_rfl) (fun _ _ _ h => h) (Or.inl ⟨by rfl, ?_⟩) (by assumption) ?_
  rotate_left
  · (intro wY hSw; (try dsimp only at hSw); go_simp; try with_reducible rfl)
  simp only [Act.put, List.setIfInBounds_toArray, List.set_cons_zero, List.set_cons_succ]
  refine wpAnyH_take (i := 3) (oi := { dst := some 9, op := Op.load 29 (Operand.tmp 3), type := 29, pos := "l09_vlan.go:86", after := #[], guard := none }) (v := ?_) rfl (by kernel_rfl) (by kernel_rfl) (by kernel_rfl) (fun _ _ _ h => h) (Or.inl ⟨by rfl, ?_⟩) (by assumption) ?_
  rotate_left
  · (intro wY hSw; (try dsimp only at hSw); go_simp; try with_reducible rfl)
  simp only [Act.put, List.setIfInBounds_toArray, List.set_cons_zero, List.set_cons_succ]
  refine wpAnyH_take (i := 5) (oi := { dst := some 11, op := Op.fieldAddr 27 (Operand.tmp 2) 1, type := 0, pos := "l09_vlan.go:86", after := #[], guard := none }) (v := ?_) rfl (by kernel_rfl) (by kernel_rfl) (by kernel_rfl) (fun _ _ _ h => h) (Or.inl ⟨by rfl, ?_⟩) (by assumption) ?_
  rotate_left
  · (intro wY hSw; (try dsimp only at hSw); go_simp; try with_reducible rfl)
  simp only [Act.put, List.setIfInBounds_toArray, List.set_cons_zero, List.set_cons_succ]
  refine wpAnyH_take (i := 6) (oi := { dst := some 12, op := Op.load 25 (Operand.tmp 11), type := 25, pos := "l09_vlan.go:86", after := #[{ on := 5, ground := Ground.data }], guard := none }) (v := ?_) rfl (by kernel_rfl) (by kernel_rfl) (by kernel_rfl) (fun _ _ _ h => h) (Or.inl ⟨by rfl, ?_⟩) (by assumption) ?_
  rotate_left
  · (intro wY hSw; (try dsimp only at hSw); go_simp; try with_reducible rfl)
  simp only [Act.put, List.setIfInBounds_toArray, List.set_cons_zero, List.set_cons_succ]
  refine wpAnyH_ready (rs := [2]) (by kernel_rfl) (by simp) ?_
  refine AllReadyH.cons (o := { dst := some 8, op := Op.call { callee := Callee.value (Operand.func 51), args := #[Operand.tmp 7], argTypes := #[27] }, type := 65, pos := "l09_vlan.go:86", after := #[{ on := 1, ground := Ground.data }], guard := none }) rfl (fun K hK => ?_) ?_
  · go_simp
    refine (implRowsOf_any a n c o p q _).mono ?_
    rintro e wx ⟨rfl, hbx⟩
    try have hI := gown_below hI hbx
    have vv := gr_trans vv hbx
    have vb := gr_trans vb hbx
    have vc := gr_trans vc hbx
    clear hbx
    go_wp2_with fail
    refine hK.out _ _ (⟨box_two hw1 vb, (cells3 (kept_block kr vc)).1⟩) (fun hHeld => ?_)
    clear hK K
    try simp only [Act.put, List.setIfInBounds_toArray, List.set_cons_zero, List.set_cons_succ]
    refine wpAnyH_ready (rs := [4]) (by kernel_rfl) (by simp) ?_
    refine AllReadyH.cons (o := { dst := some 10, op := Op.call { callee := Callee.value (Operand.func 52), args := #[Operand.tmp 8, Operand.tmp 9], argTypes := #[65, 29] }, type := 65, pos := "l09_vlan.go:86", after := #[{ on := 2, ground := Ground.data }, { on := 3, ground := Ground.data }, { on := 2, ground := Ground.chain }], guard := none }) rfl (fun K hK => ?_) ?_
    · go_simp
      refine (implWith_made a n c v.rows r _ (h.rows.below (gr_trans b03 vv)) hA hn).mono ?_
      rintro e wx ⟨aR, nR, cR, L, rfl, hnR, how, hL1, hL2, hbx⟩
      have hR := gown_lt how (base' := w3.heap.size) vv.size
      have HL := hide (And.intro hL1 hL2)
      try have hI := gown_below hI hbx
      have vv := gr_trans vv hbx
      have vb := gr_trans vb hbx
      have vc := gr_trans vc hbx
      clear how hbx hL1 hL2
      go_wp2_with fail
      refine hK.out _ _ (⟨box_two hw1 vb, (cells3 (kept_block kr vc)).1⟩) (fun hHeld => ?_)
      clear hK K
      try simp only [Act.put, List.setIfInBounds_toArray, List.set_cons_zero, List.set_cons_succ]
      refine wpAnyH_ready (rs := [7]) (by kernel_rfl) (by simp) ?_
      refine AllReadyH.cons (o := { dst := some 13, op := Op.call { callee := Callee.value (Operand.func 53), args := #[Operand.tmp 12], argTypes := #[25] }, type := 25, pos := "l09_vlan.go:86", after := #[{ on := 6, ground := Ground.data }, { on := 4, ground := Ground.chain }], guard := none }) rfl (fun K hK => ?_) ?_
      · go_simp
        refine (cloneI_any o p q v.own _ ((h.own.below (gr_trans b03 vv)).flat) hp).mono ?_
        rintro e wx ⟨aI, cI', rfl, how, hbx⟩
        have hI := gown_lt how (base' := w3.heap.size) vv.size
        try have hR := gown_below hR hbx
        have vv := gr_trans vv hbx
        have vb := gr_trans vb hbx
        have vc := gr_trans vc hbx
        clear how hbx
        go_wp2_with fail
        refine hK.out _ _ (⟨box_two hw1 vb, (cells3 (kept_block kr vc)).1⟩) (fun hHeld => ?_)
        clear hK K
        try simp only [Act.put, List.setIfInBounds_toArray, List.set_cons_zero, List.set_cons_succ]
        refine wpAnyH_take (i := 8) (oi := { dst := some 14, op := Op.build 27 #[(0, Operand.tmp 10), (1, Operand.tmp 13)], type := 27, pos := "l09_vlan.go:86", after := #[{ on := 4, ground := Ground.data }, { on := 7, ground := Ground.data }], guard := none }) (v := ?_) rfl (by kernel_rfl) (by kernel_rfl) (by kernel_rfl) (fun _ _ _ h => h) (Or.inl ⟨by rfl, ?_⟩) (by assumption) ?_
        rotate_left
        · (intro wY hSw; (try dsimp only at hSw); go_simp; try with_reducible rfl)
        simp only [Act.put, List.setIfInBounds_toArray, List.set_cons_zero, List.set_cons_succ]
        refine wpAnyH_ready (rs := [9]) (by kernel_rfl) (by simp) ?_
        refine AllReadyH.cons (o := { dst := some 15, op := Op.call { callee := Callee.value (Operand.func 50), args := #[Operand.tmp 6, Operand.tmp 14], argTypes := #[27, 27] }, type := 32, pos := "l09_vlan.go:86", after := #[{ on := 0, ground := Ground.data }, { on := 8, ground := Ground.data }, { on := 7, ground := Ground.chain }], guard := none }) rfl (fun K hK => ?_) ?_
        · go_simp
          refine (implIfRight_made w3.heap.size a n c o p q v aR nR cR aI p cI' ⟨L, v.own⟩ _ (h.below (gr_trans b03 vv)) ⟨hR, (by rw [← intF_all]; exact hI), h.own.byte⟩ vv.size hn hp hRg (fun x hx => by rcases HL.out.2 x hx with hx | rfl; exact hRg x hx; exact hrr)).mono ?_
          rintro e wx ⟨a7, n7, c7, o7, p7, q7, rfl, hO7, hbx⟩
          rw [← putRow_is HL.out.1] at hO7 ⊢
          have vv := gr_trans vv hbx
          have vb := gr_trans vb hbx
          have vc := gr_trans vc hbx
          clear hR hI hbx
          go_wp2_with fail
          refine hK.out _ _ (⟨box_two hw1 vb, (cells3 (kept_block kr vc)).1⟩) (fun hHeld => ?_)
          clear hK K
          try simp only [Act.put, List.setIfInBounds_toArray, List.set_cons_zero, List.set_cons_succ]
          refine wpAnyH_take (i := 10) (oi := { dst := some 16, op := Op.extract (Operand.tmp 15) 0, type := 27, pos := "l09_vlan.go:86", after := #[{ on := 9, ground := Ground.data }], guard := none }) (v := ?_) rfl (by kernel_rfl) (by kernel_rfl) (by kernel_rfl) (fun _ _ _ h => h) (Or.inl ⟨by rfl, ?_⟩) (by assumption) ?_
          rotate_left
          · (intro wY hSw; (try dsimp only at hSw); go_simp; try with_reducible rfl)
          simp only [Act.put, List.setIfInBounds_toArray, List.set_cons_zero, List.set_cons_succ]
          refine wpAnyH_take (i := 11) (oi := { dst := some 17, op := Op.extract (Operand.tmp 15) 1, type := 4, pos := "l09_vlan.go:86", after := #[{ on := 9, ground := Ground.data }], guard := none }) (v := ?_) rfl (by kernel_rfl) (by kernel_rfl) (by kernel_rfl) (fun _ _ _ h => h) (Or.inl ⟨by rfl, ?_⟩) (by assumption) ?_
          rotate_left
          · (intro wY hSw; (try dsimp only at hSw); go_simp; try with_reducible rfl)
          simp only [Act.put, List.setIfInBounds_toArray, List.set_cons_zero, List.set_cons_succ]
          refine wpAnyH_ready (rs := [12]) (by kernel_rfl) (by simp) ?_
          refine AllReadyH.cons (o := { dst := none, op := Op.store 27 (Operand.tmp 4) (Operand.tmp 16), type := 0, pos := "l09_vlan.go:86", after := #[{ on := 10, ground := Ground.data }, { on := 9, ground := Ground.chain }, { on := 0, ground := Ground.phase }, { on := 1, ground := Ground.phase }, { on := 2, ground := Ground.phase }, { on := 3, ground := Ground.phase }, { on := 4, ground := Ground.phase }, { on := 5, ground := Ground.phase }, { on := 6, ground := Ground.phase }, { on := 7, ground := Ground.phase }, { on := 8, ground := Ground.phase }, { on := 9, ground := Ground.phase }, { on := 10, ground := Ground.phase }, { on := 11, ground := Ground.phase }], guard := none }) rfl (fun K hK => ?_) ?_
          · obtain ⟨⟨g0, g1⟩, f0, f1⟩ := cells2 (kept_block k2 vv)
            go_simp
            have hO7 := hO7.set2 (g := w2.heap.size) z3.out (.slice a7 n7 c7) (.slice o7 p7 q7)
            have vb := below_set (below_set vb b12.size 0 (.slice a7 n7 c7)) b12.size 1 (.slice o7 p7 q7)
            have vc := below_set (below_set vc (Nat.le_refl _) 0 (.slice a7 n7 c7)) (Nat.le_refl _) 1 (.slice o7 p7 q7)
            refine hK.out _ _ (⟨box_two hw1 vb, (cells3 (kept_block kr vc)).1⟩) (fun hHeld => ?_)
            clear hK K
            try simp only [Act.put, List.setIfInBounds_toArray, List.set_cons_zero, List.set_cons_succ]
            refine wpAnyH_take (i := 13) (oi := { dst := some 5, op := Op.assign (Operand.tmp 17), type := 4, pos := "l09_vlan.go:86", after := #[{ on := 11, ground := Ground.data }, { on := 12, ground := Ground.chain }, { on := 0, ground := Ground.phase }, { on := 1, ground := Ground.phase }, { on := 2, ground := Ground.phase }, { on := 3, ground := Ground.phase }, { on := 4, ground := Ground.phase }, { on := 5, ground := Ground.phase }, { on := 6, ground := Ground.phase }, { on := 7, ground := Ground.phase }, { on := 8, ground := Ground.phase }, { on := 9, ground := Ground.phase }, { on := 10, ground := Ground.phase }, { on := 11, ground := Ground.phase }, { on := 12, ground := Ground.phase }], guard := none }) (v := ?_) rfl (by kernel_rfl) (by kernel_rfl) (by kernel_rfl) (fun _ _ _ h => h) (Or.inl ⟨by rfl, ?_⟩) (by assumption) ?_
            rotate_left
            · (intro wY hSw; (try dsimp only at hSw); go_simp; try with_reducible rfl)
            simp only [Act.put, List.setIfInBounds_toArray, List.set_cons_zero, List.set_cons_succ]
            refine wpAnyH_done (by kernel_rfl) ?_ _
            have HO := hide (hO7.lt (base' := w.heap.size) b03.size)
            have HB := hide (gr_trans b01 vb)
            clear hO7
            go_wp2
            exact bodyPost_ret (v := .tuple #[.agg #[.slice a7 n7 c7, .slice o7 p7 q7], .bool (putRow v r).2]) (by simp [results, Try.results11, go_sem, *]) rfl ⟨_, _, _, _, _, _, rfl, HO.out, HB.out⟩
          exact AllReadyH.nil
        exact AllReadyH.nil
      exact AllReadyH.nil
    exact AllReadyH.nil
  exact AllReadyH.nil

end Go.Proofs.Ytafonmfgeecopaa
