/-
  A row put, as the specification has it.
-/
import Derived.Test.YtafonmfgeecopaaVtabRow
namespace Go.Proofs.Ytafonmfgeecopaa
open Go.RowKit

def putRow (v : VT) (r : VR) : VT × Bool := if vtabOk v v.own.length then orV ⟨putRowF v.rows r false, v.own⟩ v else (v, false)

set_option maxRecDepth 100000 in
set_option maxHeartbeats 4000000 in
theorem specPutRow_made (a : Option Addr) (n c : Nat) (o : Option Addr) (p q : Nat) (v : VT) (r : VR) (w : World) (h : VTab w a n c o p q v) (hn : n ≤ 16777216) (hp : p ≤ 16777216) :
    Calls Try.prog 12 #[.agg #[.slice a n c, .slice o p q], .agg #[.int .i64 r.i, .int .i64 r.m, .int .i64 r.b]] w fun e w' => ∃ a' n' c' o' p' q', e = .returned (.tuple #[.agg #[.slice a' n' c', .slice o' p' q'], .bool (putRow v r).2]) ∧ VOwn w' w.heap.size a' n' c' o' p' q' (putRow v r).1 ∧ Below w.heap.size w w' := by
  generalize hw1 : w.alloc (Obj.cells #[Value.slice a n c, Value.slice o p q] 27) = w1
  generalize hw2 : w1.alloc (Obj.cells #[Value.int .i64 r.i, Value.int .i64 r.m, Value.int .i64 r.b] 29) = w2
  generalize hw3 : w2.alloc (Obj.cells #[Value.slice none 0 0, Value.slice none 0 0] 27) = w3
  have b01 : Below w.heap.size w w1 := by subst hw1; exact below_one _ _
  have b12 : Below w1.heap.size w1 w2 := by subst hw2; exact below_one _ _
  have b23 : Below w2.heap.size w2 w3 := by subst hw3; exact below_one _ _
  have b13 := gr_trans b12 b23
  have b03 := gr_trans b01 b13
  have k2 : w3.heap[w2.heap.size]? = some (.cells #[.slice none 0 0, .slice none 0 0] 27) := by rw [← hw3]; exact block_last _ _
  have z3 : Hid (w2.heap.size < w3.heap.size) := hide (by rw [← hw3]; simp)
  obtain ⟨e0, e0x⟩ := box_two hw1 b12
  have kr : w2.heap[w1.heap.size]? = some (.cells #[.int .i64 r.i, .int .i64 r.m, .int .i64 r.b] 29) := by rw [← hw2]; exact block_last _ _
  obtain ⟨⟨e1, e2, e3⟩, -⟩ := cells3 kr
  have hb1 := box_two hw1 b13
  have h3 := h.below b03
  have hl := h.own.size
  unfold putRow
  rw [hl]
  cases hok : vtabOk v p
  · rw [if_neg Bool.false_ne_true]
    go_enter Try.func12, Try.ntmps12
    go_wp2_with (refine (specVtabOk_any a n c o p q v (p : Int) _ h3).mono ?_; rintro e w4 ⟨rfl, hb4⟩; rw [hok]; have hc1 := box_two hw1 (gr_trans b13 hb4))
    go_wp2_with (refine (specCopyV_made a n c o p q v _ (h3.below hb4) hn hp).mono ?_; rintro e w5 ⟨a', c', o', q', rfl, hO, hb5⟩; obtain ⟨⟨g0, g1⟩, f0, f1⟩ := cells2 (kept_block k2 (gr_trans hb4 hb5)))
    have hbW : Below w.heap.size w ((w5.setCell ⟨w2.heap.size, 0, none⟩ (.slice a' n c')).setCell ⟨w2.heap.size, 1, none⟩ (.slice o' p q')) := below_set (below_set (gr_trans b03 (gr_trans hb4 hb5)) (gr_trans b01 b12).size _ _) (gr_trans b01 b12).size _ _
    have hO' := (hO.set2 (g := w2.heap.size) (by have := hb4.size; have := z3.out; omega) (.slice a' n c') (.slice o' p q')).lt (base' := w.heap.size) (by have := hb4.size; have := b03.size; omega)
    have HO := hide hO'
    clear hO hO'
    exact bodyPost_ret (v := .tuple #[.agg #[.slice a' n c', .slice o' p q'], .bool false]) (by simp [results, Try.results12, go_sem, *]) rfl ⟨_, _, _, _, _, _, rfl, HO.out, hbW⟩
  · rw [if_pos rfl]
    go_enter Try.func12, Try.ntmps12
    go_wp2_with (refine (specVtabOk_any a n c o p q v (p : Int) _ h3).mono ?_; rintro e w4 ⟨rfl, hb4⟩; rw [hok])
    have vv : Below w3.heap.size w3 w4.drew := gr_drew hb4
    have vb : Below w2.heap.size w2 w4.drew := gr_trans b23 vv
    refine wp_region_held_drew (S := (fun W => W.cell? ⟨w.heap.size, 0, none⟩ = some (.slice a n c) ∧ W.cell? ⟨w.heap.size, 1, none⟩ = some (.slice o p q) ∧ W.cell? ⟨w1.heap.size, 0, none⟩ = some (.int .i64 r.i) ∧ W.cell? ⟨w1.heap.size, 1, none⟩ = some (.int .i64 r.m) ∧ W.cell? ⟨w1.heap.size, 2, none⟩ = some (.int .i64 r.b))) (by kernel_rfl) (⟨kept_cell e0 vb, kept_cell e0x vb, kept_cell e1 vb, kept_cell e2 vb, kept_cell e3 vb⟩) (fun hHeld => ?_)
    refine wpAnyH_take (i := 0) (oi := { dst := some 14, op := Op.load 27 (Operand.tmp 2), type := 27, pos := "l09_vlan.go:113", after := #[], guard := none }) (v := ?_) rfl (by kernel_rfl) (by kernel_rfl) (by kernel_rfl) (fun _ _ _ h => h) (Or.inl ⟨by rfl, ?_⟩) (by assumption) ?_
    rotate_left
    · (intro wY hSw; (try dsimp only at hSw); go_simp; try with_reducible rfl)
    simp only [Act.put, List.setIfInBounds_toArray, List.set_cons_zero, List.set_cons_succ]
    refine wpAnyH_take (i := 1) (oi := { dst := some 15, op := Op.load 29 (Operand.tmp 3), type := 29, pos := "l09_vlan.go:113", after := #[], guard := none }) (v := ?_) rfl (by kernel_rfl) (by kernel_rfl) (by kernel_rfl) (fun _ _ _ h => h) (Or.inl ⟨by rfl, ?_⟩) (by assumption) ?_
    rotate_left
    · (intro wY hSw; (try dsimp only at hSw); go_simp; try with_reducible rfl)
    simp only [Act.put, List.setIfInBounds_toArray, List.set_cons_zero, List.set_cons_succ]
    refine wpAnyH_take (i := 3) (oi := { dst := some 17, op := Op.load 27 (Operand.tmp 2), type := 27, pos := "l09_vlan.go:113", after := #[], guard := none }) (v := ?_) rfl (by kernel_rfl) (by kernel_rfl) (by kernel_rfl) (fun _ _ _ h => h) (Or.inl ⟨by rfl, ?_⟩) (by assumption) ?_
    rotate_left
    · (intro wY hSw; (try dsimp only at hSw); go_simp; try with_reducible rfl)
    simp only [Act.put, List.setIfInBounds_toArray, List.set_cons_zero, List.set_cons_succ]
    refine wpAnyH_ready (rs := [2]) (by kernel_rfl) (by simp) ?_
    refine AllReadyH.cons (o := { dst := some 16, op := Op.call { callee := Callee.value (Operand.func 56), args := #[Operand.tmp 14, Operand.tmp 15], argTypes := #[27, 29] }, type := 27, pos := "l09_vlan.go:113", after := #[{ on := 0, ground := Ground.data }, { on := 1, ground := Ground.data }], guard := none }) rfl (fun K hK => ?_) ?_
    · go_simp
      refine (specRow_made a n c o p q v r _ (h3.below vv) hn hp).mono ?_
      rintro e w5 ⟨a5, n5, c5, o5, q5, rfl, hO5, hb5⟩
      have hO5 := hO5.lt (base' := w3.heap.size) vv.size
      have vv := gr_trans vv hb5
      have vb := gr_trans vb hb5
      go_wp2_with fail
      refine hK.out _ _ (⟨kept_cell e0 vb, kept_cell e0x vb, kept_cell e1 vb, kept_cell e2 vb, kept_cell e3 vb⟩) (fun hHeld => ?_)
      clear hK K
      try simp only [Act.put, List.setIfInBounds_toArray, List.set_cons_zero, List.set_cons_succ]
      refine wpAnyH_ready (rs := [4]) (by kernel_rfl) (by simp) ?_
      refine AllReadyH.cons (o := { dst := some 18, op := Op.call { callee := Callee.value (Operand.func 55), args := #[Operand.tmp 16, Operand.tmp 17], argTypes := #[27, 27] }, type := 32, pos := "l09_vlan.go:113", after := #[{ on := 2, ground := Ground.data }, { on := 3, ground := Ground.data }, { on := 2, ground := Ground.chain }], guard := none }) rfl (fun K hK => ?_) ?_
      · go_simp
        refine (specOr_made w3.heap.size a5 n5 c5 o5 p q5 _ a n c o p q v _ hO5 (h3.below vv) hn hp vv.size).mono ?_
        rintro e w6 ⟨a6, n6, c6, o6, p6, q6, rfl, hO6, hb6⟩
        have vv := gr_trans vv hb6
        have vb := gr_trans vb hb6
        clear hO5
        go_wp2_with fail
        refine hK.out _ _ (⟨kept_cell e0 vb, kept_cell e0x vb, kept_cell e1 vb, kept_cell e2 vb, kept_cell e3 vb⟩) (fun hHeld => ?_)
        clear hK K
        try simp only [Act.put, List.setIfInBounds_toArray, List.set_cons_zero, List.set_cons_succ]
        refine wpAnyH_take (i := 5) (oi := { dst := some 19, op := Op.extract (Operand.tmp 18) 0, type := 27, pos := "l09_vlan.go:113", after := #[{ on := 4, ground := Ground.data }], guard := none }) (v := ?_) rfl (by kernel_rfl) (by kernel_rfl) (by kernel_rfl) (fun _ _ _ h => h) (Or.inl ⟨by rfl, ?_⟩) (by assumption) ?_
        rotate_left
        · (intro wY hSw; (try dsimp only at hSw); go_simp; try with_reducible rfl)
        simp only [Act.put, List.setIfInBounds_toArray, List.set_cons_zero, List.set_cons_succ]
        refine wpAnyH_take (i := 6) (oi := { dst := some 20, op := Op.extract (Operand.tmp 18) 1, type := 4, pos := "l09_vlan.go:113", after := #[{ on := 4, ground := Ground.data }], guard := none }) (v := ?_) rfl (by kernel_rfl) (by kernel_rfl) (by kernel_rfl) (fun _ _ _ h => h) (Or.inl ⟨by rfl, ?_⟩) (by assumption) ?_
        rotate_left
        · (intro wY hSw; (try dsimp only at hSw); go_simp; try with_reducible rfl)
        simp only [Act.put, List.setIfInBounds_toArray, List.set_cons_zero, List.set_cons_succ]
        refine wpAnyH_ready (rs := [7]) (by kernel_rfl) (by simp) ?_
        refine AllReadyH.cons (o := { dst := none, op := Op.store 27 (Operand.tmp 4) (Operand.tmp 19), type := 0, pos := "l09_vlan.go:113", after := #[{ on := 5, ground := Ground.data }, { on := 4, ground := Ground.chain }, { on := 0, ground := Ground.phase }, { on := 1, ground := Ground.phase }, { on := 2, ground := Ground.phase }, { on := 3, ground := Ground.phase }, { on := 4, ground := Ground.phase }, { on := 5, ground := Ground.phase }, { on := 6, ground := Ground.phase }], guard := none }) rfl (fun K hK => ?_) ?_
        · obtain ⟨⟨g0, g1⟩, f0, f1⟩ := cells2 (kept_block k2 vv)
          go_simp
          have vb := below_set (below_set vb (Nat.le_refl _) 0 (.slice a6 n6 c6)) (Nat.le_refl _) 1 (.slice o6 p6 q6)
          have hO6 := hO6.set2 (g := w2.heap.size) z3.out (.slice a6 n6 c6) (.slice o6 p6 q6)
          refine hK.out _ _ (⟨kept_cell e0 vb, kept_cell e0x vb, kept_cell e1 vb, kept_cell e2 vb, kept_cell e3 vb⟩) (fun hHeld => ?_)
          clear hK K
          try simp only [Act.put, List.setIfInBounds_toArray, List.set_cons_zero, List.set_cons_succ]
          refine wpAnyH_take (i := 8) (oi := { dst := some 5, op := Op.assign (Operand.tmp 20), type := 4, pos := "l09_vlan.go:113", after := #[{ on := 6, ground := Ground.data }, { on := 7, ground := Ground.chain }, { on := 0, ground := Ground.phase }, { on := 1, ground := Ground.phase }, { on := 2, ground := Ground.phase }, { on := 3, ground := Ground.phase }, { on := 4, ground := Ground.phase }, { on := 5, ground := Ground.phase }, { on := 6, ground := Ground.phase }, { on := 7, ground := Ground.phase }], guard := none }) (v := ?_) rfl (by kernel_rfl) (by kernel_rfl) (by kernel_rfl) (fun _ _ _ h => h) (Or.inl ⟨by rfl, ?_⟩) (by assumption) ?_
          rotate_left
          · (intro wY hSw; (try dsimp only at hSw); go_simp; try with_reducible rfl)
          simp only [Act.put, List.setIfInBounds_toArray, List.set_cons_zero, List.set_cons_succ]
          refine wpAnyH_done (by kernel_rfl) ?_ _
          have HO := hide (hO6.lt (base' := w.heap.size) b03.size)
          have HB := hide (gr_trans (gr_trans b01 b12) vb)
          clear hO6
          go_wp2
          exact bodyPost_ret (v := .tuple #[.agg #[.slice a6 n6 c6, .slice o6 p6 q6], .bool (orV ⟨putRowF v.rows r false, v.own⟩ v).2]) (by simp [results, Try.results12, go_sem, *]) rfl ⟨_, _, _, _, _, _, rfl, HO.out, HB.out⟩
        exact AllReadyH.nil
      exact AllReadyH.nil
    exact AllReadyH.nil

end Go.Proofs.Ytafonmfgeecopaa
