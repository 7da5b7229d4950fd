/-
  A row dropped, as the specification has it.
-/
import Derived.Test.YtafonmfgeecopaaVtabRowM
import Derived.Test.YtafonmfgeecopaaVtabDropM
namespace Go.Proofs.Ytafonmfgeecopaa
open Go.RowKit

theorem GRow.take {α : Type} {F : Flat α} {w : World} {ao : Option Addr} {n c k : Nat} {l : List α} (h : GRow F w ao n c l) (hk : k ≤ n) : GRow F w ao k c (l.take k) where
  size := by have := h.size; simp; omega
  le := Nat.le_trans hk h.le
  top := h.top
  nil := h.nil
  cell := by
    rcases h.cell with h0 | ⟨b, off, ha, hc⟩
    · exact .inl (by omega)
    · refine .inr ⟨b, off, ha, fun i x hi j v hv => hc i x ?_ j v hv⟩
      rw [List.getElem?_take] at hi
      split at hi
      · exact hi
      · cases hi

theorem GRow.drop3 {w : World} {b off n c k : Nat} {l : List VR} (h : GRow vrowF w (some ⟨b, off, none⟩) n c l) (hk : k ≤ n) : GRow vrowF w (if c = k then some ⟨b, off, none⟩ else some ⟨b, off + k * 3, none⟩) (n - k) (c - k) (l.drop k) where
  size := by have := h.size; simp; omega
  le := by have := h.le; omega
  top := by have := h.top; omega
  nil := by split <;> (intro h; cases h)
  cell := by
    have hle := h.le
    by_cases hc0 : c = k
    · exact .inl (by omega)
    · rw [if_neg hc0]
      rcases h.cell with h0 | ⟨b', off', ha, hc⟩
      · exact .inl (by omega)
      · cases ha
        refine .inr ⟨b, off + k * 3, rfl, fun i x hi j v hv => ?_⟩
        rw [List.getElem?_drop] at hi
        have := hc (k + i) x hi j v hv
        have e3 : vrowF.k = 3 := rfl
        rw [e3] at this ⊢
        rw [show off + k * 3 + i * 3 + j = off + (k + i) * 3 + j by omega]
        exact this

set_option maxRecDepth 100000 in
set_option maxHeartbeats 4000000 in
theorem specDropRow_yes (b off n c : Nat) (o : Option Addr) (p q : Nat) (v : VT) (id : Int) (k : Nat) (w : World) (h : VTab w (some ⟨b, off, none⟩) n c o p q v) (hn : n ≤ 16777216) (hp : p ≤ 16777216) (hr : rowIdx v.rows id = some k) (hok : vtabOk v p = true) :
    Calls Try.prog 22 #[.agg #[.slice (some ⟨b, off, none⟩) n c, .slice o p q], .int .i64 id] w fun e w' => ∃ a' n' c' o' p' q', e = .returned (.tuple #[.agg #[.slice a' n' c', .slice o' p' q'], .bool (orV ⟨v.rows.take k ++ v.rows.drop (k + 1), v.own⟩ v).2]) ∧ VOwn w' w.heap.size a' n' c' o' p' q' (orV ⟨v.rows.take k ++ v.rows.drop (k + 1), v.own⟩ v).1 ∧ Below w.heap.size w w' := by
  have hkn : k < n := by
    obtain ⟨x, hx, -⟩ := rowIdx_some hr
    have := (List.getElem?_eq_some_iff.1 hx).1
    have := h.rows.size
    omega
  have hle := h.rows.le
  have htop := h.rows.top
  unfold maxLen at htop
  have hat : rowAt v.rows id = (k : Int) := by unfold rowAt; rw [hr]
  generalize hw1 : w.alloc (Obj.cells #[Value.slice (some ⟨b, off, none⟩) n c, Value.slice o p q] 27) = w1
  generalize hw2 : w1.alloc (Obj.cells #[Value.slice none 0 0, Value.slice none 0 0] 27) = w2
  have b01 : Below w.heap.size w w1 := by subst hw1; exact below_one _ _
  have b12 : Below w1.heap.size w1 w2 := by subst hw2; exact below_one _ _
  have b02 := gr_trans b01 b12
  have k1 : w2.heap[w1.heap.size]? = some (.cells #[.slice none 0 0, .slice none 0 0] 27) := by rw [← hw2]; exact block_last _ _
  have z2 : Hid (w1.heap.size < w2.heap.size) := hide (by rw [← hw2]; simp)
  obtain ⟨e0, e0x⟩ := box_two hw1 (Below.refl _ w1)
  have hc2 := box_two hw1 b12
  have h2 := h.below b02
  go_enter Try.func22, Try.ntmps22
  go_wp2_with (refine (specRowAt_any (some ⟨b, off, none⟩) n c v.rows o p q id _ h2.rows).mono ?_; rintro e w3 ⟨rfl, hb3⟩; rw [hat]; have hc3 := box_two hw1 (gr_trans b12 hb3))
  go_wp2_with (refine (specVtabOk_any (some ⟨b, off, none⟩) n c o p q v (p : Int) _ (h2.below hb3)).mono ?_; rintro e w4 ⟨rfl, hb4⟩; rw [hok]; have hc4 := box_two hw1 (gr_trans b12 (gr_trans hb3 hb4)))
  go_wp2_with fail
  refine (specCopyV_made (some ⟨b, off, none⟩) n c o p q v _ (h2.below (gr_trans hb3 hb4)) hn hp).mono ?_
  rintro e w5' ⟨a5, c5, o5, q5, rfl, hO5, hb5⟩
  generalize hw5 : w5'.alloc (Obj.cells #[Value.slice a5 n c5, Value.slice o5 p q5] 27) = w5
  have b55 : Below w5'.heap.size w5' w5 := by subst hw5; exact below_one _ _
  have b25 := gr_trans hb3 (gr_trans hb4 (gr_trans hb5 b55))
  have b05 := gr_trans b02 b25
  have b15 := gr_trans b12 b25
  have k5 : w5.heap[w5'.heap.size]? = some (.cells #[.slice a5 n c5, .slice o5 p q5] 27) := by rw [← hw5]; exact block_last _ _
  have hO5 := hO5.below b55
  have vv : Below w5.heap.size w5 w5.drew := gr_drew (Below.refl _ _)
  have vb : Below w2.heap.size w2 w5.drew := gr_drew b25
  have z51 : w5'.heap.size < w5.heap.size := by rw [← hw5]; simp
  have z5 : Hid (w5'.heap.size < w5.heap.size ∧ w2.heap.size ≤ w5'.heap.size ∧ w2.heap.size ≤ w4.heap.size) := hide ⟨z51, (gr_trans hb3 (gr_trans hb4 hb5)).size, (gr_trans hb3 hb4).size⟩
  clear z51
  have i1 : (0 : Int) ≤ (k : Int) := by omega
  have i2 : (k : Int) ≤ (c : Int) := by omega
  have i3 : (0 : Int) ≤ (k : Int) + 1 := by omega
  have i4 : (k : Int) + 1 ≤ (n : Int) := by omega
  have i5 : IntKind.i64.wrap ((k : Int) + 1) = (k : Int) + 1 := by rw [IntKind.wrap_i64]; omega
  go_wp2_with fail
  refine wp_region_held_drew (S := (fun W => W.cell? ⟨w.heap.size, 0, none⟩ = some (.slice (some ⟨b, off, none⟩) n c))) (by kernel_rfl) (kept_cell hc2.1 vb) (fun hHeld => ?_)
  refine wpAnyH_take (i := 1) (oi := { dst := some 26, op := Op.fieldAddr 27 (Operand.tmp 2) 0, type := 0, pos := "l09_vlan.go:122", after := #[], guard := none }) (v := ?_) rfl (by kernel_rfl) (by kernel_rfl) (by kernel_rfl) (fun _ _ _ h => h) (Or.inl ⟨by rfl, ?_⟩) (by assumption) ?_
  rotate_left
  · (intro wY hSw; (try dsimp only at hSw); go_simp; try with_reducible rfl)
  simp only [Act.put, List.setIfInBounds_toArray, List.set_cons_zero, List.set_cons_succ]
  refine wpAnyH_take (i := 2) (oi := { dst := some 27, op := Op.load 24 (Operand.tmp 26), type := 24, pos := "l09_vlan.go:122", after := #[{ on := 1, ground := Ground.data }], guard := none }) (v := ?_) rfl (by kernel_rfl) (by kernel_rfl) (by kernel_rfl) (fun _ _ _ h => h) (Or.inl ⟨by rfl, ?_⟩) (by assumption) ?_
  rotate_left
  · (intro wY hSw; (try dsimp only at hSw); go_simp; try with_reducible rfl)
  simp only [Act.put, List.setIfInBounds_toArray, List.set_cons_zero, List.set_cons_succ]
  refine wpAnyH_take (i := 3) (oi := { dst := some 28, op := Op.move (Operand.tmp 6), type := 3, pos := "l09_vlan.go:122", after := #[], guard := none }) (v := ?_) rfl (by kernel_rfl) (by kernel_rfl) (by kernel_rfl) (fun _ _ _ h => h) (Or.inl ⟨by rfl, ?_⟩) (by assumption) ?_
  rotate_left
  · (intro wY hSw; (try dsimp only at hSw); go_simp; try with_reducible rfl)
  simp only [Act.put, List.setIfInBounds_toArray, List.set_cons_zero, List.set_cons_succ]
  refine wpAnyH_take (i := 4) (oi := { dst := some 29, op := Op.slice 24 (Operand.tmp 27) none (some (Operand.tmp 28)) none, type := 24, pos := "l09_vlan.go:122", after := #[{ on := 2, ground := Ground.data }, { on := 3, ground := Ground.data }], guard := none }) (v := ?_) rfl (by kernel_rfl) (by kernel_rfl) (by kernel_rfl) (fun _ _ _ h => h) (Or.inl ⟨by rfl, ?_⟩) (by assumption) ?_
  rotate_left
  · (intro wY hSw; (try dsimp only at hSw); go_simp; try with_reducible rfl)
  simp only [Act.put, List.setIfInBounds_toArray, List.set_cons_zero, List.set_cons_succ]
  refine wpAnyH_take (i := 6) (oi := { dst := some 31, op := Op.fieldAddr 27 (Operand.tmp 2) 0, type := 0, pos := "l09_vlan.go:122", after := #[], guard := none }) (v := ?_) rfl (by kernel_rfl) (by kernel_rfl) (by kernel_rfl) (fun _ _ _ h => h) (Or.inl ⟨by rfl, ?_⟩) (by assumption) ?_
  rotate_left
  · (intro wY hSw; (try dsimp only at hSw); go_simp; try with_reducible rfl)
  simp only [Act.put, List.setIfInBounds_toArray, List.set_cons_zero, List.set_cons_succ]
  refine wpAnyH_take (i := 7) (oi := { dst := some 32, op := Op.load 24 (Operand.tmp 31), type := 24, pos := "l09_vlan.go:122", after := #[{ on := 6, ground := Ground.data }], guard := none }) (v := ?_) rfl (by kernel_rfl) (by kernel_rfl) (by kernel_rfl) (fun _ _ _ h => h) (Or.inl ⟨by rfl, ?_⟩) (by assumption) ?_
  rotate_left
  · (intro wY hSw; (try dsimp only at hSw); go_simp; try with_reducible rfl)
  simp only [Act.put, List.setIfInBounds_toArray, List.set_cons_zero, List.set_cons_succ]
  refine wpAnyH_take (i := 8) (oi := { dst := some 33, op := Op.move (Operand.tmp 6), type := 3, pos := "l09_vlan.go:122", after := #[], guard := none }) (v := ?_) rfl (by kernel_rfl) (by kernel_rfl) (by kernel_rfl) (fun _ _ _ h => h) (Or.inl ⟨by rfl, ?_⟩) (by assumption) ?_
  rotate_left
  · (intro wY hSw; (try dsimp only at hSw); go_simp; try with_reducible rfl)
  simp only [Act.put, List.setIfInBounds_toArray, List.set_cons_zero, List.set_cons_succ]
  refine wpAnyH_take (i := 9) (oi := { dst := some 34, op := Op.binOp BinOp.add 3 (Operand.tmp 33) (Operand.const (Value.int IntKind.i64 1)) 3, type := 3, pos := "l09_vlan.go:122", after := #[{ on := 8, ground := Ground.data }], guard := none }) (v := ?_) rfl (by kernel_rfl) (by kernel_rfl) (by kernel_rfl) (fun _ _ _ h => h) (Or.inl ⟨by rfl, ?_⟩) (by assumption) ?_
  rotate_left
  · (intro wY hSw; (try dsimp only at hSw); go_simp; try with_reducible rfl)
  simp only [Act.put, List.setIfInBounds_toArray, List.set_cons_zero, List.set_cons_succ]
  refine wpAnyH_take (i := 10) (oi := { dst := some 35, op := Op.slice 24 (Operand.tmp 32) (some (Operand.tmp 34)) none none, type := 24, pos := "l09_vlan.go:122", after := #[{ on := 7, ground := Ground.data }, { on := 9, ground := Ground.data }], guard := none }) (v := ?_) rfl (by kernel_rfl) (by kernel_rfl) (by kernel_rfl) (fun _ _ _ h => h) (Or.inl ⟨by rfl, ?_⟩) (by assumption) ?_
  rotate_left
  · (intro wY hSw; (try dsimp only at hSw); go_simp; try with_reducible rfl)
  simp only [Act.put, List.setIfInBounds_toArray, List.set_cons_zero, List.set_cons_succ]
  refine wpAnyH_ready (rs := [0]) (by kernel_rfl) (by simp) ?_
  refine AllReadyH.cons (o := { dst := some 25, op := Op.buildSlice 24 0 #[], type := 24, pos := "l09_vlan.go:122", after := #[], guard := none }) rfl (fun K hK => ?_) ?_
  · go_simp
    first
    | refine made_new (K := K _) (fun wx hk hbx => ?_)
    | refine made_drew (K := K _) (fun wx hk hbx => ?_)
    have hR := flat_nil vrowF w5 wx 29 _ hk vv.size
    have vv := gr_trans vv hbx
    have vb := gr_trans vb hbx
    clear hk hbx
    refine hK.out _ _ (kept_cell hc2.1 vb) (fun hHeld => ?_)
    clear hK K
    try simp only [Act.put, List.setIfInBounds_toArray, List.set_cons_zero, List.set_cons_succ]
    refine wpAnyH_ready (rs := [5]) (by kernel_rfl) (by simp) ?_
    refine AllReadyH.cons (o := { dst := some 30, op := Op.call { callee := Callee.builtin Builtin.append, args := #[Operand.tmp 25, Operand.tmp 29], argTypes := #[24, 24] }, type := 24, pos := "l09_vlan.go:122", after := #[{ on := 0, ground := Ground.data }, { on := 4, ground := Ground.data }], guard := none }) rfl (fun K hK => ?_) ?_
    · refine step_append_flat (F := vrowF) rfl _ _ 24 29 rfl w5.heap.size Try.underlying24 vrowInfo rfl (by decide) _ 0 [] rfl hR _ k c (v.rows.take k) rfl ((h.rows.below (gr_trans b05 vv)).take (by omega)) (by omega) vv.size ?_
      intro aoR cpR wx how hrow hgr hbx
      have hR := how
      have vv := vv.trans hbx
      have vb := vb.trans (hbx.mono b25.size)
      clear how hrow hgr hbx
      simp only [Nat.zero_add, List.nil_append] at hR ⊢
      refine hK.out _ _ (kept_cell hc2.1 vb) (fun hHeld => ?_)
      clear hK K
      try simp only [Act.put, List.setIfInBounds_toArray, List.set_cons_zero, List.set_cons_succ]
      refine wpAnyH_ready (rs := [11]) (by kernel_rfl) (by simp) ?_
      refine AllReadyH.cons (o := { dst := some 36, op := Op.call { callee := Callee.builtin Builtin.append, args := #[Operand.tmp 30, Operand.tmp 35], argTypes := #[24, 24] }, type := 24, pos := "l09_vlan.go:122", after := #[{ on := 5, ground := Ground.data }, { on := 10, ground := Ground.data }, { on := 5, ground := Ground.chain }], guard := none }) rfl (fun K hK => ?_) ?_
      · refine step_append_flat (F := vrowF) rfl _ _ 24 29 rfl w5.heap.size Try.underlying24 vrowInfo rfl (by decide) _ k (v.rows.take k) rfl hR _ (n - (k + 1)) (c - (k + 1)) (v.rows.drop (k + 1)) rfl ((h.rows.below (gr_trans b05 vv)).drop3 (by omega)) (by omega) vv.size ?_
        intro aoR cpR wx how hrow hgr hbx
        have hR := how
        have vv := vv.trans hbx
        have vb := vb.trans (hbx.mono b25.size)
        clear how hrow hgr hbx

        refine hK.out _ _ (kept_cell hc2.1 vb) (fun hHeld => ?_)
        clear hK K
        try simp only [Act.put, List.setIfInBounds_toArray, List.set_cons_zero, List.set_cons_succ]
        refine wpAnyH_take (i := 12) (oi := { dst := some 37, op := Op.fieldAddr 27 (Operand.tmp 7) 0, type := 0, pos := "l09_vlan.go:122", after := #[{ on := 0, ground := Ground.phase }, { on := 1, ground := Ground.phase }, { on := 2, ground := Ground.phase }, { on := 3, ground := Ground.phase }, { on := 4, ground := Ground.phase }, { on := 5, ground := Ground.phase }, { on := 6, ground := Ground.phase }, { on := 7, ground := Ground.phase }, { on := 8, ground := Ground.phase }, { on := 9, ground := Ground.phase }, { on := 10, ground := Ground.phase }, { on := 11, ground := Ground.phase }], guard := none }) (v := ?_) rfl (by kernel_rfl) (by kernel_rfl) (by kernel_rfl) (fun _ _ _ h => h) (Or.inl ⟨by rfl, ?_⟩) (by assumption) ?_
        rotate_left
        · (intro wY hSw; (try dsimp only at hSw); go_simp; try with_reducible rfl)
        simp only [Act.put, List.setIfInBounds_toArray, List.set_cons_zero, List.set_cons_succ]
        refine wpAnyH_ready (rs := [13]) (by kernel_rfl) (by simp) ?_
        refine AllReadyH.cons (o := { dst := none, op := Op.store 24 (Operand.tmp 37) (Operand.tmp 36), type := 0, pos := "l09_vlan.go:122", after := #[{ on := 12, ground := Ground.data }, { on := 11, ground := Ground.data }, { on := 11, ground := Ground.chain }, { on := 0, ground := Ground.phase }, { on := 1, ground := Ground.phase }, { on := 2, ground := Ground.phase }, { on := 3, ground := Ground.phase }, { on := 4, ground := Ground.phase }, { on := 5, ground := Ground.phase }, { on := 6, ground := Ground.phase }, { on := 7, ground := Ground.phase }, { on := 8, ground := Ground.phase }, { on := 9, ground := Ground.phase }, { on := 10, ground := Ground.phase }, { on := 11, ground := Ground.phase }], guard := none }) rfl (fun K hK => ?_) ?_
        · have hbx := kept_block k5 vv
          obtain ⟨⟨g0, g1⟩, f0, f1⟩ := cells2 hbx
          have hN := gown_other (hO5.below vv).own (grown_set (rb := w5'.heap.size) 0 (.slice aoR (k + (n - (k + 1))) cpR)) (box_ne (hO5.below vv).own hbx (by decide))
          have hR := gown_apart hR (grown_set (rb := w5'.heap.size) 0 (.slice aoR (k + (n - (k + 1))) cpR)) (by intro b hb; cases hb; exact z5.out.1)
          have kX := set_block5 (j := 0) hbx (.slice aoR (k + (n - (k + 1))) cpR)
          go_simp
          have vb := below_set vb z5.out.2.1 0 (.slice aoR (k + (n - (k + 1))) cpR)
          refine hK.out _ _ (kept_cell hc2.1 vb) (fun hHeld => ?_)
          clear hK K
          try simp only [Act.put, List.setIfInBounds_toArray, List.set_cons_zero, List.set_cons_succ]
          refine wpAnyH_done (by kernel_rfl) ?_ _
          have kX : (World.setCell wx ⟨w5'.heap.size, 0, none⟩ (.slice aoR (k + (n - (k + 1))) cpR)).heap[w5'.heap.size]? = some (.cells #[Value.slice aoR (k + (n - (k + 1))) cpR, .slice o5 p q5] 27) := kX
          generalize World.setCell wx ⟨w5'.heap.size, 0, none⟩ (.slice aoR (k + (n - (k + 1))) cpR) = w6 at hR hN kX vb ⊢
          generalize k + (n - (k + 1)) = m at hR kX ⊢
          generalize (if c = k + 1 then some (⟨b, off, none⟩ : Addr) else some ⟨b, off + (k + 1) * 3, none⟩) = ad
          obtain ⟨⟨x0, x1⟩, -⟩ := cells2 kX
          have y0 := kept_cell hc2.1 vb
          have y1 := kept_cell hc2.2 vb
          have hV : VOwn w6 w2.heap.size aoR m cpR o5 p q5 ⟨v.rows.take k ++ v.rows.drop (k + 1), v.own⟩ := ⟨gown_lt hR b25.size, gown_lt hN z5.out.2.2, h.own.byte⟩
          have HV := hide hV
          clear hR hN hV hO5
          go_wp2_with fail
          refine (specOr_made w2.heap.size aoR m cpR o5 p q5 _ (some ⟨b, off, none⟩) n c o p q v _ HV.out (h.below (gr_trans b02 vb)) hn hp vb.size).mono ?_
          rintro e w7 ⟨a7, n7, c7, o7, p7, q7, rfl, hO7, hb7⟩
          obtain ⟨⟨g0, g1⟩, f0, f1⟩ := cells2 (kept_block k1 (gr_trans vb hb7))
          have HB := hide (below_set (below_set (gr_trans (gr_trans b02 vb) hb7) b01.size 0 (.slice a7 n7 c7)) b01.size 1 (.slice o7 p7 q7))
          have HO := hide ((hO7.set2 (g := w1.heap.size) z2.out (.slice a7 n7 c7) (.slice o7 p7 q7)).lt (base' := w.heap.size) b02.size)
          clear hO7
          go_wp2
          exact bodyPost_ret (v := .tuple #[.agg #[.slice a7 n7 c7, .slice o7 p7 q7], .bool (orV ⟨v.rows.take k ++ v.rows.drop (k + 1), v.own⟩ v).2]) (by simp [results, Try.results22, go_sem, *]) rfl ⟨_, _, _, _, _, _, rfl, HO.out, HB.out⟩
        exact AllReadyH.nil
      exact AllReadyH.nil
    exact AllReadyH.nil
  exact AllReadyH.nil

end Go.Proofs.Ytafonmfgeecopaa
