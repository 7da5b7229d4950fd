/-
  A row dropped, the program's own.
-/
import Derived.Test.YtafonmfgeecopaaVlanDel
import Derived.Test.YtafonmfgeecopaaVtabDropM
namespace Go.Proofs.Ytafonmfgeecopaa
open Go.RowKit

theorem rise_all : ∀ (e : VR) (l : List VR), vrises (e :: l) = true → ∀ x ∈ l, e.i < x.i
  | _, [], _, x, hx => by cases hx
  | e, f :: r, h, x, hx => by
    rw [show vrises (e :: f :: r) = (decide (e.i < f.i) && vrises (f :: r)) from rfl] at h
    simp only [Bool.and_eq_true, decide_eq_true_eq] at h
    rcases List.mem_cons.1 hx with rfl | hx
    · exact h.1
    · have := rise_all f r h.2 x hx
      omega

theorem rise_tail {e : VR} {l : List VR} (h : vrises (e :: l) = true) : vrises l = true := by
  cases l with
  | nil => rfl
  | cons f r =>
    rw [show vrises (e :: f :: r) = (decide (e.i < f.i) && vrises (f :: r)) from rfl] at h
    simp only [Bool.and_eq_true] at h
    exact h.2

theorem filter_rise {id : Int} : ∀ (l : List VR) (k : Nat), vrises l = true → rowIdx l id = some k → l.filter (fun r => r.i != id) = l.take k ++ l.drop (k + 1)
  | [], k, _, h => by simp [rowIdx] at h
  | e :: l, k, hr, h => by
    unfold rowIdx at h
    rw [List.findIdx?_cons] at h
    cases he : (e.i == id)
    · rw [he] at h
      simp only [Bool.false_eq_true, if_false, Option.map_eq_some_iff] at h
      obtain ⟨j, hj, rfl⟩ := h
      have ih := filter_rise l j (rise_tail hr) hj
      have hne : (e.i != id) = true := by simp at he; simp [he]
      rw [List.filter_cons, if_pos hne, ih]
      simp
    · rw [he] at h
      simp only [if_true, Option.some.injEq] at h
      subst h
      have hne : ¬ ((e.i != id) = true) := by simp at he; simp [he]
      rw [List.filter_cons, if_neg hne]
      simp only [List.take_zero, List.nil_append, Nat.zero_add, List.drop_succ_cons, List.drop_zero]
      refine List.filter_eq_self.2 fun x hx => ?_
      have := rise_all e l hr x hx
      simp at he
      simp
      omega

theorem vtab_rises {v : VT} {p : Int} (h : vtabOk v p = true) : vrises v.rows = true := by
  cases hr : vrises v.rows
  · rw [vtab_rise hr] at h
    cases h
  · rfl

theorem dropRow_is {v : VT} {id : Int} {k : Nat} (h : rowIdx v.rows id = some k) : dropRow v id = ifRight v ⟨v.rows.filter (fun r => r.i != id), v.own⟩ := by
  unfold dropRow ifRight orV
  rw [h]
  cases h1 : vtabOk v v.own.length
  · rfl
  · rw [filter_rise v.rows k (vtab_rises h1) h]
    simp

theorem dropRow_no {v : VT} {id : Int} (h : rowIdx v.rows id = none) : dropRow v id = (v, false) := by
  unfold dropRow
  rw [h]

set_option maxRecDepth 100000 in
set_option maxHeartbeats 4000000 in
theorem implDropRow_made (a : Option Addr) (n c : Nat) (o : Option Addr) (p q : Nat) (v : VT) (id : Int) (w : World) (h : VTab w a n c o p q v) (hn : n ≤ 16777216) (hp : p ≤ 16777216) (hRg : ∀ r ∈ v.rows, r.Rng) :
    Calls Try.prog 15 #[.agg #[.slice a n c, .slice o p q], .int .i64 id] w fun e w' => ∃ a' n' c' o' p' q', e = .returned (.tuple #[.agg #[.slice a' n' c', .slice o' p' q'], .bool (dropRow v id).2]) ∧ VOwn w' w.heap.size a' n' c' o' p' q' (dropRow v id).1 ∧ Below w.heap.size w w' := by
  generalize hw1 : w.alloc (Obj.cells #[Value.slice a n c, Value.slice o p q] 27) = w1
  generalize hw2 : w1.alloc (Obj.cells #[Value.slice none 0 0, Value.slice none 0 0] 27) = w2
  have b01 : Below w.heap.size w w1 := by subst hw1; exact below_one _ _
  have b12 : Below w1.heap.size w1 w2 := by subst hw2; exact below_one _ _
  have b02 := gr_trans b01 b12
  have k1 : w2.heap[w1.heap.size]? = some (.cells #[.slice none 0 0, .slice none 0 0] 27) := by rw [← hw2]; exact block_last _ _
  have z2 : w1.heap.size < w2.heap.size := by rw [← hw2]; simp
  have hc2 := box_two hw1 b12
  have h2 := h.below b02
  cases hr : rowIdx v.rows id with
  | none =>
    rw [dropRow_no hr]
    have HA := hide (rowAt_no hr)
    clear hr
    go_enter Try.func15, Try.ntmps15
    go_wp2_with fail
    refine (implRowAt_any a n c v.rows o p q id _ h2.rows).mono ?_
    rintro e w3 ⟨rfl, hb3⟩
    rw [HA.out]
    have hc3 := box_two hw1 (gr_trans b12 hb3)
    go_wp2_with fail
    refine (implCopyV_made a n c o p q v _ (h2.below hb3) hn hp).mono ?_
    rintro e w4 ⟨a', c', o', q', rfl, hO, hb4⟩
    obtain ⟨⟨g0, g1⟩, f0, f1⟩ := cells2 (kept_block k1 (gr_trans hb3 hb4))
    have HB := hide (below_set (below_set (gr_trans b02 (gr_trans hb3 hb4)) b01.size 0 (.slice a' n c')) b01.size 1 (.slice o' p q'))
    have HO := hide ((hO.set2 (g := w1.heap.size) (Nat.lt_of_lt_of_le z2 hb3.size) (.slice a' n c') (.slice o' p q')).lt (base' := w.heap.size) (Nat.le_trans b02.size hb3.size))
    clear hO hb3 hb4 hc2 hc3
    go_wp2
    exact bodyPost_ret (v := .tuple #[.agg #[.slice a' n c', .slice o' p q'], .bool false]) (by simp [results, Try.results15, go_sem, *]) rfl ⟨_, _, _, _, _, _, rfl, HO.out, HB.out⟩
  | some k =>
    rw [dropRow_is hr]
    have HA := hide (rowAt_yes hr)
    have HK := hide hr
    have hneg : ¬ ((k : Int) < 0) := by omega
    clear hr
    go_enter Try.func15, Try.ntmps15
    go_wp2_with fail
    refine (implRowAt_any a n c v.rows o p q id _ h2.rows).mono ?_
    rintro e w3 ⟨rfl, hb3⟩
    rw [HA.out]
    have b03 := gr_trans b02 hb3
    have Z3 : Hid (w1.heap.size < w3.heap.size) := hide (Nat.lt_of_lt_of_le z2 hb3.size)
    have vv : Below w3.heap.size w3 w3.drew := gr_drew (Below.refl _ _)
    have vb : Below w1.heap.size w1 w3.drew := gr_drew (gr_trans b12 hb3)
    clear z2 hc2
    go_wp2_with fail
    refine wp_region_held_drew (S := (fun W => W.cell? ⟨w.heap.size, 0, none⟩ = some (.slice a n c) ∧ W.cell? ⟨w.heap.size, 1, none⟩ = some (.slice o p q))) (by kernel_rfl) (box_two hw1 vb) (fun hHeld => ?_)
    refine wpAnyH_take (i := 0) (oi := { dst := some 12, op := Op.load 27 (Operand.tmp 2), type := 27, pos := "l09_vlan.go:93", after := #[], guard := none }) (v := ?_) rfl (by kernel_rfl) (by kernel_rfl) (by kernel_rfl) (fun _ _ _ h => h) (Or.inl ⟨by rfl, ?_⟩) (by assumption) ?_
    rotate_left
    · (intro wY hSw; (try dsimp only at hSw); go_simp; try with_reducible rfl)
    simp only [Act.put, List.setIfInBounds_toArray, List.set_cons_zero, List.set_cons_succ]
    refine wpAnyH_take (i := 1) (oi := { dst := some 13, op := Op.load 27 (Operand.tmp 2), type := 27, pos := "l09_vlan.go:93", after := #[], guard := none }) (v := ?_) rfl (by kernel_rfl) (by kernel_rfl) (by kernel_rfl) (fun _ _ _ h => h) (Or.inl ⟨by rfl, ?_⟩) (by assumption) ?_
    rotate_left
    · (intro wY hSw; (try dsimp only at hSw); go_simp; try with_reducible rfl)
    simp only [Act.put, List.setIfInBounds_toArray, List.set_cons_zero, List.set_cons_succ]
    refine wpAnyH_take (i := 3) (oi := { dst := some 15, op := Op.move (Operand.tmp 1), type := 3, pos := "l09_vlan.go:93", after := #[], guard := none }) (v := ?_) rfl (by kernel_rfl) (by kernel_rfl) (by kernel_rfl) (fun _ _ _ h => h) (Or.inl ⟨by rfl, ?_⟩) (by assumption) ?_
    rotate_left
    · (intro wY hSw; (try dsimp only at hSw); go_simp; try with_reducible rfl)
    simp only [Act.put, List.setIfInBounds_toArray, List.set_cons_zero, List.set_cons_succ]
    refine wpAnyH_take (i := 5) (oi := { dst := some 17, op := Op.fieldAddr 27 (Operand.tmp 2) 1, type := 0, pos := "l09_vlan.go:93", after := #[], guard := none }) (v := ?_) rfl (by kernel_rfl) (by kernel_rfl) (by kernel_rfl) (fun _ _ _ h => h) (Or.inl ⟨by rfl, ?_⟩) (by assumption) ?_
    rotate_left
    · (intro wY hSw; (try dsimp only at hSw); go_simp; try with_reducible rfl)
    simp only [Act.put, List.setIfInBounds_toArray, List.set_cons_zero, List.set_cons_succ]
    refine wpAnyH_take (i := 6) (oi := { dst := some 18, op := Op.load 25 (Operand.tmp 17), type := 25, pos := "l09_vlan.go:93", after := #[{ on := 5, ground := Ground.data }], guard := none }) (v := ?_) rfl (by kernel_rfl) (by kernel_rfl) (by kernel_rfl) (fun _ _ _ h => h) (Or.inl ⟨by rfl, ?_⟩) (by assumption) ?_
    rotate_left
    · (intro wY hSw; (try dsimp only at hSw); go_simp; try with_reducible rfl)
    simp only [Act.put, List.setIfInBounds_toArray, List.set_cons_zero, List.set_cons_succ]
    refine wpAnyH_ready (rs := [2]) (by kernel_rfl) (by simp) ?_
    refine AllReadyH.cons (o := { dst := some 14, op := Op.call { callee := Callee.value (Operand.func 51), args := #[Operand.tmp 13], argTypes := #[27] }, type := 65, pos := "l09_vlan.go:93", after := #[{ on := 1, ground := Ground.data }], guard := none }) rfl (fun K hK => ?_) ?_
    · go_simp
      refine (implRowsOf_any a n c o p q _).mono ?_
      rintro e wx ⟨rfl, hbx⟩
      try have hI := gown_below hI hbx
      have vv := gr_trans vv hbx
      have vb := gr_trans vb hbx
      clear hbx
      go_wp2_with fail
      refine hK.out _ _ (box_two hw1 vb) (fun hHeld => ?_)
      clear hK K
      try simp only [Act.put, List.setIfInBounds_toArray, List.set_cons_zero, List.set_cons_succ]
      refine wpAnyH_ready (rs := [4]) (by kernel_rfl) (by simp) ?_
      refine AllReadyH.cons (o := { dst := some 16, op := Op.call { callee := Callee.value (Operand.func 60), args := #[Operand.tmp 14, Operand.tmp 15], argTypes := #[65, 3] }, type := 65, pos := "l09_vlan.go:93", after := #[{ on := 2, ground := Ground.data }, { on := 3, ground := Ground.data }, { on := 2, ground := Ground.chain }], guard := none }) rfl (fun K hK => ?_) ?_
      · go_simp
        refine (implWithout_made a n c v.rows id k _ (h.rows.below (gr_trans b03 vv)) hn HK.out).mono ?_
        rintro e wx ⟨aR, nR, cR, hnR, rfl, how, hbx⟩
        have hR := gown_lt how (base' := w3.heap.size) vv.size
        try have hI := gown_below hI hbx
        have vv := gr_trans vv hbx
        have vb := gr_trans vb hbx
        clear how hbx
        go_wp2_with fail
        refine hK.out _ _ (box_two hw1 vb) (fun hHeld => ?_)
        clear hK K
        try simp only [Act.put, List.setIfInBounds_toArray, List.set_cons_zero, List.set_cons_succ]
        refine wpAnyH_ready (rs := [7]) (by kernel_rfl) (by simp) ?_
        refine AllReadyH.cons (o := { dst := some 19, op := Op.call { callee := Callee.value (Operand.func 53), args := #[Operand.tmp 18], argTypes := #[25] }, type := 25, pos := "l09_vlan.go:93", after := #[{ on := 6, ground := Ground.data }, { on := 4, ground := Ground.chain }], guard := none }) rfl (fun K hK => ?_) ?_
        · go_simp
          refine (cloneI_any o p q v.own _ ((h.own.below (gr_trans b03 vv)).flat) hp).mono ?_
          rintro e wx ⟨aI, cI', rfl, how, hbx⟩
          have hI := gown_lt how (base' := w3.heap.size) vv.size
          try have hR := gown_below hR hbx
          have vv := gr_trans vv hbx
          have vb := gr_trans vb hbx
          clear how hbx
          go_wp2_with fail
          refine hK.out _ _ (box_two hw1 vb) (fun hHeld => ?_)
          clear hK K
          try simp only [Act.put, List.setIfInBounds_toArray, List.set_cons_zero, List.set_cons_succ]
          refine wpAnyH_take (i := 8) (oi := { dst := some 20, op := Op.build 27 #[(0, Operand.tmp 16), (1, Operand.tmp 19)], type := 27, pos := "l09_vlan.go:93", after := #[{ on := 4, ground := Ground.data }, { on := 7, ground := Ground.data }], guard := none }) (v := ?_) rfl (by kernel_rfl) (by kernel_rfl) (by kernel_rfl) (fun _ _ _ h => h) (Or.inl ⟨by rfl, ?_⟩) (by assumption) ?_
          rotate_left
          · (intro wY hSw; (try dsimp only at hSw); go_simp; try with_reducible rfl)
          simp only [Act.put, List.setIfInBounds_toArray, List.set_cons_zero, List.set_cons_succ]
          refine wpAnyH_ready (rs := [9]) (by kernel_rfl) (by simp) ?_
          refine AllReadyH.cons (o := { dst := some 21, op := Op.call { callee := Callee.value (Operand.func 50), args := #[Operand.tmp 12, Operand.tmp 20], argTypes := #[27, 27] }, type := 32, pos := "l09_vlan.go:93", after := #[{ on := 0, ground := Ground.data }, { on := 8, ground := Ground.data }, { on := 7, ground := Ground.chain }], guard := none }) rfl (fun K hK => ?_) ?_
          · go_simp
            refine (implIfRight_made w3.heap.size a n c o p q v aR nR cR aI p cI' ⟨v.rows.filter (fun r => r.i != id), v.own⟩ _ (h.below (gr_trans b03 vv)) ⟨hR, (by rw [← intF_all]; exact hI), h.own.byte⟩ vv.size hn hp hRg (fun r hr => hRg r ((List.mem_filter.1 hr).1))).mono ?_
            rintro e wx ⟨a7, n7, c7, o7, p7, q7, rfl, hO7, hbx⟩
            have vv := gr_trans vv hbx
            have vb := gr_trans vb hbx
            clear hR hI hbx
            go_wp2_with fail
            refine hK.out _ _ (box_two hw1 vb) (fun hHeld => ?_)
            clear hK K
            try simp only [Act.put, List.setIfInBounds_toArray, List.set_cons_zero, List.set_cons_succ]
            refine wpAnyH_take (i := 10) (oi := { dst := some 22, op := Op.extract (Operand.tmp 21) 0, type := 27, pos := "l09_vlan.go:93", after := #[{ on := 9, ground := Ground.data }], guard := none }) (v := ?_) rfl (by kernel_rfl) (by kernel_rfl) (by kernel_rfl) (fun _ _ _ h => h) (Or.inl ⟨by rfl, ?_⟩) (by assumption) ?_
            rotate_left
            · (intro wY hSw; (try dsimp only at hSw); go_simp; try with_reducible rfl)
            simp only [Act.put, List.setIfInBounds_toArray, List.set_cons_zero, List.set_cons_succ]
            refine wpAnyH_take (i := 11) (oi := { dst := some 23, op := Op.extract (Operand.tmp 21) 1, type := 4, pos := "l09_vlan.go:93", after := #[{ on := 9, ground := Ground.data }], guard := none }) (v := ?_) rfl (by kernel_rfl) (by kernel_rfl) (by kernel_rfl) (fun _ _ _ h => h) (Or.inl ⟨by rfl, ?_⟩) (by assumption) ?_
            rotate_left
            · (intro wY hSw; (try dsimp only at hSw); go_simp; try with_reducible rfl)
            simp only [Act.put, List.setIfInBounds_toArray, List.set_cons_zero, List.set_cons_succ]
            refine wpAnyH_ready (rs := [12]) (by kernel_rfl) (by simp) ?_
            refine AllReadyH.cons (o := { dst := none, op := Op.store 27 (Operand.tmp 4) (Operand.tmp 22), type := 0, pos := "l09_vlan.go:93", after := #[{ on := 10, ground := Ground.data }, { on := 9, ground := Ground.chain }, { on := 0, ground := Ground.phase }, { on := 1, ground := Ground.phase }, { on := 2, ground := Ground.phase }, { on := 3, ground := Ground.phase }, { on := 4, ground := Ground.phase }, { on := 5, ground := Ground.phase }, { on := 6, ground := Ground.phase }, { on := 7, ground := Ground.phase }, { on := 8, ground := Ground.phase }, { on := 9, ground := Ground.phase }, { on := 10, ground := Ground.phase }, { on := 11, ground := Ground.phase }], guard := none }) rfl (fun K hK => ?_) ?_
            · obtain ⟨⟨g0, g1⟩, f0, f1⟩ := cells2 (kept_block (kept_block k1 hb3) vv)
              go_simp
              have hO7 := hO7.set2 (g := w1.heap.size) Z3.out (.slice a7 n7 c7) (.slice o7 p7 q7)
              have vb := below_set (below_set vb (Nat.le_refl _) 0 (.slice a7 n7 c7)) (Nat.le_refl _) 1 (.slice o7 p7 q7)
              refine hK.out _ _ (box_two hw1 vb) (fun hHeld => ?_)
              clear hK K
              try simp only [Act.put, List.setIfInBounds_toArray, List.set_cons_zero, List.set_cons_succ]
              refine wpAnyH_take (i := 13) (oi := { dst := some 5, op := Op.assign (Operand.tmp 23), type := 4, pos := "l09_vlan.go:93", after := #[{ on := 11, ground := Ground.data }, { on := 12, ground := Ground.chain }, { on := 0, ground := Ground.phase }, { on := 1, ground := Ground.phase }, { on := 2, ground := Ground.phase }, { on := 3, ground := Ground.phase }, { on := 4, ground := Ground.phase }, { on := 5, ground := Ground.phase }, { on := 6, ground := Ground.phase }, { on := 7, ground := Ground.phase }, { on := 8, ground := Ground.phase }, { on := 9, ground := Ground.phase }, { on := 10, ground := Ground.phase }, { on := 11, ground := Ground.phase }, { on := 12, ground := Ground.phase }], guard := none }) (v := ?_) rfl (by kernel_rfl) (by kernel_rfl) (by kernel_rfl) (fun _ _ _ h => h) (Or.inl ⟨by rfl, ?_⟩) (by assumption) ?_
              rotate_left
              · (intro wY hSw; (try dsimp only at hSw); go_simp; try with_reducible rfl)
              simp only [Act.put, List.setIfInBounds_toArray, List.set_cons_zero, List.set_cons_succ]
              refine wpAnyH_done (by kernel_rfl) ?_ _
              have HO := hide (hO7.lt (base' := w.heap.size) b03.size)
              have HB := hide (gr_trans b01 vb)
              clear hO7
              go_wp2
              exact bodyPost_ret (v := .tuple #[.agg #[.slice a7 n7 c7, .slice o7 p7 q7], .bool (ifRight v ⟨v.rows.filter (fun r => r.i != id), v.own⟩).2]) (by simp [results, Try.results15, go_sem, *]) rfl ⟨_, _, _, _, _, _, rfl, HO.out, HB.out⟩
            exact AllReadyH.nil
          exact AllReadyH.nil
        exact AllReadyH.nil
      exact AllReadyH.nil
    exact AllReadyH.nil

end Go.Proofs.Ytafonmfgeecopaa
