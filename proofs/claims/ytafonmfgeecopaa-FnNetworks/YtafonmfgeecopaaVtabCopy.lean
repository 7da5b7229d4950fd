/-
  A table that a call owns; a copy of a table, as the specification makes it.
-/
import Derived.Test.YtafonmfgeecopaaVtabOkS
namespace Go.Proofs.Ytafonmfgeecopaa
open Go.RowKit

/-- Numbers as flat records. -/
def intF : Flat Int where
  k := 1
  cs := fun x => [.int .i64 x]
  len := fun _ => rfl
  pos := by decide
  one := fun _ v hv => by
    simp only [List.mem_cons, List.not_mem_nil, or_false] at hv
    subst hv
    rfl

theorem intF_all : ∀ (l : List Int), intF.all l = cI l
  | [] => rfl
  | x :: l => by
    have := intF_all l
    rw [Flat.all_cons, this]
    rfl

theorem IRow.flat {w : World} {ao : Option Addr} {n c : Nat} {l : List Int} (h : IRow w ao n c l) : GRow intF w ao n c l where
  size := h.size
  le := h.le
  top := h.top
  nil := h.nil
  cell := by
    rcases h.cell with h0 | ⟨b, off, ha, hc⟩
    · exact .inl h0
    · refine .inr ⟨b, off, ha, fun i x hi j v hv => ?_⟩
      have hl := (List.getElem?_eq_some_iff.1 hi).1
      have hs := h.size
      have := hc i (by omega)
      rw [List.getD_eq_getElem?_getD, hi] at this
      match j, hv with
      | 0, hv =>
        cases hv
        show w.cell? ⟨b, off + i * 1 + 0, none⟩ = _
        rw [Nat.mul_one, Nat.add_zero]
        exact this
      | j + 1, hv => simp [intF] at hv

theorem vrowInfo : (Try.prog.info? 29).map (fun i => (i.zero, i.size, i.bytes)) = some (some (.agg #[.int .i64 0, .int .i64 0, .int .i64 0]), vrowF.k, 24) := by kernel_rfl

/-- Two rows of unlike types that are owned: one stays while the other grows. -/
theorem gown_type {w w' : World} {base k : Nat} {e : TypeId} {v : Value} {n : Nat} {xs : List Value} (h : w.ownsRow base e k v n xs) {base2 k2 : Nat} {e2 : TypeId} {v2 : Value} {n2 : Nat} {xs2 : List Value} (h2 : w.ownsRow base2 e2 k2 v2 n2 xs2) (hne : (e : Nat) ≠ e2) (hg : w.grownBy w' v2.ownBlock) : w'.ownsRow base e k v n xs := by
  refine h.kept hg ?_
  obtain ⟨-, h | ⟨g, cap, cur, e1, -, hh, -⟩⟩ := h
  · rw [h.1]; exact .inl rfl
  · obtain ⟨-, h2 | ⟨g2, cap2, cur2, e2', -, hh2, -⟩⟩ := h2
    · rw [h2.1]; exact .inr (by rw [e1]; intro hc; cases hc)
    · refine .inr (fun hc => ?_)
      rw [e1, e2'] at hc
      have hgg : g = g2 := by simpa [Value.ownBlock] using hc
      subst hgg
      rw [hh] at hh2
      cases hh2
      exact hne rfl

theorem made_new {K : World → Prop} {W : World} {o : Obj} (h : ∀ wx, wx.heap[W.heap.size]? = some o → Below W.heap.size W wx → K wx) : K (W.alloc o) := h _ (block_last W o) (below_one W o)

theorem made_drew {K : World → Prop} {W : World} {o : Obj} (h : ∀ wx, wx.heap[W.heap.size]? = some o → Below W.drew.heap.size W.drew wx → K wx) : K (W.alloc o).drew := h _ (block_last W o) (below_one W.drew o)

/-- A table that a call owns. -/
structure VOwn (w : World) (base : Nat) (a : Option Addr) (n c : Nat) (o : Option Addr) (p q : Nat) (v : VT) : Prop where
  rows : w.ownsRow base 29 3 (.slice a n c) n (vrowF.all v.rows)
  own : w.ownsRow base 3 1 (.slice o p q) p (cI v.own)
  i64 : I64s v.own

theorem VOwn.tab {w : World} {base : Nat} {a : Option Addr} {n c : Nat} {o : Option Addr} {p q : Nat} {v : VT} (h : VOwn w base a n c o p q v) : VTab w a n c o p q v := ⟨grow_own (F := vrowF) h.rows, irow_own h.own h.i64⟩

set_option maxRecDepth 100000 in
set_option maxHeartbeats 4000000 in
theorem specCopyV_made (a : Option Addr) (n c : Nat) (o : Option Addr) (p q : Nat) (v : VT) (w : World) (h : VTab w a n c o p q v) (hn : n ≤ 16777216) (hp : p ≤ 16777216) :
    Calls Try.prog 54 #[.agg #[.slice a n c, .slice o p q]] w fun r w' => ∃ a' c' o' q', r = .returned (.agg #[.slice a' n c', .slice o' p q']) ∧ VOwn w' w.heap.size a' n c' o' p q' v ∧ Below w.heap.size w w' := by
  generalize hw1 : w.alloc (Obj.cells #[Value.slice a n c, Value.slice o p q] 27) = w1
  generalize hw2 : w1.alloc (Obj.cells #[Value.slice none 0 0, Value.slice none 0 0] 27) = w2
  have s1 : w1.heap.size = w.heap.size + 1 := by subst hw1; simp
  have s2 : w2.heap.size = w.heap.size + 1 + 1 := by subst hw2; simp [s1]
  have hk1 : w2.heap[w1.heap.size]? = some (.cells #[.slice none 0 0, .slice none 0 0] 27) := by rw [← hw2]; exact block_last _ _
  have b01 : Below w.heap.size w w1 := by subst hw1; exact below_one _ _
  have vb : Below w1.heap.size w1 w2.drew := by subst hw2; exact gr_drew (below_one _ _)
  have bw : Below w.heap.size w w2 := by subst hw2; exact gr_trans b01 (below_one _ _)
  have vv : Below w2.heap.size w2 w2.drew := gr_drew (Below.refl _ _)
  have h12 : w1.heap.size ≤ w2.heap.size := by omega
  have S1 := hide s1
  have S2 := hide s2
  have H12 := hide h12
  have HL : Hid (∀ b, some w1.heap.size = some b → b < w2.heap.size) := hide (by intro b hb; cases hb; omega)
  clear s1 s2 h12
  go_enter Try.func54, Try.ntmps54
  go_wp2_with fail
  refine wp_region_held_drew (S := (fun W => W.cell? ⟨w.heap.size, 0, none⟩ = some (.slice a n c) ∧ W.cell? ⟨w.heap.size, 1, none⟩ = some (.slice o p q))) (by kernel_rfl) (box_two hw1 vb) (fun hHeld => ?_)
  refine wpAnyH_take (i := 1) (oi := { dst := some 4, op := Op.fieldAddr 27 (Operand.tmp 1) 0, type := 0, pos := "l09_vlan.go:79", after := #[], guard := none }) (v := ?_) rfl (by kernel_rfl) (by kernel_rfl) (by kernel_rfl) (fun _ _ _ h => h) (Or.inl ⟨by rfl, ?_⟩) (by assumption) ?_
  rotate_left
  · (intro wY hSw; (try dsimp only at hSw); go_simp; try with_reducible rfl)
  simp only [Act.put, List.setIfInBounds_toArray, List.set_cons_zero, List.set_cons_succ]
  refine wpAnyH_take (i := 2) (oi := { dst := some 5, op := Op.load 24 (Operand.tmp 4), type := 24, pos := "l09_vlan.go:79", after := #[{ on := 1, ground := Ground.data }], guard := none }) (v := ?_) rfl (by kernel_rfl) (by kernel_rfl) (by kernel_rfl) (fun _ _ _ h => h) (Or.inl ⟨by rfl, ?_⟩) (by assumption) ?_
  rotate_left
  · (intro wY hSw; (try dsimp only at hSw); go_simp; try with_reducible rfl)
  simp only [Act.put, List.setIfInBounds_toArray, List.set_cons_zero, List.set_cons_succ]
  refine wpAnyH_take (i := 5) (oi := { dst := some 8, op := Op.fieldAddr 27 (Operand.tmp 1) 1, type := 0, pos := "l09_vlan.go:79", after := #[], guard := none }) (v := ?_) rfl (by kernel_rfl) (by kernel_rfl) (by kernel_rfl) (fun _ _ _ h => h) (Or.inl ⟨by rfl, ?_⟩) (by assumption) ?_
  rotate_left
  · (intro wY hSw; (try dsimp only at hSw); go_simp; try with_reducible rfl)
  simp only [Act.put, List.setIfInBounds_toArray, List.set_cons_zero, List.set_cons_succ]
  refine wpAnyH_take (i := 6) (oi := { dst := some 9, op := Op.load 25 (Operand.tmp 8), type := 25, pos := "l09_vlan.go:79", after := #[{ on := 5, ground := Ground.data }], guard := none }) (v := ?_) rfl (by kernel_rfl) (by kernel_rfl) (by kernel_rfl) (fun _ _ _ h => h) (Or.inl ⟨by rfl, ?_⟩) (by assumption) ?_
  rotate_left
  · (intro wY hSw; (try dsimp only at hSw); go_simp; try with_reducible rfl)
  simp only [Act.put, List.setIfInBounds_toArray, List.set_cons_zero, List.set_cons_succ]
  refine wpAnyH_ready (rs := [0, 4]) (by kernel_rfl) (by simp) ?_
  refine AllReadyH.cons (o := { dst := some 3, op := Op.buildSlice 24 0 #[], type := 24, pos := "l09_vlan.go:79", after := #[], guard := none }) rfl (fun K hK => ?_) ?_
  · go_simp
    first
    | refine made_new (K := K _) (fun wx hk hbx => ?_)
    | refine made_drew (K := K _) (fun wx hk hbx => ?_)
    try have hI := gown_below hI hbx
    have hR := flat_nil vrowF w2 wx 29 _ hk vv.size
    have vv := gr_trans vv hbx
    have vb := gr_trans vb hbx
    clear hk hbx
    refine hK.out _ _ (box_two hw1 vb) (fun hHeld => ?_)
    clear hK K
    try simp only [Act.put, List.setIfInBounds_toArray, List.set_cons_zero, List.set_cons_succ]
    refine wpAnyH_ready (rs := [3, 4]) (by kernel_rfl) (by simp) ?_
    refine AllReadyH.cons (o := { dst := some 6, op := Op.call { callee := Callee.builtin Builtin.append, args := #[Operand.tmp 3, Operand.tmp 5], argTypes := #[24, 24] }, type := 24, pos := "l09_vlan.go:79", after := #[{ on := 0, ground := Ground.data }, { on := 2, ground := Ground.data }], guard := none }) rfl (fun K hK => ?_) ?_
    · refine step_append_flat (F := vrowF) rfl _ _ 24 29 rfl w2.heap.size Try.underlying24 vrowInfo rfl (by decide) _ 0 [] rfl hR a n c v.rows rfl (h.rows.below (gr_trans bw vv)) (by omega) vv.size ?_
      intro aohR cphR wx how hrow hgr hbx
      try have hI := gown_type hI hR (by decide) hgr
      have hR := how
      have vv := vv.trans hbx
      have vb := vb.trans (hbx.mono H12.out)
      clear how hrow hgr hbx
      simp only [Nat.zero_add, List.nil_append] at hR ⊢
      refine hK.out _ _ (box_two hw1 vb) (fun hHeld => ?_)
      clear hK K
      try simp only [Act.put, List.setIfInBounds_toArray, List.set_cons_zero, List.set_cons_succ]
      refine wpAnyH_ready (rs := [4]) (by kernel_rfl) (by simp) ?_
      refine AllReadyH.cons (o := { dst := some 7, op := Op.buildSlice 25 0 #[], type := 25, pos := "l09_vlan.go:79", after := #[], guard := none }) rfl (fun K hK => ?_) ?_
      · go_simp
        first
        | refine made_new (K := K _) (fun wx hk hbx => ?_)
        | refine made_drew (K := K _) (fun wx hk hbx => ?_)
        try have hR := gown_below hR hbx
        have hI := flat_nil intF w2 wx 3 _ hk vv.size
        have vv := gr_trans vv hbx
        have vb := gr_trans vb hbx
        clear hk hbx
        refine hK.out _ _ (box_two hw1 vb) (fun hHeld => ?_)
        clear hK K
        try simp only [Act.put, List.setIfInBounds_toArray, List.set_cons_zero, List.set_cons_succ]
        refine wpAnyH_ready (rs := [7]) (by kernel_rfl) (by simp) ?_
        refine AllReadyH.cons (o := { dst := some 10, op := Op.call { callee := Callee.builtin Builtin.append, args := #[Operand.tmp 7, Operand.tmp 9], argTypes := #[25, 25] }, type := 25, pos := "l09_vlan.go:79", after := #[{ on := 4, ground := Ground.data }, { on := 6, ground := Ground.data }, { on := 3, ground := Ground.chain }], guard := none }) rfl (fun K hK => ?_) ?_
        · refine step_append_flat (F := intF) rfl _ _ 25 3 rfl w2.heap.size Try.underlying25 Try.infoI64 rfl (by decide) _ 0 [] rfl hI o p q v.own rfl ((h.own.below (gr_trans bw vv)).flat) (by omega) vv.size ?_
          intro aohI cphI wx how hrow hgr hbx
          try have hR := gown_type hR hI (by decide) hgr
          have hI := how
          have vv := vv.trans hbx
          have vb := vb.trans (hbx.mono H12.out)
          clear how hrow hgr hbx
          simp only [Nat.zero_add, List.nil_append] at hI ⊢
          refine hK.out _ _ (box_two hw1 vb) (fun hHeld => ?_)
          clear hK K
          try simp only [Act.put, List.setIfInBounds_toArray, List.set_cons_zero, List.set_cons_succ]
          refine wpAnyH_take (i := 8) (oi := { dst := some 11, op := Op.build 27 #[(0, Operand.tmp 6), (1, Operand.tmp 10)], type := 27, pos := "l09_vlan.go:79", after := #[{ on := 3, ground := Ground.data }, { on := 7, ground := Ground.data }], guard := none }) (v := ?_) rfl (by kernel_rfl) (by kernel_rfl) (by kernel_rfl) (fun _ _ _ h => h) (Or.inl ⟨by rfl, ?_⟩) (by assumption) ?_
          rotate_left
          · (intro wY hSw; (try dsimp only at hSw); go_simp; try with_reducible rfl)
          simp only [Act.put, List.setIfInBounds_toArray, List.set_cons_zero, List.set_cons_succ]
          refine wpAnyH_ready (rs := [9]) (by kernel_rfl) (by simp) ?_
          refine AllReadyH.cons (o := { dst := none, op := Op.store 27 (Operand.tmp 2) (Operand.tmp 11), type := 0, pos := "l09_vlan.go:79", after := #[{ on := 8, ground := Ground.data }, { on := 7, ground := Ground.chain }, { on := 0, ground := Ground.phase }, { on := 1, ground := Ground.phase }, { on := 2, ground := Ground.phase }, { on := 3, ground := Ground.phase }, { on := 4, ground := Ground.phase }, { on := 5, ground := Ground.phase }, { on := 6, ground := Ground.phase }, { on := 7, ground := Ground.phase }, { on := 8, ground := Ground.phase }], guard := none }) rfl (fun K hK => ?_) ?_
          · obtain ⟨⟨g0, g1⟩, f0, f1⟩ := cells2 (kept_block hk1 vv)
            go_simp
            have hR := gown_apart (gown_apart hR (grown_set (rb := w1.heap.size) 0 (.slice aohR n cphR)) HL.out) (grown_set (rb := w1.heap.size) 1 (.slice aohI p cphI)) HL.out
            have hI := gown_apart (gown_apart hI (grown_set (rb := w1.heap.size) 0 (.slice aohR n cphR)) HL.out) (grown_set (rb := w1.heap.size) 1 (.slice aohI p cphI)) HL.out
            have vb := below_set (below_set vb (Nat.le_refl _) 0 (.slice aohR n cphR)) (Nat.le_refl _) 1 (.slice aohI p cphI)
            refine hK.out _ _ (box_two hw1 vb) (fun hHeld => ?_)
            clear hK K
            try simp only [Act.put, List.setIfInBounds_toArray, List.set_cons_zero, List.set_cons_succ]
            refine wpAnyH_done (by kernel_rfl) ?_ _
            have HR := hide hR
            have HI := hide hI
            clear hR hI
            go_wp2
            refine bodyPost_ret (v := .agg #[.slice aohR n cphR, .slice aohI p cphI]) (by simp [results, Try.results54, go_sem, *]) rfl ⟨_, _, _, _, rfl, ⟨gown_lt HR.out bw.size, gown_lt (by rw [← intF_all]; exact HI.out) bw.size, h.own.byte⟩, gr_trans b01 vb⟩
          exact AllReadyH.nil
        exact AllReadyH.nil
      exact AllReadyH.nil
    refine AllReadyH.cons (o := { dst := some 7, op := Op.buildSlice 25 0 #[], type := 25, pos := "l09_vlan.go:79", after := #[], guard := none }) rfl (fun K hK => ?_) ?_
    · go_simp
      first
      | refine made_new (K := K _) (fun wx hk hbx => ?_)
      | refine made_drew (K := K _) (fun wx hk hbx => ?_)
      try have hR := gown_below hR hbx
      have hI := flat_nil intF w2 wx 3 _ hk vv.size
      have vv := gr_trans vv hbx
      have vb := gr_trans vb hbx
      clear hk hbx
      refine hK.out _ _ (box_two hw1 vb) (fun hHeld => ?_)
      clear hK K
      try simp only [Act.put, List.setIfInBounds_toArray, List.set_cons_zero, List.set_cons_succ]
      refine wpAnyH_ready (rs := [3]) (by kernel_rfl) (by simp) ?_
      refine AllReadyH.cons (o := { dst := some 6, op := Op.call { callee := Callee.builtin Builtin.append, args := #[Operand.tmp 3, Operand.tmp 5], argTypes := #[24, 24] }, type := 24, pos := "l09_vlan.go:79", after := #[{ on := 0, ground := Ground.data }, { on := 2, ground := Ground.data }], guard := none }) rfl (fun K hK => ?_) ?_
      · refine step_append_flat (F := vrowF) rfl _ _ 24 29 rfl w2.heap.size Try.underlying24 vrowInfo rfl (by decide) _ 0 [] rfl hR a n c v.rows rfl (h.rows.below (gr_trans bw vv)) (by omega) vv.size ?_
        intro aohR cphR wx how hrow hgr hbx
        try have hI := gown_type hI hR (by decide) hgr
        have hR := how
        have vv := vv.trans hbx
        have vb := vb.trans (hbx.mono H12.out)
        clear how hrow hgr hbx
        simp only [Nat.zero_add, List.nil_append] at hR ⊢
        refine hK.out _ _ (box_two hw1 vb) (fun hHeld => ?_)
        clear hK K
        try simp only [Act.put, List.setIfInBounds_toArray, List.set_cons_zero, List.set_cons_succ]
        refine wpAnyH_ready (rs := [7]) (by kernel_rfl) (by simp) ?_
        refine AllReadyH.cons (o := { dst := some 10, op := Op.call { callee := Callee.builtin Builtin.append, args := #[Operand.tmp 7, Operand.tmp 9], argTypes := #[25, 25] }, type := 25, pos := "l09_vlan.go:79", after := #[{ on := 4, ground := Ground.data }, { on := 6, ground := Ground.data }, { on := 3, ground := Ground.chain }], guard := none }) rfl (fun K hK => ?_) ?_
        · refine step_append_flat (F := intF) rfl _ _ 25 3 rfl w2.heap.size Try.underlying25 Try.infoI64 rfl (by decide) _ 0 [] rfl hI o p q v.own rfl ((h.own.below (gr_trans bw vv)).flat) (by omega) vv.size ?_
          intro aohI cphI wx how hrow hgr hbx
          try have hR := gown_type hR hI (by decide) hgr
          have hI := how
          have vv := vv.trans hbx
          have vb := vb.trans (hbx.mono H12.out)
          clear how hrow hgr hbx
          simp only [Nat.zero_add, List.nil_append] at hI ⊢
          refine hK.out _ _ (box_two hw1 vb) (fun hHeld => ?_)
          clear hK K
          try simp only [Act.put, List.setIfInBounds_toArray, List.set_cons_zero, List.set_cons_succ]
          refine wpAnyH_take (i := 8) (oi := { dst := some 11, op := Op.build 27 #[(0, Operand.tmp 6), (1, Operand.tmp 10)], type := 27, pos := "l09_vlan.go:79", after := #[{ on := 3, ground := Ground.data }, { on := 7, ground := Ground.data }], guard := none }) (v := ?_) rfl (by kernel_rfl) (by kernel_rfl) (by kernel_rfl) (fun _ _ _ h => h) (Or.inl ⟨by rfl, ?_⟩) (by assumption) ?_
          rotate_left
          · (intro wY hSw; (try dsimp only at hSw); go_simp; try with_reducible rfl)
          simp only [Act.put, List.setIfInBounds_toArray, List.set_cons_zero, List.set_cons_succ]
          refine wpAnyH_ready (rs := [9]) (by kernel_rfl) (by simp) ?_
          refine AllReadyH.cons (o := { dst := none, op := Op.store 27 (Operand.tmp 2) (Operand.tmp 11), type := 0, pos := "l09_vlan.go:79", after := #[{ on := 8, ground := Ground.data }, { on := 7, ground := Ground.chain }, { on := 0, ground := Ground.phase }, { on := 1, ground := Ground.phase }, { on := 2, ground := Ground.phase }, { on := 3, ground := Ground.phase }, { on := 4, ground := Ground.phase }, { on := 5, ground := Ground.phase }, { on := 6, ground := Ground.phase }, { on := 7, ground := Ground.phase }, { on := 8, ground := Ground.phase }], guard := none }) rfl (fun K hK => ?_) ?_
          · obtain ⟨⟨g0, g1⟩, f0, f1⟩ := cells2 (kept_block hk1 vv)
            go_simp
            have hR := gown_apart (gown_apart hR (grown_set (rb := w1.heap.size) 0 (.slice aohR n cphR)) HL.out) (grown_set (rb := w1.heap.size) 1 (.slice aohI p cphI)) HL.out
            have hI := gown_apart (gown_apart hI (grown_set (rb := w1.heap.size) 0 (.slice aohR n cphR)) HL.out) (grown_set (rb := w1.heap.size) 1 (.slice aohI p cphI)) HL.out
            have vb := below_set (below_set vb (Nat.le_refl _) 0 (.slice aohR n cphR)) (Nat.le_refl _) 1 (.slice aohI p cphI)
            refine hK.out _ _ (box_two hw1 vb) (fun hHeld => ?_)
            clear hK K
            try simp only [Act.put, List.setIfInBounds_toArray, List.set_cons_zero, List.set_cons_succ]
            refine wpAnyH_done (by kernel_rfl) ?_ _
            have HR := hide hR
            have HI := hide hI
            clear hR hI
            go_wp2
            refine bodyPost_ret (v := .agg #[.slice aohR n cphR, .slice aohI p cphI]) (by simp [results, Try.results54, go_sem, *]) rfl ⟨_, _, _, _, rfl, ⟨gown_lt HR.out bw.size, gown_lt (by rw [← intF_all]; exact HI.out) bw.size, h.own.byte⟩, gr_trans b01 vb⟩
          exact AllReadyH.nil
        exact AllReadyH.nil
      exact AllReadyH.nil
    exact AllReadyH.nil
  refine AllReadyH.cons (o := { dst := some 7, op := Op.buildSlice 25 0 #[], type := 25, pos := "l09_vlan.go:79", after := #[], guard := none }) rfl (fun K hK => ?_) ?_
  · go_simp
    first
    | refine made_new (K := K _) (fun wx hk hbx => ?_)
    | refine made_drew (K := K _) (fun wx hk hbx => ?_)
    try have hR := gown_below hR hbx
    have hI := flat_nil intF w2 wx 3 _ hk vv.size
    have vv := gr_trans vv hbx
    have vb := gr_trans vb hbx
    clear hk hbx
    refine hK.out _ _ (box_two hw1 vb) (fun hHeld => ?_)
    clear hK K
    try simp only [Act.put, List.setIfInBounds_toArray, List.set_cons_zero, List.set_cons_succ]
    refine wpAnyH_ready (rs := [0]) (by kernel_rfl) (by simp) ?_
    refine AllReadyH.cons (o := { dst := some 3, op := Op.buildSlice 24 0 #[], type := 24, pos := "l09_vlan.go:79", after := #[], guard := none }) rfl (fun K hK => ?_) ?_
    · go_simp
      first
      | refine made_new (K := K _) (fun wx hk hbx => ?_)
      | refine made_drew (K := K _) (fun wx hk hbx => ?_)
      try have hI := gown_below hI hbx
      have hR := flat_nil vrowF w2 wx 29 _ hk vv.size
      have vv := gr_trans vv hbx
      have vb := gr_trans vb hbx
      clear hk hbx
      refine hK.out _ _ (box_two hw1 vb) (fun hHeld => ?_)
      clear hK K
      try simp only [Act.put, List.setIfInBounds_toArray, List.set_cons_zero, List.set_cons_succ]
      refine wpAnyH_ready (rs := [3]) (by kernel_rfl) (by simp) ?_
      refine AllReadyH.cons (o := { dst := some 6, op := Op.call { callee := Callee.builtin Builtin.append, args := #[Operand.tmp 3, Operand.tmp 5], argTypes := #[24, 24] }, type := 24, pos := "l09_vlan.go:79", after := #[{ on := 0, ground := Ground.data }, { on := 2, ground := Ground.data }], guard := none }) rfl (fun K hK => ?_) ?_
      · refine step_append_flat (F := vrowF) rfl _ _ 24 29 rfl w2.heap.size Try.underlying24 vrowInfo rfl (by decide) _ 0 [] rfl hR a n c v.rows rfl (h.rows.below (gr_trans bw vv)) (by omega) vv.size ?_
        intro aohR cphR wx how hrow hgr hbx
        try have hI := gown_type hI hR (by decide) hgr
        have hR := how
        have vv := vv.trans hbx
        have vb := vb.trans (hbx.mono H12.out)
        clear how hrow hgr hbx
        simp only [Nat.zero_add, List.nil_append] at hR ⊢
        refine hK.out _ _ (box_two hw1 vb) (fun hHeld => ?_)
        clear hK K
        try simp only [Act.put, List.setIfInBounds_toArray, List.set_cons_zero, List.set_cons_succ]
        refine wpAnyH_ready (rs := [7]) (by kernel_rfl) (by simp) ?_
        refine AllReadyH.cons (o := { dst := some 10, op := Op.call { callee := Callee.builtin Builtin.append, args := #[Operand.tmp 7, Operand.tmp 9], argTypes := #[25, 25] }, type := 25, pos := "l09_vlan.go:79", after := #[{ on := 4, ground := Ground.data }, { on := 6, ground := Ground.data }, { on := 3, ground := Ground.chain }], guard := none }) rfl (fun K hK => ?_) ?_
        · refine step_append_flat (F := intF) rfl _ _ 25 3 rfl w2.heap.size Try.underlying25 Try.infoI64 rfl (by decide) _ 0 [] rfl hI o p q v.own rfl ((h.own.below (gr_trans bw vv)).flat) (by omega) vv.size ?_
          intro aohI cphI wx how hrow hgr hbx
          try have hR := gown_type hR hI (by decide) hgr
          have hI := how
          have vv := vv.trans hbx
          have vb := vb.trans (hbx.mono H12.out)
          clear how hrow hgr hbx
          simp only [Nat.zero_add, List.nil_append] at hI ⊢
          refine hK.out _ _ (box_two hw1 vb) (fun hHeld => ?_)
          clear hK K
          try simp only [Act.put, List.setIfInBounds_toArray, List.set_cons_zero, List.set_cons_succ]
          refine wpAnyH_take (i := 8) (oi := { dst := some 11, op := Op.build 27 #[(0, Operand.tmp 6), (1, Operand.tmp 10)], type := 27, pos := "l09_vlan.go:79", after := #[{ on := 3, ground := Ground.data }, { on := 7, ground := Ground.data }], guard := none }) (v := ?_) rfl (by kernel_rfl) (by kernel_rfl) (by kernel_rfl) (fun _ _ _ h => h) (Or.inl ⟨by rfl, ?_⟩) (by assumption) ?_
          rotate_left
          · (intro wY hSw; (try dsimp only at hSw); go_simp; try with_reducible rfl)
          simp only [Act.put, List.setIfInBounds_toArray, List.set_cons_zero, List.set_cons_succ]
          refine wpAnyH_ready (rs := [9]) (by kernel_rfl) (by simp) ?_
          refine AllReadyH.cons (o := { dst := none, op := Op.store 27 (Operand.tmp 2) (Operand.tmp 11), type := 0, pos := "l09_vlan.go:79", after := #[{ on := 8, ground := Ground.data }, { on := 7, ground := Ground.chain }, { on := 0, ground := Ground.phase }, { on := 1, ground := Ground.phase }, { on := 2, ground := Ground.phase }, { on := 3, ground := Ground.phase }, { on := 4, ground := Ground.phase }, { on := 5, ground := Ground.phase }, { on := 6, ground := Ground.phase }, { on := 7, ground := Ground.phase }, { on := 8, ground := Ground.phase }], guard := none }) rfl (fun K hK => ?_) ?_
          · obtain ⟨⟨g0, g1⟩, f0, f1⟩ := cells2 (kept_block hk1 vv)
            go_simp
            have hR := gown_apart (gown_apart hR (grown_set (rb := w1.heap.size) 0 (.slice aohR n cphR)) HL.out) (grown_set (rb := w1.heap.size) 1 (.slice aohI p cphI)) HL.out
            have hI := gown_apart (gown_apart hI (grown_set (rb := w1.heap.size) 0 (.slice aohR n cphR)) HL.out) (grown_set (rb := w1.heap.size) 1 (.slice aohI p cphI)) HL.out
            have vb := below_set (below_set vb (Nat.le_refl _) 0 (.slice aohR n cphR)) (Nat.le_refl _) 1 (.slice aohI p cphI)
            refine hK.out _ _ (box_two hw1 vb) (fun hHeld => ?_)
            clear hK K
            try simp only [Act.put, List.setIfInBounds_toArray, List.set_cons_zero, List.set_cons_succ]
            refine wpAnyH_done (by kernel_rfl) ?_ _
            have HR := hide hR
            have HI := hide hI
            clear hR hI
            go_wp2
            refine bodyPost_ret (v := .agg #[.slice aohR n cphR, .slice aohI p cphI]) (by simp [results, Try.results54, go_sem, *]) rfl ⟨_, _, _, _, rfl, ⟨gown_lt HR.out bw.size, gown_lt (by rw [← intF_all]; exact HI.out) bw.size, h.own.byte⟩, gr_trans b01 vb⟩
          exact AllReadyH.nil
        exact AllReadyH.nil
      exact AllReadyH.nil
    exact AllReadyH.nil
  exact AllReadyH.nil

end Go.Proofs.Ytafonmfgeecopaa
