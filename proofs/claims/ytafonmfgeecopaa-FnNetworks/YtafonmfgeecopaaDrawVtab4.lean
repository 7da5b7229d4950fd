/-
  What the first law of chapter 9 draws: a table and a row.
-/
import Derived.Test.YtafonmfgeecopaaDrawVtab3
namespace Go.Proofs.Ytafonmfgeecopaa
open Go.RowKit

/-- While a table and a row are handed out. -/
structure DP (w wr : World) (R1 X Y B : Nat) (a : Option Addr) (n c : Nat) (o : Option Addr) (p q : Nat) (v : VT) (r : VR) (x0 x1 y0 y1 y2 : Value) : Prop where
  kX : wr.heap[X]? = some (.cells #[.slice a n c, .slice o p q] 27)
  kY : wr.heap[Y]? = some (.cells #[.int .i64 r.i, .int .i64 r.m, .int .i64 r.b] 29)
  kR : wr.heap[w.heap.size]? = some (.cells #[x0, x1] 27)
  kS : wr.heap[R1]? = some (.cells #[y0, y1, y2] 29)
  own : VOwn wr B a n c o p q v
  bw : Below w.heap.size w wr
  hB : w.heap.size ≤ B
  hR : w.heap.size < R1
  hS : R1 < B
  hX : R1 < X
  hY : R1 < Y

theorem DP.out1 {w wr : World} {R1 X Y B : Nat} {a : Option Addr} {n c : Nat} {o : Option Addr} {p q : Nat} {v : VT} {r : VR} {x0 x1 y0 y1 y2 : Value} (h : DP w wr R1 X Y B a n c o p q v r x0 x1 y0 y1 y2) : DP w ((wr.setCell ⟨w.heap.size, 0, none⟩ (.slice a n c)).setCell ⟨w.heap.size, 1, none⟩ (.slice o p q)) R1 X Y B a n c o p q v r (.slice a n c) (.slice o p q) y0 y1 y2 := by
  have h1 := h.hR
  have h2 := h.hX
  have h3 := h.hY
  exact ⟨kept_set (kept_set h.kX (by omega)) (by omega), kept_set (kept_set h.kY (by omega)) (by omega), boxed2 h.kR _ _, kept_set (kept_set h.kS (by omega)) (by omega), h.own.boxed h.kR _ _, below_set (below_set h.bw (Nat.le_refl _) _ _) (Nat.le_refl _) _ _, h.hB, h1, h.hS, h2, h3⟩

theorem DP.out2 {w wr : World} {R1 X Y B : Nat} {a : Option Addr} {n c : Nat} {o : Option Addr} {p q : Nat} {v : VT} {r : VR} {x0 x1 y0 y1 y2 : Value} (h : DP w wr R1 X Y B a n c o p q v r x0 x1 y0 y1 y2) : DP w (((wr.setCell ⟨R1, 0, none⟩ (.int .i64 r.i)).setCell ⟨R1, 1, none⟩ (.int .i64 r.m)).setCell ⟨R1, 2, none⟩ (.int .i64 r.b)) R1 X Y B a n c o p q v r x0 x1 (.int .i64 r.i) (.int .i64 r.m) (.int .i64 r.b) := by
  have h1 := h.hR
  have h2 := h.hX
  have h3 := h.hY
  exact ⟨kept_set (kept_set (kept_set h.kX (by omega)) (by omega)) (by omega), kept_set (kept_set (kept_set h.kY (by omega)) (by omega)) (by omega), kept_set (kept_set (kept_set h.kR (by omega)) (by omega)) (by omega), boxed3 h.kS _ _ _, own_vrow h.own h.hS _ _ _, below_set (below_set (below_set h.bw (by omega) _ _) (by omega) _ _) (by omega) _ _, h.hB, h1, h.hS, h2, h3⟩

theorem DP.drew {w wr : World} {R1 X Y B : Nat} {a : Option Addr} {n c : Nat} {o : Option Addr} {p q : Nat} {v : VT} {r : VR} {x0 x1 y0 y1 y2 : Value} (h : DP w wr R1 X Y B a n c o p q v r x0 x1 y0 y1 y2) : DP w wr.drew R1 X Y B a n c o p q v r x0 x1 y0 y1 y2 :=
  ⟨kept_block h.kX (gr_drew (Below.refl _ _)), kept_block h.kY (gr_drew (Below.refl _ _)), kept_block h.kR (gr_drew (Below.refl _ _)), kept_block h.kS (gr_drew (Below.refl _ _)), h.own.below (gr_drew (Below.refl _ _)), gr_drew h.bw, h.hB, h.hR, h.hS, h.hX, h.hY⟩

/-- A row's box is written: what a table owns stays. -/
theorem VOwn.setRow {w : World} {base : Nat} {a : Option Addr} {n c : Nat} {o : Option Addr} {p q : Nat} {v : VT} (h : VOwn w base a n c o p q v) {Y : Nat} (h1 : ∀ k, (Value.slice a n c).ownBlock = Option.some k → k ≠ Y) (h2 : ∀ k, (Value.slice o p q).ownBlock = Option.some k → k ≠ Y) (u0 u1 u2 : Value) : VOwn (((w.setCell ⟨Y, 0, Option.none⟩ u0).setCell ⟨Y, 1, Option.none⟩ u1).setCell ⟨Y, 2, Option.none⟩ u2) base a n c o p q v := by
  have g : w.grownBy (((w.setCell ⟨Y, 0, Option.none⟩ u0).setCell ⟨Y, 1, Option.none⟩ u1).setCell ⟨Y, 2, Option.none⟩ u2) (Option.some Y) := grownTr (grownTr (grown_set _ _) (grown_set _ _)) (grown_set _ _)
  exact ⟨gown_other h.rows g h1, gown_other h.own g h2, h.i64⟩

set_option maxRecDepth 100000 in
set_option maxHeartbeats 4000000 in
theorem drawPutRow_any (a0 : Option Addr) (l0 c0 : Nat) (z0 : List Int) (w : World) (h0 : Row w a0 l0 c0 z0) (hs : l0 ≤ 1048576) :
    Calls Try.prog 10 #[.slice a0 l0 c0] w fun e w' => ∃ a n c o p q v pp, ∃ r : VR, e = .returned (.tuple #[.agg #[.slice a n c, .slice o p q], .agg #[.int .i64 r.i, .int .i64 r.m, .int .i64 r.b]]) ∧ VOwn w' w.heap.size a n c o p q v ∧ Fine v pp 13 ∧ 1 ≤ pp ∧ pp ≤ 4 ∧ r.Few ∧ Below w.heap.size w w' := by
  generalize hw1 : w.alloc (Obj.cells #[Value.slice none 0 0, Value.slice none 0 0] 27) = w1
  have b01 : Below w.heap.size w w1 := by subst hw1; exact below_one _ _
  have z1 : w.heap.size < w1.heap.size := by rw [← hw1]; simp
  generalize hwb : w1.alloc (Obj.cells #[Value.int .i64 0, Value.int .i64 0, Value.int .i64 0] 29) = wb
  have b1b : Below w1.heap.size w1 wb := by subst hwb; exact below_one _ _
  have z2 : w1.heap.size < wb.heap.size := by rw [← hwb]; simp
  have kR : wb.heap[w.heap.size]? = some (.cells #[.slice none 0 0, .slice none 0 0] 27) := kept_block (by rw [← hw1]; exact block_last _ _) b1b
  have kS : wb.heap[w1.heap.size]? = some (.cells #[.int .i64 0, .int .i64 0, .int .i64 0] 29) := by rw [← hwb]; exact block_last _ _
  have b0b := gr_trans b01 b1b
  go_enter Try.func10, Try.ntmps10
  go_wp2_with fail
  refine (new_any a0 l0 c0 z0 _ (h0.below b0b) hs).mono ?_
  rintro e w2 ⟨rfl, hc, hb2⟩
  have z3 : wb.heap.size < w2.heap.size := hc.lt
  have kR := kept_block kR hb2
  have kS := kept_block kS hb2
  have bw := gr_trans b0b hb2
  clear hb2 b0b b01 b1b
  go_wp2_with fail
  refine (l9Tab_any wb.heap.size a0 l0 c0 z0 _ hc).mono ?_
  rintro e w3 ⟨a, n, c, o, p, q, v, pp, rfl, t, hF, hp1, hp4, wt⟩
  have kR := kept_grown kR wt.grown (by intro k e; cases e; omega)
  have kS := kept_grown kS wt.grown (by intro k e; cases e; omega)
  have bw := bw.trans (below_of_grown wt.grown (by omega) (Nat.le_of_lt z3))
  have z4 : w2.heap.size ≤ w3.heap.size := wt.grown.size
  have HE : Hid ((∀ k, (Value.slice a n c).ownBlock = some k → k < w3.heap.size) ∧ (∀ k, (Value.slice o p q).ownBlock = some k → k < w3.heap.size)) := hide ⟨fun k hk => (t.rows.lt k hk).2, fun k hk => (t.own.lt k hk).2⟩
  have hc := wt.cur
  have HF := hide hF
  clear wt hF
  generalize hwX : w3.alloc (Obj.cells #[Value.slice a n c, Value.slice o p q] 27) = wX
  have b3X : Below w3.heap.size w3 wX := by subst hwX; exact below_one _ _
  have kX : wX.heap[w3.heap.size]? = some (.cells #[.slice a n c, .slice o p q] 27) := by rw [← hwX]; exact block_last _ _
  have z5 : w3.heap.size < wX.heap.size := by rw [← hwX]; simp
  have kR := kept_block kR b3X
  have kS := kept_block kS b3X
  have t := t.below b3X
  have bw := gr_trans bw b3X
  have hc := hc.below b3X
  obtain ⟨⟨x0, x1⟩, x2, x3⟩ := cells2 kX
  clear b3X
  go_wp2_with fail
  refine (below_any wb.heap.size a0 l0 c0 z0 4 _ hc (by omega)).mono ?_
  rintro e w4 ⟨x, rfl, hx0, hx1, -, wt4⟩
  have hx1 := hx1 (by omega)
  have z6 : wX.heap.size ≤ w4.heap.size := wt4.grown.size
  have kR := kept_grown kR wt4.grown (by intro k e; cases e; omega)
  have kS := kept_grown kS wt4.grown (by intro k e; cases e; omega)
  have t := t.wentBy wt4 z3
  have bw := bw.trans (below_of_grown wt4.grown (by omega) (Nat.le_of_lt hc.lt))
  have hc := wt4.cur
  have kX := kept_grown kX wt4.grown (by intro k e; cases e; omega)
  clear wt4
  clear x0 x1 x2 x3
  have hwx : IntKind.i64.wrap (1 + x) = 1 + x := by rw [IntKind.wrap_i64]; omega
  obtain ⟨pq, hpq⟩ : ∃ pq : Nat, 1 + x = (pq : Int) := ⟨(1 + x).toNat, by omega⟩
  have hq1 : 1 ≤ pq := by omega
  have hq6 : pq ≤ 6 := by omega
  go_wp2_with fail
  refine (l9Row2_any wb.heap.size a0 l0 c0 z0 pq hq1 hq6 _ hc).mono ?_
  rintro e w5 ⟨r, rfl, hr, wt5⟩
  have z7 : w4.heap.size ≤ w5.heap.size := wt5.grown.size
  have kR := kept_grown kR wt5.grown (by intro k e; cases e; omega)
  have kS := kept_grown kS wt5.grown (by intro k e; cases e; omega)
  have t := t.wentBy wt5 z3
  have bw := bw.trans (below_of_grown wt5.grown (by omega) (Nat.le_of_lt hc.lt))
  have hc := wt5.cur
  have kX := kept_grown kX wt5.grown (by intro k e; cases e; omega)
  clear wt5
  clear hpq hwx hx0 hx1
  generalize hwY : w5.alloc (Obj.cells #[Value.int .i64 r.i, Value.int .i64 r.m, Value.int .i64 r.b] 29) = wY
  have b5Y : Below w5.heap.size w5 wY := by subst hwY; exact below_one _ _
  have kY : wY.heap[w5.heap.size]? = some (.cells #[.int .i64 r.i, .int .i64 r.m, .int .i64 r.b] 29) := by rw [← hwY]; exact block_last _ _
  have kR := kept_block kR b5Y
  have kS := kept_block kS b5Y
  have kX := kept_block kX b5Y
  have t := t.below b5Y
  have bw := gr_trans bw b5Y
  have hc := hc.below b5Y
  have z8 : w5.heap.size ≤ wY.heap.size := b5Y.size
  obtain ⟨⟨x0, x1, x2⟩, x3, x4, x5⟩ := cells3 kY
  clear b5Y
  go_wp2_with fail
  refine (once_any wb.heap.size a0 l0 c0 z0 6 _ hc (by omega)).mono ?_
  rintro e w6 ⟨bo, rfl, wt6⟩
  have z9 : wY.heap.size ≤ w6.heap.size := wt6.grown.size
  have kR := kept_grown kR wt6.grown (by intro k e; cases e; omega)
  have kS := kept_grown kS wt6.grown (by intro k e; cases e; omega)
  have t := t.wentBy wt6 z3
  have bw := bw.trans (below_of_grown wt6.grown (by omega) (Nat.le_of_lt hc.lt))
  have hc := wt6.cur
  have kX := kept_grown kX wt6.grown (by intro k e; cases e; omega)
  have kY := kept_grown kY wt6.grown (by intro k e; cases e; omega)
  clear wt6
  clear x0 x1 x2 x3 x4 x5 hwY hwX
  cases bo
  · have HR := hide hr
    have dt6 : DP w w6 w1.heap.size w3.heap.size w5.heap.size w2.heap.size a n c o p q v r (.slice none 0 0) (.slice none 0 0) (.int .i64 0) (.int .i64 0) (.int .i64 0) := ⟨kX, kY, kR, kS, t, bw, by omega, z1, by omega, by omega, by omega⟩
    have dt : DP w w6.drew w1.heap.size w3.heap.size w5.heap.size w2.heap.size a n c o p q v r (.slice none 0 0) (.slice none 0 0) (.int .i64 0) (.int .i64 0) (.int .i64 0) := ⟨kept_block dt6.kX (gr_drew (Below.refl _ _)), kept_block dt6.kY (gr_drew (Below.refl _ _)), kept_block dt6.kR (gr_drew (Below.refl _ _)), kept_block dt6.kS (gr_drew (Below.refl _ _)), dt6.own.below (gr_drew (Below.refl _ _)), gr_drew dt6.bw, dt6.hB, dt6.hR, dt6.hS, dt6.hX, dt6.hY⟩
    clear kX kY kR kS t bw hc hr z1 z2 z3 z4 z5 z6 z7 z8 z9
    generalize w3.heap.size = X at dt dt6 ⊢
    generalize w5.heap.size = Y at dt dt6 ⊢
    go_wp2_with fail
    refine wp_region_held_drew (S := (fun W => (W.cell? ⟨X, 0, none⟩ = some (.slice a n c) ∧ W.cell? ⟨X, 1, none⟩ = some (.slice o p q)) ∧ (W.cell? ⟨Y, 0, none⟩ = some (.int .i64 r.i) ∧ W.cell? ⟨Y, 1, none⟩ = some (.int .i64 r.m) ∧ W.cell? ⟨Y, 2, none⟩ = some (.int .i64 r.b)))) (by kernel_rfl) (⟨(cells2 dt.kX).1, (cells3 dt.kY).1⟩) (fun hHeld => ?_)
    refine wpAnyH_take (i := 0) (oi := { dst := some 27, op := Op.load 27 (Operand.tmp 5), type := 27, pos := "l09_vlan.go:215", after := #[], guard := none }) (v := ?_) rfl (by kernel_rfl) (by kernel_rfl) (by kernel_rfl) (fun _ _ _ h => h) (Or.inl ⟨by rfl, ?_⟩) (by assumption) ?_
    rotate_left
    · (intro wY hSw; (try dsimp only at hSw); go_simp; try with_reducible rfl)
    simp only [Act.put, List.setIfInBounds_toArray, List.set_cons_zero, List.set_cons_succ]
    refine wpAnyH_take (i := 1) (oi := { dst := some 28, op := Op.load 29 (Operand.tmp 6), type := 29, pos := "l09_vlan.go:215", after := #[{ on := 2, ground := Ground.gcOnly Departure.lateStores }], guard := none }) (v := ?_) rfl (by kernel_rfl) (by kernel_rfl) (by kernel_rfl) (fun _ _ _ h => h) (Or.inl ⟨by rfl, ?_⟩) (by assumption) ?_
    rotate_left
    · (intro wY hSw; (try dsimp only at hSw); go_simp; try with_reducible rfl)
    simp only [Act.put, List.setIfInBounds_toArray, List.set_cons_zero, List.set_cons_succ]
    refine wpAnyH_ready (rs := [2]) (by kernel_rfl) (by simp) ?_
    refine AllReadyH.cons (o := { dst := none, op := Op.store 27 (Operand.tmp 2) (Operand.tmp 27), type := 0, pos := "l09_vlan.go:215", after := #[{ on := 0, ground := Ground.data }, { on := 0, ground := Ground.phase }, { on := 1, ground := Ground.textOnly Departure.lateStores }], guard := none }) rfl (fun K hK => ?_) ?_
    · obtain ⟨⟨g0, g1⟩, f0, f1⟩ := cells2 dt6.kR
      go_simp
      have dt := dt6.out1.drew
      generalize ((w6.setCell ⟨w.heap.size, 0, none⟩ (.slice a n c)).setCell ⟨w.heap.size, 1, none⟩ (.slice o p q)).drew = wq at dt ⊢
      clear g0 g1 f0 f1
      refine hK.out _ _ (⟨(cells2 dt.kX).1, (cells3 dt.kY).1⟩) (fun hHeld => ?_)
      clear hK K
      try simp only [Act.put, List.setIfInBounds_toArray, List.set_cons_zero, List.set_cons_succ]
      refine wpAnyH_ready (rs := [3]) (by kernel_rfl) (by simp) ?_
      refine AllReadyH.cons (o := { dst := none, op := Op.store 29 (Operand.tmp 3) (Operand.tmp 28), type := 0, pos := "l09_vlan.go:215", after := #[{ on := 1, ground := Ground.data }, { on := 2, ground := Ground.chain }, { on := 0, ground := Ground.phase }, { on := 1, ground := Ground.phase }, { on := 2, ground := Ground.phase }], guard := none }) rfl (fun K hK => ?_) ?_
      · obtain ⟨⟨g0, g1, g2⟩, f0, f1, f2⟩ := cells3 dt.kS
        go_simp
        have dt := dt.out2
        clear g0 g1 g2 f0 f1 f2
        refine hK.out _ _ (⟨(cells2 dt.kX).1, (cells3 dt.kY).1⟩) (fun hHeld => ?_)
        clear hK K
        try simp only [Act.put, List.setIfInBounds_toArray, List.set_cons_zero, List.set_cons_succ]
        refine wpAnyH_done (by kernel_rfl) ?_ _
        clear hHeld dt6
        obtain ⟨⟨g0, g1⟩, -⟩ := cells2 dt.kR
        obtain ⟨⟨g2, g3, g4⟩, -⟩ := cells3 dt.kS
        have HD := hide dt
        clear dt
        go_wp2
        exact bodyPost_ret (v := .tuple #[.agg #[.slice a n c, .slice o p q], .agg #[.int .i64 r.i, .int .i64 r.m, .int .i64 r.b]]) (by simp [results, Try.results10, go_sem, *]) rfl ⟨_, _, _, _, _, _, _, _, r, rfl, HD.out.own.lt HD.out.hB, HF.out, hp1, hp4, HR.out, HD.out.bw⟩
      exact AllReadyH.nil
    exact AllReadyH.nil
  · clear hr
    go_wp2_with fail
    refine (pick_any wb.heap.size a0 l0 c0 z0 [0, 99, 100] _ _ w6 hc rfl rfl (by simp) (by simp)).mono ?_
    rintro e w7 ⟨i, hi, rfl, wt7⟩
    have hi : 0 ≤ i ∧ i ≤ 100 := by simp at hi; omega
    have kR := kept_grown kR wt7.grown (by intro k e; cases e; omega)
    have kS := kept_grown kS wt7.grown (by intro k e; cases e; omega)
    have t := t.wentBy wt7 z3
    have bw := bw.trans (below_of_grown wt7.grown (by omega) (Nat.le_of_lt hc.lt))
    have hc := wt7.cur
    have kX := kept_grown kX wt7.grown (by intro k e; cases e; omega)
    have kY := kept_grown kY wt7.grown (by intro k e; cases e; omega)
    clear wt7
    go_wp2_with fail
    refine (pick_any wb.heap.size a0 l0 c0 z0 [-1, 1, 64] _ _ w7 hc rfl rfl (by simp) (by simp)).mono ?_
    rintro e w8 ⟨m, hm, rfl, wt8⟩
    have hm : -1 ≤ m ∧ m ≤ 64 := by simp at hm; omega
    have kR := kept_grown kR wt8.grown (by intro k e; cases e; omega)
    have kS := kept_grown kS wt8.grown (by intro k e; cases e; omega)
    have t := t.wentBy wt8 z3
    have bw := bw.trans (below_of_grown wt8.grown (by omega) (Nat.le_of_lt hc.lt))
    have hc := wt8.cur
    have kX := kept_grown kX wt8.grown (by intro k e; cases e; omega)
    have kY := kept_grown kY wt8.grown (by intro k e; cases e; omega)
    clear wt8
    go_wp2_with fail
    refine (below_any wb.heap.size a0 l0 c0 z0 4 _ hc (by omega)).mono ?_
    rintro e w9 ⟨b, rfl, hb0, hb1, -, wt9⟩
    have hb1 := hb1 (by omega)
    have kR := kept_grown kR wt9.grown (by intro k e; cases e; omega)
    have kS := kept_grown kS wt9.grown (by intro k e; cases e; omega)
    have t := t.wentBy wt9 z3
    have bw := bw.trans (below_of_grown wt9.grown (by omega) (Nat.le_of_lt hc.lt))
    have hc := wt9.cur
    have kX := kept_grown kX wt9.grown (by intro k e; cases e; omega)
    have kY := kept_grown kY wt9.grown (by intro k e; cases e; omega)
    clear wt9
    have HR : Hid (VR.Few ⟨i, m, b⟩) := hide (by unfold VR.Few VR.Rng I64; simp only; omega)
    obtain ⟨⟨x0, x1, x2⟩, x3, x4, x5⟩ := cells3 kY
    generalize hwZ : ((w9.setCell ⟨w5.heap.size, 0, none⟩ (.int .i64 i)).setCell ⟨w5.heap.size, 1, none⟩ (.int .i64 m)).setCell ⟨w5.heap.size, 2, none⟩ (.int .i64 b) = wZ
    have kY : wZ.heap[w5.heap.size]? = some (.cells #[.int .i64 i, .int .i64 m, .int .i64 b] 29) := by rw [← hwZ]; exact boxed3 kY _ _ _
    have kX : wZ.heap[w3.heap.size]? = some (.cells #[.slice a n c, .slice o p q] 27) := by rw [← hwZ]; exact kept_set (kept_set (kept_set kX (by omega)) (by omega)) (by omega)
    have kR : wZ.heap[w.heap.size]? = some (.cells #[.slice none 0 0, .slice none 0 0] 27) := by rw [← hwZ]; exact kept_set (kept_set (kept_set kR (by omega)) (by omega)) (by omega)
    have kS : wZ.heap[w1.heap.size]? = some (.cells #[.int .i64 0, .int .i64 0, .int .i64 0] 29) := by rw [← hwZ]; exact kept_set (kept_set (kept_set kS (by omega)) (by omega)) (by omega)
    have t : VOwn wZ w2.heap.size a n c o p q v := by
      rw [← hwZ]
      exact t.setRow (fun k hk => by have := HE.out.1 k hk; omega) (fun k hk => by have := HE.out.2 k hk; omega) _ _ _
    have bw : Below w.heap.size w wZ := by rw [← hwZ]; exact below_set (below_set (below_set bw (by omega) _ _) (by omega) _ _) (by omega) _ _
    have dt6 : DP w wZ w1.heap.size w3.heap.size w5.heap.size w2.heap.size a n c o p q v ⟨i, m, b⟩ (.slice none 0 0) (.slice none 0 0) (.int .i64 0) (.int .i64 0) (.int .i64 0) := ⟨kX, kY, kR, kS, t, bw, by omega, z1, by omega, by omega, by omega⟩
    have dt : DP w wZ.drew w1.heap.size w3.heap.size w5.heap.size w2.heap.size a n c o p q v ⟨i, m, b⟩ (.slice none 0 0) (.slice none 0 0) (.int .i64 0) (.int .i64 0) (.int .i64 0) := ⟨kept_block dt6.kX (gr_drew (Below.refl _ _)), kept_block dt6.kY (gr_drew (Below.refl _ _)), kept_block dt6.kR (gr_drew (Below.refl _ _)), kept_block dt6.kS (gr_drew (Below.refl _ _)), dt6.own.below (gr_drew (Below.refl _ _)), gr_drew dt6.bw, dt6.hB, dt6.hR, dt6.hS, dt6.hX, dt6.hY⟩
    clear kX kY kR kS t bw hc z1 z2 z3 z4 z5 z6 z7 z8 z9
    go_wp2_with fail
    clear x0 x1 x2 x3 x4 x5 hwZ
    obtain ⟨X, hX⟩ : ∃ X, X = w3.heap.size := ⟨_, rfl⟩
    obtain ⟨Y, hY⟩ : ∃ Y, Y = w5.heap.size := ⟨_, rfl⟩
    rw [← hX, ← hY] at dt dt6
    rw [← hX, ← hY]
    clear hX hY
    refine wp_region_held_drew (S := (fun W => (W.cell? ⟨X, 0, none⟩ = some (.slice a n c) ∧ W.cell? ⟨X, 1, none⟩ = some (.slice o p q)) ∧ (W.cell? ⟨Y, 0, none⟩ = some (.int .i64 i) ∧ W.cell? ⟨Y, 1, none⟩ = some (.int .i64 m) ∧ W.cell? ⟨Y, 2, none⟩ = some (.int .i64 b)))) (by kernel_rfl) (⟨(cells2 dt.kX).1, (cells3 dt.kY).1⟩) (fun hHeld => ?_)
    refine wpAnyH_take (i := 0) (oi := { dst := some 27, op := Op.load 27 (Operand.tmp 5), type := 27, pos := "l09_vlan.go:215", after := #[], guard := none }) (v := ?_) rfl (by kernel_rfl) (by kernel_rfl) (by kernel_rfl) (fun _ _ _ h => h) (Or.inl ⟨by rfl, ?_⟩) (by assumption) ?_
    rotate_left
    · (intro wY hSw; (try dsimp only at hSw); go_simp; try with_reducible rfl)
    simp only [Act.put, List.setIfInBounds_toArray, List.set_cons_zero, List.set_cons_succ]
    refine wpAnyH_take (i := 1) (oi := { dst := some 28, op := Op.load 29 (Operand.tmp 6), type := 29, pos := "l09_vlan.go:215", after := #[{ on := 2, ground := Ground.gcOnly Departure.lateStores }], guard := none }) (v := ?_) rfl (by kernel_rfl) (by kernel_rfl) (by kernel_rfl) (fun _ _ _ h => h) (Or.inl ⟨by rfl, ?_⟩) (by assumption) ?_
    rotate_left
    · (intro wY hSw; (try dsimp only at hSw); go_simp; try with_reducible rfl)
    simp only [Act.put, List.setIfInBounds_toArray, List.set_cons_zero, List.set_cons_succ]
    refine wpAnyH_ready (rs := [2]) (by kernel_rfl) (by simp) ?_
    refine AllReadyH.cons (o := { dst := none, op := Op.store 27 (Operand.tmp 2) (Operand.tmp 27), type := 0, pos := "l09_vlan.go:215", after := #[{ on := 0, ground := Ground.data }, { on := 0, ground := Ground.phase }, { on := 1, ground := Ground.textOnly Departure.lateStores }], guard := none }) rfl (fun K hK => ?_) ?_
    · obtain ⟨⟨g0, g1⟩, f0, f1⟩ := cells2 dt6.kR
      go_simp
      have dt := dt6.out1.drew
      generalize ((wZ.setCell ⟨w.heap.size, 0, none⟩ (.slice a n c)).setCell ⟨w.heap.size, 1, none⟩ (.slice o p q)).drew = wq at dt ⊢
      clear g0 g1 f0 f1
      refine hK.out _ _ (⟨(cells2 dt.kX).1, (cells3 dt.kY).1⟩) (fun hHeld => ?_)
      clear hK K
      try simp only [Act.put, List.setIfInBounds_toArray, List.set_cons_zero, List.set_cons_succ]
      refine wpAnyH_ready (rs := [3]) (by kernel_rfl) (by simp) ?_
      refine AllReadyH.cons (o := { dst := none, op := Op.store 29 (Operand.tmp 3) (Operand.tmp 28), type := 0, pos := "l09_vlan.go:215", after := #[{ on := 1, ground := Ground.data }, { on := 2, ground := Ground.chain }, { on := 0, ground := Ground.phase }, { on := 1, ground := Ground.phase }, { on := 2, ground := Ground.phase }], guard := none }) rfl (fun K hK => ?_) ?_
      · obtain ⟨⟨g0, g1, g2⟩, f0, f1, f2⟩ := cells3 dt.kS
        go_simp
        have dt := dt.out2
        clear g0 g1 g2 f0 f1 f2
        refine hK.out _ _ (⟨(cells2 dt.kX).1, (cells3 dt.kY).1⟩) (fun hHeld => ?_)
        clear hK K
        try simp only [Act.put, List.setIfInBounds_toArray, List.set_cons_zero, List.set_cons_succ]
        refine wpAnyH_done (by kernel_rfl) ?_ _
        clear hHeld dt6
        obtain ⟨⟨g0, g1⟩, -⟩ := cells2 dt.kR
        obtain ⟨⟨g2, g3, g4⟩, -⟩ := cells3 dt.kS
        have HD := hide dt
        clear dt
        go_wp2
        exact bodyPost_ret (v := .tuple #[.agg #[.slice a n c, .slice o p q], .agg #[.int .i64 i, .int .i64 m, .int .i64 b]]) (by simp [results, Try.results10, go_sem, *]) rfl ⟨_, _, _, _, _, _, _, _, ⟨i, m, b⟩, rfl, HD.out.own.lt HD.out.hB, HF.out, hp1, hp4, HR.out, HD.out.bw⟩
      exact AllReadyH.nil
    exact AllReadyH.nil

end Go.Proofs.Ytafonmfgeecopaa
