/-
  FnExactPutRow answers true at all arguments: PutRow answers as the specification; it writes into no argument and keeps nothing of one; its answer owns its memory, behind another call too.
-/
import Derived.Test.YtafonmfgeecopabVlanPut
import Derived.Test.YtafonmfgeecopabVtabSizes
import Derived.Test.YtafonmfgeecopabVtabHelp
import Derived.Test.YtafonmfgeecopabVtabOpen
import Derived.Deep.CutRange
import Derived.WalkKit
import Derived.ProofKit
import Derived.OpenShut
import Derived.ShutString
import Derived.ChangeOld
import Derived.Below
import Derived.Lib.SmallJoins
namespace Go.Proofs.Ytafonmfgeecopab
open Go.RowKit

theorem putF_len (r : VR) : ∀ (l : List VR) (d : Bool), (putRowF l r d).length ≤ l.length + (if d then 0 else 1)
  | [], d => by cases d <;> simp [putRowF]
  | x :: t, d => by
    have ih := putF_len r t (d || decide (r.i ≤ x.i))
    rw [show putRowF (x :: t) r d = (if !d && decide (r.i ≤ x.i) then [r] else []) ++ (if x.i != r.i then [x] else []) ++ putRowF t r (d || decide (r.i ≤ x.i)) by simp [putRowF]]
    rw [List.length_append, List.length_append, List.length_cons]
    have h2 : (if x.i != r.i then [x] else ([] : List VR)).length ≤ 1 := by split <;> simp
    generalize (if x.i != r.i then [x] else ([] : List VR)) = L at h2 ⊢
    cases d
    · cases h : decide (r.i ≤ x.i)
      · rw [h] at ih
        simp at ih ⊢
        omega
      · rw [h] at ih
        simp at ih ⊢
        omega
    · simp at ih ⊢
      omega

theorem sizes_PutRow (v : VT) (r : VR) : (putRow v r).1.rows.length ≤ v.rows.length + 1 ∧ (putRow v r).1.own.length = v.own.length := by
  unfold putRow
  split
  · exact orV_sizes _ _ (putF_len r v.rows false) rfl
  · exact ⟨Nat.le_succ _, rfl⟩

/-- A table's box is written: what a table owns stays. -/
theorem VOwn.setBox {w : World} {base : Nat} {a : Option Addr} {n c : Nat} {o : Option Addr} {p q : Nat} {v : VT} (h : VOwn w base a n c o p q v) {X : Nat} {x y : Value} (hX : w.heap[X]? = some (.cells #[x, y] 30)) (u1 u2 : Value) : VOwn ((w.setCell ⟨X, 0, none⟩ u1).setCell ⟨X, 1, none⟩ u2) base a n c o p q v := by
  have hX1 := set_block5 (j := 0) hX u1
  have r1 := gown_other h.rows (grown_set (rb := X) 0 u1) (box_ne h.rows hX (by decide))
  have o1 := gown_other h.own (grown_set (rb := X) 0 u1) (box_ne h.own hX (by decide))
  exact ⟨gown_other r1 (grown_set (rb := X) 1 u2) (box_ne r1 hX1 (by decide)), gown_other o1 (grown_set (rb := X) 1 u2) (box_ne o1 hX1 (by decide)), h.i64⟩

theorem set_box2 {w : World} {X : Nat} {x y : Value} {T : TypeId} (hX : w.heap[X]? = some (.cells #[x, y] T)) (u1 u2 : Value) : ((w.setCell ⟨X, 0, none⟩ u1).setCell ⟨X, 1, none⟩ u2).heap[X]? = some (.cells #[u1, u2] T) :=
  set_block5 (j := 1) (set_block5 (j := 0) hX u1) u2

theorem VOwn.some {w : World} {base : Nat} {a : Option Addr} {n c : Nat} {o : Option Addr} {p q : Nat} {v : VT} (h : VOwn w base a n c o p q v) : a = none ∨ ∃ b off, a = some ⟨b, off, none⟩ := by
  rcases h.rows.2 with ⟨e, -⟩ | ⟨g, cap, cur, e, -⟩
  · cases e
    exact .inl rfl
  · cases e
    exact .inr ⟨g, 0, rfl⟩

/-- Marks are put; a table's box stays. -/
theorem markVtab_box (B : Nat) (a : Option Addr) (n c : Nat) (o : Option Addr) (p q : Nat) (v : VT) (w : World) (X : Nat) {x y : Value} (h : VOwn w B a n c o p q v) (hB : B ≤ w.heap.size) (hX : w.heap[X]? = some (.cells #[x, y] 30)) (hn : n ≤ 16777216) (hp : p ≤ 16777216) :
    Calls Try.prog 15 #[.agg #[.slice a n c, .slice o p q], .int .i64 1] w fun e w' => e = .returned (.int .i64 (1 + 3 * n + p)) ∧ VOwn w' B a n c o p q (markT 1 n p) ∧ w'.heap[X]? = some (.cells #[x, y] 30) ∧ Below B w w' := by
  have l1 := h.rows.lt
  have l2 := h.own.lt
  have n1 := box_ne h.rows hX (by decide)
  have n2 := box_ne h.own hX (by decide)
  have hXl := (Array.getElem?_eq_some_iff.1 hX).1
  generalize hw1 : w.alloc (Obj.cells #[Value.slice a n c, Value.slice o p q] 30) = w1
  have b01 : Below w.heap.size w w1 := by subst hw1; exact below_one _ _
  have kb : w1.heap[w.heap.size]? = some (.cells #[.slice a n c, .slice o p q] 30) := by rw [← hw1]; exact block_last _ _
  obtain ⟨⟨x0, x1⟩, -⟩ := cells2 kb
  have h1 := h.below b01
  have bt1 : Below B w w1 := b01.mono hB
  have hX1 := kept_block hX b01
  go_enter Try.func15, Try.ntmps15
  go_wp2_with fail
  refine (markVrows_grown B a n c v.rows 1 _ h1.rows hn (by omega) (by omega)).mono ?_
  rintro e w2 ⟨rfl, hR, hg⟩
  have bt2 := bt1.trans ((Below.refl B w1).grown hg (Nat.le_trans hB b01.size) (fun k hk => (l1 k hk).1))
  have hI := gown_type h1.own h1.rows (by decide) hg
  have kb2 := kept_grown kb hg (fun k hk => by have := (l1 k hk).2; omega)
  have hX2 := kept_grown hX1 hg (fun k hk => n1 k hk)
  obtain ⟨⟨y0, y1⟩, -⟩ := cells2 kb2
  clear x0 x1 hg
  go_wp2_with fail
  refine (markI_grown B o p q v.own (1 + 3 * n) _ hI hp (by omega) (by omega)).mono ?_
  rintro e w3 ⟨rfl, hI3, hg⟩
  have bt3 := bt2.trans ((Below.refl B w2).grown hg (Nat.le_trans hB bt2.size) (fun k hk => (l2 k hk).1))
  have hR3 := gown_type hR hI (by decide) hg
  have hX3 := kept_grown hX2 hg (fun k hk => n2 k hk)
  have HO : Hid (VOwn w3 B a n c o p q (markT 1 n p)) := hide ⟨hR3, hI3, marksI_byte _ _ (by omega) (by omega) hp⟩
  have HT := hide bt3
  have HX := hide hX3
  clear hR hI hR3 hI3 hg y0 y1 bt2 bt3 hX3
  go_wp2
  go_ret
  exact ⟨rfl, HO.out, HX.out, HT.out⟩

set_option maxRecDepth 100000 in
set_option maxHeartbeats 16000000 in
theorem exactPutRow_walk (a0 : Option Addr) (n0 c0 : Nat) (o0 : Option Addr) (p0 q0 : Nat) (v0 : VT) (r : VR) (w : World) (h0 : VTab w a0 n0 c0 o0 p0 q0 v0) (g0 : ∀ x ∈ v0.rows, x.Rng) (gr : r.Rng) :
    Calls Try.prog 4 #[.agg #[.slice a0 n0 c0, .slice o0 p0 q0], .agg #[.int .i64 r.i, .int .i64 r.m, .int .i64 r.b]] w fun e w' => e = .returned (.bool true) ∧ Below w.heap.size w w' := by
  have hle := Nat.le_trans h0.rows.le h0.rows.top
  have hle2 := Nat.le_trans h0.own.le h0.own.top
  generalize hwA : w.alloc (Obj.cells #[Value.slice a0 n0 c0, Value.slice o0 p0 q0] 25) = wA
  have uA : Below w.heap.size w wA := by subst hwA; exact below_one _ _
  generalize hwR : wA.alloc (Obj.cells #[Value.int .i64 r.i, Value.int .i64 r.m, Value.int .i64 r.b] 35) = wR
  have uAR : Below wA.heap.size wA wR := by subst hwR; exact below_one _ _
  have kA : wR.heap[w.heap.size]? = some (.cells #[.slice a0 n0 c0, .slice o0 p0 q0] 25) := kept_block (by rw [← hwA]; exact block_last _ _) uAR
  have kR : wR.heap[wA.heap.size]? = some (.cells #[.int .i64 r.i, .int .i64 r.m, .int .i64 r.b] 35) := by rw [← hwR]; exact block_last _ _
  have uR := gr_trans uA uAR
  obtain ⟨⟨x0, x1⟩, -⟩ := cells2 kA
  by_cases gb : ¬ (n0 : Int) + (p0 : Int) ≤ 1048576
  · go_enter Try.func4, Try.ntmps4
    go_wp2_with fail
    refine (szVtab_any a0 n0 c0 o0 p0 q0 _ hle hle2).mono ?_
    rintro e w1 ⟨rfl, hb1⟩
    rw [if_neg (show ¬ (n0 : Int) + (p0 : Int) ≤ 1048576 by omega)]
    have HB := hide (gr_trans uR hb1)
    clear x0 x1
    go_wp2
    go_ret
    exact ⟨rfl, HB.out⟩
  have gb : (n0 : Int) + (p0 : Int) ≤ 1048576 := by omega
  have gn : n0 ≤ 1048576 := by omega
  have gp : p0 ≤ 1048576 := by omega
  have gs : ¬ ((1048576 : Int) - (n0 : Int) - (p0 : Int) < 0) := by omega
  generalize hV : putRow v0 r = V
  have HV := hide hV
  clear hV
  go_enter Try.func4, Try.ntmps4
  go_wp2_with fail
  refine (szVtab_any a0 n0 c0 o0 p0 q0 _ hle hle2).mono ?_
  rintro e w1 ⟨rfl, hb1⟩
  rw [if_pos gb]
  have kA := kept_block kA hb1
  have kR := kept_block kR hb1
  have uB := gr_trans uR hb1
  clear hb1 x0 x1 uR
  go_upto_region 5 with fail
  go_cut [6, 7] from 16 to 103 (fun s6 s7 wx => ∃ (g : Nat) (a3 : Option Addr) (n3 c3 : Nat) (o3 : Option Addr) (p3 q3 : Nat), s6 = .pointer (some ⟨g, 0, none⟩) ∧ s7 = .bool V.2 ∧ w1.heap.size ≤ g ∧ wx.heap[g]? = some (.cells #[.slice a3 n3 c3, .slice o3 p3 q3] 30) ∧ VOwn wx w1.heap.size a3 n3 c3 o3 p3 q3 V.1 ∧ Below w1.heap.size w1 wx)
  case first =>
    have vv : Below w1.heap.size w1 w1.drew := gr_drew (Below.refl _ _)
    go_wp2_with fail
    refine wp_region_held_drew (S := (fun W => (W.cell? ⟨w.heap.size, 0, none⟩ = some (.slice a0 n0 c0) ∧ W.cell? ⟨w.heap.size, 1, none⟩ = some (.slice o0 p0 q0)) ∧ (W.cell? ⟨wA.heap.size, 0, none⟩ = some (.int .i64 r.i) ∧ W.cell? ⟨wA.heap.size, 1, none⟩ = some (.int .i64 r.m) ∧ W.cell? ⟨wA.heap.size, 2, none⟩ = some (.int .i64 r.b)))) (by kernel_rfl) (⟨(cells2 (kept_block kA vv)).1, (cells3 (kept_block kR vv)).1⟩) (fun hHeld => ?_)
    refine wpAnyH_take (i := 0) (oi := { dst := some 22, op := Op.load 25 (Operand.tmp 2), type := 25, pos := "exact.go:3727", after := #[], guard := none }) (v := ?_) rfl (by kernel_rfl) (by kernel_rfl) (by kernel_rfl) (fun _ _ _ h => h) (Or.inl ⟨by rfl, ?_⟩) (by assumption) ?_
    rotate_left
    · (intro wY hSw; (try dsimp only at hSw); go_simp; try with_reducible rfl)
    simp only [Act.put, List.setIfInBounds_toArray, List.set_cons_zero, List.set_cons_succ]
    refine wpAnyH_take (i := 2) (oi := { dst := some 24, op := Op.load 35 (Operand.tmp 3), type := 35, pos := "exact.go:3727", after := #[], guard := none }) (v := ?_) rfl (by kernel_rfl) (by kernel_rfl) (by kernel_rfl) (fun _ _ _ h => h) (Or.inl ⟨by rfl, ?_⟩) (by assumption) ?_
    rotate_left
    · (intro wY hSw; (try dsimp only at hSw); go_simp; try with_reducible rfl)
    simp only [Act.put, List.setIfInBounds_toArray, List.set_cons_zero, List.set_cons_succ]
    refine wpAnyH_ready (rs := [1, 8]) (by kernel_rfl) (by simp) ?_
    refine AllReadyH.cons (o := { dst := some 23, op := Op.call { callee := Callee.value (Operand.func 9), args := #[Operand.tmp 22], argTypes := #[25] }, type := 30, pos := "exact.go:3727", after := #[{ on := 0, ground := Ground.data }], guard := none }) rfl (fun K hK => ?_) ?_
    · go_simp
      refine (toVtab_made a0 n0 c0 o0 p0 q0 v0 _ (h0.below (gr_trans uB vv)) gn gp).mono ?_
      rintro e wx ⟨a2, c2, o2, q2, rfl, t2, hbx⟩
      try have t3 := t3.below hbx
      try have kB := kept_block kB hbx
      have vv := gr_trans vv hbx
      clear hbx
      go_wp2_with fail
      refine hK.out _ _ (⟨(cells2 (kept_block kA vv)).1, (cells3 (kept_block kR vv)).1⟩) (fun hHeld => ?_)
      clear hK K
      try simp only [Act.put, List.setIfInBounds_toArray, List.set_cons_zero, List.set_cons_succ]
      refine wpAnyH_ready (rs := [3, 8]) (by kernel_rfl) (by simp) ?_
      refine AllReadyH.cons (o := { dst := some 25, op := Op.call { callee := Callee.value (Operand.func 13), args := #[Operand.tmp 24], argTypes := #[35] }, type := 38, pos := "exact.go:3727", after := #[{ on := 2, ground := Ground.data }, { on := 1, ground := Ground.chain }], guard := none }) rfl (fun K hK => ?_) ?_
      · go_simp
        refine (toVrow_made r _).mono ?_
        rintro e wx ⟨rfl, hbx⟩
        try have t2 := t2.below hbx
        try have t3 := t3.below hbx
        try have kB := kept_block kB hbx
        have vv := gr_trans vv hbx
        clear hbx
        go_wp2_with fail
        refine hK.out _ _ (⟨(cells2 (kept_block kA vv)).1, (cells3 (kept_block kR vv)).1⟩) (fun hHeld => ?_)
        clear hK K
        try simp only [Act.put, List.setIfInBounds_toArray, List.set_cons_zero, List.set_cons_succ]
        refine wpAnyH_ready (rs := [4, 8]) (by kernel_rfl) (by simp) ?_
        refine AllReadyH.cons (o := { dst := some 26, op := Op.call { callee := Callee.value (Operand.func 12), args := #[Operand.tmp 23, Operand.tmp 25], argTypes := #[30, 38] }, type := 36, pos := "exact.go:3727", after := #[{ on := 1, ground := Ground.data }, { on := 3, ground := Ground.data }, { on := 3, ground := Ground.chain }], guard := none }) rfl (fun K hK => ?_) ?_
        · go_simp
          refine (specPutRow_made _ _ _ _ _ _ v0 r _ t2.tab (by omega) (by omega)).mono ?_
          rw [HV.out]
          rintro e wx ⟨a3, n3, c3, o3, p3, q3, rfl, t3, hbx⟩
          have t3 := t3.lt (base' := w1.heap.size) vv.size
          try have kB := kept_block kB hbx
          have vv := gr_trans vv hbx
          clear hbx
          go_wp2_with fail
          refine hK.out _ _ (⟨(cells2 (kept_block kA vv)).1, (cells3 (kept_block kR vv)).1⟩) (fun hHeld => ?_)
          clear hK K
          try simp only [Act.put, List.setIfInBounds_toArray, List.set_cons_zero, List.set_cons_succ]
          refine wpAnyH_take (i := 5) (oi := { dst := some 21, op := Op.move (Operand.tmp 26), type := 36, pos := "exact.go:3727", after := #[{ on := 4, ground := Ground.data }], guard := none }) (v := ?_) rfl (by kernel_rfl) (by kernel_rfl) (by kernel_rfl) (fun _ _ _ h => h) (Or.inl ⟨by rfl, ?_⟩) (by assumption) ?_
          rotate_left
          · (intro wY hSw; (try dsimp only at hSw); go_simp; try with_reducible rfl)
          simp only [Act.put, List.setIfInBounds_toArray, List.set_cons_zero, List.set_cons_succ]
          refine wpAnyH_take (i := 6) (oi := { dst := some 27, op := Op.extract (Operand.tmp 21) 0, type := 30, pos := "exact.go:3727", after := #[{ on := 5, ground := Ground.data }], guard := none }) (v := ?_) rfl (by kernel_rfl) (by kernel_rfl) (by kernel_rfl) (fun _ _ _ h => h) (Or.inl ⟨by rfl, ?_⟩) (by assumption) ?_
          rotate_left
          · (intro wY hSw; (try dsimp only at hSw); go_simp; try with_reducible rfl)
          simp only [Act.put, List.setIfInBounds_toArray, List.set_cons_zero, List.set_cons_succ]
          refine wpAnyH_take (i := 7) (oi := { dst := some 28, op := Op.extract (Operand.tmp 21) 1, type := 4, pos := "exact.go:3727", after := #[{ on := 5, ground := Ground.data }, { on := 9, ground := Ground.gcOnly Departure.lateStores }], guard := none }) (v := ?_) rfl (by kernel_rfl) (by kernel_rfl) (by kernel_rfl) (fun _ _ _ h => h) (Or.inl ⟨by rfl, ?_⟩) (by assumption) ?_
          rotate_left
          · (intro wY hSw; (try dsimp only at hSw); go_simp; try with_reducible rfl)
          simp only [Act.put, List.setIfInBounds_toArray, List.set_cons_zero, List.set_cons_succ]
          refine wpAnyH_ready (rs := [8]) (by kernel_rfl) (by simp) ?_
          refine AllReadyH.cons (o := { dst := some 6, op := Op.alloc 30, type := 0, pos := "exact.go:3727", after := #[], guard := none }) rfl (fun K hK => ?_) ?_
          · go_simp
            first
            | refine made_new (K := K _) (fun wx kB hbx => ?_)
            | refine made_drew (K := K _) (fun wx kB hbx => ?_)
            have gB := vv.size
            try have t2 := t2.below hbx
            try have t3 := t3.below hbx
            have vv := gr_trans vv hbx
            clear hbx
            refine hK.out _ _ (⟨(cells2 (kept_block kA vv)).1, (cells3 (kept_block kR vv)).1⟩) (fun hHeld => ?_)
            clear hK K
            try simp only [Act.put, List.setIfInBounds_toArray, List.set_cons_zero, List.set_cons_succ]
            refine wpAnyH_ready (rs := [9]) (by kernel_rfl) (by simp) ?_
            refine AllReadyH.cons (o := { dst := none, op := Op.store 30 (Operand.tmp 6) (Operand.tmp 27), type := 0, pos := "exact.go:3727", after := #[{ on := 8, ground := Ground.data }, { on := 6, ground := Ground.data }, { on := 4, ground := Ground.chain }, { on := 0, ground := Ground.phase }, { on := 1, ground := Ground.phase }, { on := 2, ground := Ground.phase }, { on := 3, ground := Ground.phase }, { on := 4, ground := Ground.phase }, { on := 5, ground := Ground.phase }, { on := 6, ground := Ground.phase }, { on := 7, ground := Ground.textOnly Departure.lateStores }, { on := 8, ground := Ground.phase }], guard := none }) rfl (fun K hK => ?_) ?_
            · obtain ⟨⟨b0, b1⟩, f0, f1⟩ := cells2 kB
              go_simp
              have vv := below_set (below_set vv gB 0 (.slice a3 n3 c3)) gB 1 (.slice o3 p3 q3)
              have t3 := VOwn.setBox t3 kB (.slice a3 n3 c3) (.slice o3 p3 q3)
              have kB := set_box2 kB (.slice a3 n3 c3) (.slice o3 p3 q3)
              clear b0 b1 f0 f1
              refine hK.out _ _ (⟨(cells2 (kept_block kA vv)).1, (cells3 (kept_block kR vv)).1⟩) (fun hHeld => ?_)
              clear hK K
              try simp only [Act.put, List.setIfInBounds_toArray, List.set_cons_zero, List.set_cons_succ]
              refine wpAnyH_take (i := 10) (oi := { dst := some 7, op := Op.assign (Operand.tmp 28), type := 4, pos := "exact.go:3727", after := #[{ on := 7, ground := Ground.data }, { on := 9, ground := Ground.chain }, { on := 0, ground := Ground.phase }, { on := 1, ground := Ground.phase }, { on := 2, ground := Ground.phase }, { on := 3, ground := Ground.phase }, { on := 4, ground := Ground.phase }, { on := 5, ground := Ground.phase }, { on := 6, ground := Ground.phase }, { on := 7, ground := Ground.phase }, { on := 8, ground := Ground.phase }, { on := 9, ground := Ground.phase }], guard := none }) (v := ?_) rfl (by kernel_rfl) (by kernel_rfl) (by kernel_rfl) (fun _ _ _ h => h) (Or.inl ⟨by rfl, ?_⟩) (by assumption) ?_
              rotate_left
              · (intro wY hSw; (try dsimp only at hSw); go_simp; try with_reducible rfl)
              simp only [Act.put, List.setIfInBounds_toArray, List.set_cons_zero, List.set_cons_succ]
              refine wpAnyH_done (by kernel_rfl) ?_ _
              clear hHeld
              go_wp2_with fail
              go_meet
              exact ⟨_, _, _, _, _, _, _, rfl, rfl, gB, kB, t3, vv⟩
            exact AllReadyH.nil
          exact AllReadyH.nil
        refine AllReadyH.cons (o := { dst := some 6, op := Op.alloc 30, type := 0, pos := "exact.go:3727", after := #[], guard := none }) rfl (fun K hK => ?_) ?_
        · go_simp
          first
          | refine made_new (K := K _) (fun wx kB hbx => ?_)
          | refine made_drew (K := K _) (fun wx kB hbx => ?_)
          have gB := vv.size
          try have t2 := t2.below hbx
          try have t3 := t3.below hbx
          have vv := gr_trans vv hbx
          clear hbx
          refine hK.out _ _ (⟨(cells2 (kept_block kA vv)).1, (cells3 (kept_block kR vv)).1⟩) (fun hHeld => ?_)
          clear hK K
          try simp only [Act.put, List.setIfInBounds_toArray, List.set_cons_zero, List.set_cons_succ]
          refine wpAnyH_ready (rs := [4]) (by kernel_rfl) (by simp) ?_
          refine AllReadyH.cons (o := { dst := some 26, op := Op.call { callee := Callee.value (Operand.func 12), args := #[Operand.tmp 23, Operand.tmp 25], argTypes := #[30, 38] }, type := 36, pos := "exact.go:3727", after := #[{ on := 1, ground := Ground.data }, { on := 3, ground := Ground.data }, { on := 3, ground := Ground.chain }], guard := none }) rfl (fun K hK => ?_) ?_
          · go_simp
            refine (specPutRow_made _ _ _ _ _ _ v0 r _ t2.tab (by omega) (by omega)).mono ?_
            rw [HV.out]
            rintro e wx ⟨a3, n3, c3, o3, p3, q3, rfl, t3, hbx⟩
            have t3 := t3.lt (base' := w1.heap.size) vv.size
            try have kB := kept_block kB hbx
            have vv := gr_trans vv hbx
            clear hbx
            go_wp2_with fail
            refine hK.out _ _ (⟨(cells2 (kept_block kA vv)).1, (cells3 (kept_block kR vv)).1⟩) (fun hHeld => ?_)
            clear hK K
            try simp only [Act.put, List.setIfInBounds_toArray, List.set_cons_zero, List.set_cons_succ]
            refine wpAnyH_take (i := 5) (oi := { dst := some 21, op := Op.move (Operand.tmp 26), type := 36, pos := "exact.go:3727", after := #[{ on := 4, ground := Ground.data }], guard := none }) (v := ?_) rfl (by kernel_rfl) (by kernel_rfl) (by kernel_rfl) (fun _ _ _ h => h) (Or.inl ⟨by rfl, ?_⟩) (by assumption) ?_
            rotate_left
            · (intro wY hSw; (try dsimp only at hSw); go_simp; try with_reducible rfl)
            simp only [Act.put, List.setIfInBounds_toArray, List.set_cons_zero, List.set_cons_succ]
            refine wpAnyH_take (i := 6) (oi := { dst := some 27, op := Op.extract (Operand.tmp 21) 0, type := 30, pos := "exact.go:3727", after := #[{ on := 5, ground := Ground.data }], guard := none }) (v := ?_) rfl (by kernel_rfl) (by kernel_rfl) (by kernel_rfl) (fun _ _ _ h => h) (Or.inl ⟨by rfl, ?_⟩) (by assumption) ?_
            rotate_left
            · (intro wY hSw; (try dsimp only at hSw); go_simp; try with_reducible rfl)
            simp only [Act.put, List.setIfInBounds_toArray, List.set_cons_zero, List.set_cons_succ]
            refine wpAnyH_take (i := 7) (oi := { dst := some 28, op := Op.extract (Operand.tmp 21) 1, type := 4, pos := "exact.go:3727", after := #[{ on := 5, ground := Ground.data }, { on := 9, ground := Ground.gcOnly Departure.lateStores }], guard := none }) (v := ?_) rfl (by kernel_rfl) (by kernel_rfl) (by kernel_rfl) (fun _ _ _ h => h) (Or.inl ⟨by rfl, ?_⟩) (by assumption) ?_
            rotate_left
            · (intro wY hSw; (try dsimp only at hSw); go_simp; try with_reducible rfl)
            simp only [Act.put, List.setIfInBounds_toArray, List.set_cons_zero, List.set_cons_succ]
            refine wpAnyH_ready (rs := [9]) (by kernel_rfl) (by simp) ?_
            refine AllReadyH.cons (o := { dst := none, op := Op.store 30 (Operand.tmp 6) (Operand.tmp 27), type := 0, pos := "exact.go:3727", after := #[{ on := 8, ground := Ground.data }, { on := 6, ground := Ground.data }, { on := 4, ground := Ground.chain }, { on := 0, ground := Ground.phase }, { on := 1, ground := Ground.phase }, { on := 2, ground := Ground.phase }, { on := 3, ground := Ground.phase }, { on := 4, ground := Ground.phase }, { on := 5, ground := Ground.phase }, { on := 6, ground := Ground.phase }, { on := 7, ground := Ground.textOnly Departure.lateStores }, { on := 8, ground := Ground.phase }], guard := none }) rfl (fun K hK => ?_) ?_
            · obtain ⟨⟨b0, b1⟩, f0, f1⟩ := cells2 kB
              go_simp
              have vv := below_set (below_set vv gB 0 (.slice a3 n3 c3)) gB 1 (.slice o3 p3 q3)
              have t3 := VOwn.setBox t3 kB (.slice a3 n3 c3) (.slice o3 p3 q3)
              have kB := set_box2 kB (.slice a3 n3 c3) (.slice o3 p3 q3)
              clear b0 b1 f0 f1
              refine hK.out _ _ (⟨(cells2 (kept_block kA vv)).1, (cells3 (kept_block kR vv)).1⟩) (fun hHeld => ?_)
              clear hK K
              try simp only [Act.put, List.setIfInBounds_toArray, List.set_cons_zero, List.set_cons_succ]
              refine wpAnyH_take (i := 10) (oi := { dst := some 7, op := Op.assign (Operand.tmp 28), type := 4, pos := "exact.go:3727", after := #[{ on := 7, ground := Ground.data }, { on := 9, ground := Ground.chain }, { on := 0, ground := Ground.phase }, { on := 1, ground := Ground.phase }, { on := 2, ground := Ground.phase }, { on := 3, ground := Ground.phase }, { on := 4, ground := Ground.phase }, { on := 5, ground := Ground.phase }, { on := 6, ground := Ground.phase }, { on := 7, ground := Ground.phase }, { on := 8, ground := Ground.phase }, { on := 9, ground := Ground.phase }], guard := none }) (v := ?_) rfl (by kernel_rfl) (by kernel_rfl) (by kernel_rfl) (fun _ _ _ h => h) (Or.inl ⟨by rfl, ?_⟩) (by assumption) ?_
              rotate_left
              · (intro wY hSw; (try dsimp only at hSw); go_simp; try with_reducible rfl)
              simp only [Act.put, List.setIfInBounds_toArray, List.set_cons_zero, List.set_cons_succ]
              refine wpAnyH_done (by kernel_rfl) ?_ _
              clear hHeld
              go_wp2_with fail
              go_meet
              exact ⟨_, _, _, _, _, _, _, rfl, rfl, gB, kB, t3, vv⟩
            exact AllReadyH.nil
          exact AllReadyH.nil
        exact AllReadyH.nil
      refine AllReadyH.cons (o := { dst := some 6, op := Op.alloc 30, type := 0, pos := "exact.go:3727", after := #[], guard := none }) rfl (fun K hK => ?_) ?_
      · go_simp
        first
        | refine made_new (K := K _) (fun wx kB hbx => ?_)
        | refine made_drew (K := K _) (fun wx kB hbx => ?_)
        have gB := vv.size
        try have t2 := t2.below hbx
        try have t3 := t3.below hbx
        have vv := gr_trans vv hbx
        clear hbx
        refine hK.out _ _ (⟨(cells2 (kept_block kA vv)).1, (cells3 (kept_block kR vv)).1⟩) (fun hHeld => ?_)
        clear hK K
        try simp only [Act.put, List.setIfInBounds_toArray, List.set_cons_zero, List.set_cons_succ]
        refine wpAnyH_ready (rs := [3]) (by kernel_rfl) (by simp) ?_
        refine AllReadyH.cons (o := { dst := some 25, op := Op.call { callee := Callee.value (Operand.func 13), args := #[Operand.tmp 24], argTypes := #[35] }, type := 38, pos := "exact.go:3727", after := #[{ on := 2, ground := Ground.data }, { on := 1, ground := Ground.chain }], guard := none }) rfl (fun K hK => ?_) ?_
        · go_simp
          refine (toVrow_made r _).mono ?_
          rintro e wx ⟨rfl, hbx⟩
          try have t2 := t2.below hbx
          try have t3 := t3.below hbx
          try have kB := kept_block kB hbx
          have vv := gr_trans vv hbx
          clear hbx
          go_wp2_with fail
          refine hK.out _ _ (⟨(cells2 (kept_block kA vv)).1, (cells3 (kept_block kR vv)).1⟩) (fun hHeld => ?_)
          clear hK K
          try simp only [Act.put, List.setIfInBounds_toArray, List.set_cons_zero, List.set_cons_succ]
          refine wpAnyH_ready (rs := [4]) (by kernel_rfl) (by simp) ?_
          refine AllReadyH.cons (o := { dst := some 26, op := Op.call { callee := Callee.value (Operand.func 12), args := #[Operand.tmp 23, Operand.tmp 25], argTypes := #[30, 38] }, type := 36, pos := "exact.go:3727", after := #[{ on := 1, ground := Ground.data }, { on := 3, ground := Ground.data }, { on := 3, ground := Ground.chain }], guard := none }) rfl (fun K hK => ?_) ?_
          · go_simp
            refine (specPutRow_made _ _ _ _ _ _ v0 r _ t2.tab (by omega) (by omega)).mono ?_
            rw [HV.out]
            rintro e wx ⟨a3, n3, c3, o3, p3, q3, rfl, t3, hbx⟩
            have t3 := t3.lt (base' := w1.heap.size) vv.size
            try have kB := kept_block kB hbx
            have vv := gr_trans vv hbx
            clear hbx
            go_wp2_with fail
            refine hK.out _ _ (⟨(cells2 (kept_block kA vv)).1, (cells3 (kept_block kR vv)).1⟩) (fun hHeld => ?_)
            clear hK K
            try simp only [Act.put, List.setIfInBounds_toArray, List.set_cons_zero, List.set_cons_succ]
            refine wpAnyH_take (i := 5) (oi := { dst := some 21, op := Op.move (Operand.tmp 26), type := 36, pos := "exact.go:3727", after := #[{ on := 4, ground := Ground.data }], guard := none }) (v := ?_) rfl (by kernel_rfl) (by kernel_rfl) (by kernel_rfl) (fun _ _ _ h => h) (Or.inl ⟨by rfl, ?_⟩) (by assumption) ?_
            rotate_left
            · (intro wY hSw; (try dsimp only at hSw); go_simp; try with_reducible rfl)
            simp only [Act.put, List.setIfInBounds_toArray, List.set_cons_zero, List.set_cons_succ]
            refine wpAnyH_take (i := 6) (oi := { dst := some 27, op := Op.extract (Operand.tmp 21) 0, type := 30, pos := "exact.go:3727", after := #[{ on := 5, ground := Ground.data }], guard := none }) (v := ?_) rfl (by kernel_rfl) (by kernel_rfl) (by kernel_rfl) (fun _ _ _ h => h) (Or.inl ⟨by rfl, ?_⟩) (by assumption) ?_
            rotate_left
            · (intro wY hSw; (try dsimp only at hSw); go_simp; try with_reducible rfl)
            simp only [Act.put, List.setIfInBounds_toArray, List.set_cons_zero, List.set_cons_succ]
            refine wpAnyH_take (i := 7) (oi := { dst := some 28, op := Op.extract (Operand.tmp 21) 1, type := 4, pos := "exact.go:3727", after := #[{ on := 5, ground := Ground.data }, { on := 9, ground := Ground.gcOnly Departure.lateStores }], guard := none }) (v := ?_) rfl (by kernel_rfl) (by kernel_rfl) (by kernel_rfl) (fun _ _ _ h => h) (Or.inl ⟨by rfl, ?_⟩) (by assumption) ?_
            rotate_left
            · (intro wY hSw; (try dsimp only at hSw); go_simp; try with_reducible rfl)
            simp only [Act.put, List.setIfInBounds_toArray, List.set_cons_zero, List.set_cons_succ]
            refine wpAnyH_ready (rs := [9]) (by kernel_rfl) (by simp) ?_
            refine AllReadyH.cons (o := { dst := none, op := Op.store 30 (Operand.tmp 6) (Operand.tmp 27), type := 0, pos := "exact.go:3727", after := #[{ on := 8, ground := Ground.data }, { on := 6, ground := Ground.data }, { on := 4, ground := Ground.chain }, { on := 0, ground := Ground.phase }, { on := 1, ground := Ground.phase }, { on := 2, ground := Ground.phase }, { on := 3, ground := Ground.phase }, { on := 4, ground := Ground.phase }, { on := 5, ground := Ground.phase }, { on := 6, ground := Ground.phase }, { on := 7, ground := Ground.textOnly Departure.lateStores }, { on := 8, ground := Ground.phase }], guard := none }) rfl (fun K hK => ?_) ?_
            · obtain ⟨⟨b0, b1⟩, f0, f1⟩ := cells2 kB
              go_simp
              have vv := below_set (below_set vv gB 0 (.slice a3 n3 c3)) gB 1 (.slice o3 p3 q3)
              have t3 := VOwn.setBox t3 kB (.slice a3 n3 c3) (.slice o3 p3 q3)
              have kB := set_box2 kB (.slice a3 n3 c3) (.slice o3 p3 q3)
              clear b0 b1 f0 f1
              refine hK.out _ _ (⟨(cells2 (kept_block kA vv)).1, (cells3 (kept_block kR vv)).1⟩) (fun hHeld => ?_)
              clear hK K
              try simp only [Act.put, List.setIfInBounds_toArray, List.set_cons_zero, List.set_cons_succ]
              refine wpAnyH_take (i := 10) (oi := { dst := some 7, op := Op.assign (Operand.tmp 28), type := 4, pos := "exact.go:3727", after := #[{ on := 7, ground := Ground.data }, { on := 9, ground := Ground.chain }, { on := 0, ground := Ground.phase }, { on := 1, ground := Ground.phase }, { on := 2, ground := Ground.phase }, { on := 3, ground := Ground.phase }, { on := 4, ground := Ground.phase }, { on := 5, ground := Ground.phase }, { on := 6, ground := Ground.phase }, { on := 7, ground := Ground.phase }, { on := 8, ground := Ground.phase }, { on := 9, ground := Ground.phase }], guard := none }) (v := ?_) rfl (by kernel_rfl) (by kernel_rfl) (by kernel_rfl) (fun _ _ _ h => h) (Or.inl ⟨by rfl, ?_⟩) (by assumption) ?_
              rotate_left
              · (intro wY hSw; (try dsimp only at hSw); go_simp; try with_reducible rfl)
              simp only [Act.put, List.setIfInBounds_toArray, List.set_cons_zero, List.set_cons_succ]
              refine wpAnyH_done (by kernel_rfl) ?_ _
              clear hHeld
              go_wp2_with fail
              go_meet
              exact ⟨_, _, _, _, _, _, _, rfl, rfl, gB, kB, t3, vv⟩
            exact AllReadyH.nil
          exact AllReadyH.nil
        exact AllReadyH.nil
      exact AllReadyH.nil
    refine AllReadyH.cons (o := { dst := some 6, op := Op.alloc 30, type := 0, pos := "exact.go:3727", after := #[], guard := none }) rfl (fun K hK => ?_) ?_
    · go_simp
      first
      | refine made_new (K := K _) (fun wx kB hbx => ?_)
      | refine made_drew (K := K _) (fun wx kB hbx => ?_)
      have gB := vv.size
      try have t2 := t2.below hbx
      try have t3 := t3.below hbx
      have vv := gr_trans vv hbx
      clear hbx
      refine hK.out _ _ (⟨(cells2 (kept_block kA vv)).1, (cells3 (kept_block kR vv)).1⟩) (fun hHeld => ?_)
      clear hK K
      try simp only [Act.put, List.setIfInBounds_toArray, List.set_cons_zero, List.set_cons_succ]
      refine wpAnyH_ready (rs := [1]) (by kernel_rfl) (by simp) ?_
      refine AllReadyH.cons (o := { dst := some 23, op := Op.call { callee := Callee.value (Operand.func 9), args := #[Operand.tmp 22], argTypes := #[25] }, type := 30, pos := "exact.go:3727", after := #[{ on := 0, ground := Ground.data }], guard := none }) rfl (fun K hK => ?_) ?_
      · go_simp
        refine (toVtab_made a0 n0 c0 o0 p0 q0 v0 _ (h0.below (gr_trans uB vv)) gn gp).mono ?_
        rintro e wx ⟨a2, c2, o2, q2, rfl, t2, hbx⟩
        try have t3 := t3.below hbx
        try have kB := kept_block kB hbx
        have vv := gr_trans vv hbx
        clear hbx
        go_wp2_with fail
        refine hK.out _ _ (⟨(cells2 (kept_block kA vv)).1, (cells3 (kept_block kR vv)).1⟩) (fun hHeld => ?_)
        clear hK K
        try simp only [Act.put, List.setIfInBounds_toArray, List.set_cons_zero, List.set_cons_succ]
        refine wpAnyH_ready (rs := [3]) (by kernel_rfl) (by simp) ?_
        refine AllReadyH.cons (o := { dst := some 25, op := Op.call { callee := Callee.value (Operand.func 13), args := #[Operand.tmp 24], argTypes := #[35] }, type := 38, pos := "exact.go:3727", after := #[{ on := 2, ground := Ground.data }, { on := 1, ground := Ground.chain }], guard := none }) rfl (fun K hK => ?_) ?_
        · go_simp
          refine (toVrow_made r _).mono ?_
          rintro e wx ⟨rfl, hbx⟩
          try have t2 := t2.below hbx
          try have t3 := t3.below hbx
          try have kB := kept_block kB hbx
          have vv := gr_trans vv hbx
          clear hbx
          go_wp2_with fail
          refine hK.out _ _ (⟨(cells2 (kept_block kA vv)).1, (cells3 (kept_block kR vv)).1⟩) (fun hHeld => ?_)
          clear hK K
          try simp only [Act.put, List.setIfInBounds_toArray, List.set_cons_zero, List.set_cons_succ]
          refine wpAnyH_ready (rs := [4]) (by kernel_rfl) (by simp) ?_
          refine AllReadyH.cons (o := { dst := some 26, op := Op.call { callee := Callee.value (Operand.func 12), args := #[Operand.tmp 23, Operand.tmp 25], argTypes := #[30, 38] }, type := 36, pos := "exact.go:3727", after := #[{ on := 1, ground := Ground.data }, { on := 3, ground := Ground.data }, { on := 3, ground := Ground.chain }], guard := none }) rfl (fun K hK => ?_) ?_
          · go_simp
            refine (specPutRow_made _ _ _ _ _ _ v0 r _ t2.tab (by omega) (by omega)).mono ?_
            rw [HV.out]
            rintro e wx ⟨a3, n3, c3, o3, p3, q3, rfl, t3, hbx⟩
            have t3 := t3.lt (base' := w1.heap.size) vv.size
            try have kB := kept_block kB hbx
            have vv := gr_trans vv hbx
            clear hbx
            go_wp2_with fail
            refine hK.out _ _ (⟨(cells2 (kept_block kA vv)).1, (cells3 (kept_block kR vv)).1⟩) (fun hHeld => ?_)
            clear hK K
            try simp only [Act.put, List.setIfInBounds_toArray, List.set_cons_zero, List.set_cons_succ]
            refine wpAnyH_take (i := 5) (oi := { dst := some 21, op := Op.move (Operand.tmp 26), type := 36, pos := "exact.go:3727", after := #[{ on := 4, ground := Ground.data }], guard := none }) (v := ?_) rfl (by kernel_rfl) (by kernel_rfl) (by kernel_rfl) (fun _ _ _ h => h) (Or.inl ⟨by rfl, ?_⟩) (by assumption) ?_
            rotate_left
            · (intro wY hSw; (try dsimp only at hSw); go_simp; try with_reducible rfl)
            simp only [Act.put, List.setIfInBounds_toArray, List.set_cons_zero, List.set_cons_succ]
            refine wpAnyH_take (i := 6) (oi := { dst := some 27, op := Op.extract (Operand.tmp 21) 0, type := 30, pos := "exact.go:3727", after := #[{ on := 5, ground := Ground.data }], guard := none }) (v := ?_) rfl (by kernel_rfl) (by kernel_rfl) (by kernel_rfl) (fun _ _ _ h => h) (Or.inl ⟨by rfl, ?_⟩) (by assumption) ?_
            rotate_left
            · (intro wY hSw; (try dsimp only at hSw); go_simp; try with_reducible rfl)
            simp only [Act.put, List.setIfInBounds_toArray, List.set_cons_zero, List.set_cons_succ]
            refine wpAnyH_take (i := 7) (oi := { dst := some 28, op := Op.extract (Operand.tmp 21) 1, type := 4, pos := "exact.go:3727", after := #[{ on := 5, ground := Ground.data }, { on := 9, ground := Ground.gcOnly Departure.lateStores }], guard := none }) (v := ?_) rfl (by kernel_rfl) (by kernel_rfl) (by kernel_rfl) (fun _ _ _ h => h) (Or.inl ⟨by rfl, ?_⟩) (by assumption) ?_
            rotate_left
            · (intro wY hSw; (try dsimp only at hSw); go_simp; try with_reducible rfl)
            simp only [Act.put, List.setIfInBounds_toArray, List.set_cons_zero, List.set_cons_succ]
            refine wpAnyH_ready (rs := [9]) (by kernel_rfl) (by simp) ?_
            refine AllReadyH.cons (o := { dst := none, op := Op.store 30 (Operand.tmp 6) (Operand.tmp 27), type := 0, pos := "exact.go:3727", after := #[{ on := 8, ground := Ground.data }, { on := 6, ground := Ground.data }, { on := 4, ground := Ground.chain }, { on := 0, ground := Ground.phase }, { on := 1, ground := Ground.phase }, { on := 2, ground := Ground.phase }, { on := 3, ground := Ground.phase }, { on := 4, ground := Ground.phase }, { on := 5, ground := Ground.phase }, { on := 6, ground := Ground.phase }, { on := 7, ground := Ground.textOnly Departure.lateStores }, { on := 8, ground := Ground.phase }], guard := none }) rfl (fun K hK => ?_) ?_
            · obtain ⟨⟨b0, b1⟩, f0, f1⟩ := cells2 kB
              go_simp
              have vv := below_set (below_set vv gB 0 (.slice a3 n3 c3)) gB 1 (.slice o3 p3 q3)
              have t3 := VOwn.setBox t3 kB (.slice a3 n3 c3) (.slice o3 p3 q3)
              have kB := set_box2 kB (.slice a3 n3 c3) (.slice o3 p3 q3)
              clear b0 b1 f0 f1
              refine hK.out _ _ (⟨(cells2 (kept_block kA vv)).1, (cells3 (kept_block kR vv)).1⟩) (fun hHeld => ?_)
              clear hK K
              try simp only [Act.put, List.setIfInBounds_toArray, List.set_cons_zero, List.set_cons_succ]
              refine wpAnyH_take (i := 10) (oi := { dst := some 7, op := Op.assign (Operand.tmp 28), type := 4, pos := "exact.go:3727", after := #[{ on := 7, ground := Ground.data }, { on := 9, ground := Ground.chain }, { on := 0, ground := Ground.phase }, { on := 1, ground := Ground.phase }, { on := 2, ground := Ground.phase }, { on := 3, ground := Ground.phase }, { on := 4, ground := Ground.phase }, { on := 5, ground := Ground.phase }, { on := 6, ground := Ground.phase }, { on := 7, ground := Ground.phase }, { on := 8, ground := Ground.phase }, { on := 9, ground := Ground.phase }], guard := none }) (v := ?_) rfl (by kernel_rfl) (by kernel_rfl) (by kernel_rfl) (fun _ _ _ h => h) (Or.inl ⟨by rfl, ?_⟩) (by assumption) ?_
              rotate_left
              · (intro wY hSw; (try dsimp only at hSw); go_simp; try with_reducible rfl)
              simp only [Act.put, List.setIfInBounds_toArray, List.set_cons_zero, List.set_cons_succ]
              refine wpAnyH_done (by kernel_rfl) ?_ _
              clear hHeld
              go_wp2_with fail
              go_meet
              exact ⟨_, _, _, _, _, _, _, rfl, rfl, gB, kB, t3, vv⟩
            exact AllReadyH.nil
          exact AllReadyH.nil
        exact AllReadyH.nil
      exact AllReadyH.nil
    exact AllReadyH.nil
  case rest =>
    obtain ⟨gS, a3, n3, c3, o3, p3, q3, rfl, rfl, -, kS, tS, hb⟩ := hcut
    obtain ⟨wS, hwS⟩ : ∃ x, x = wc := ⟨_, rfl⟩
    subst hwS
    have kA := kept_block kA hb
    have kR := kept_block kR hb
    have uS := gr_trans uB hb
    have pS : Below wS.heap.size wS wS := Below.refl _ _
    clear hb uB
    obtain ⟨⟨x0, x1⟩, -⟩ := cells2 kA
    go_wp2_with fail
    refine (toVtab_made a0 n0 c0 o0 p0 q0 v0 _ (h0.below uS) gn gp).mono ?_
    rintro e w4 ⟨a4, c4, o4, q4, rfl, t4, hb4⟩
    have EX : Hid ((∀ k, (Value.slice a4 n0 c4).ownBlock = some k → k < w4.heap.size) ∧ (∀ k, (Value.slice o4 p0 q4).ownBlock = some k → k < w4.heap.size)) := hide ⟨fun k hk => (t4.rows.lt k hk).2, fun k hk => (t4.own.lt k hk).2⟩
    have HAX := hide t4.some
    generalize hwX : w4.alloc (Obj.cells #[Value.slice a4 n0 c4, Value.slice o4 p0 q4] 30) = wX
    have b4X : Below w4.heap.size w4 wX := by subst hwX; exact below_one _ _
    have kX : wX.heap[w4.heap.size]? = some (.cells #[.slice a4 n0 c4, .slice o4 p0 q4] 30) := by rw [← hwX]; exact block_last _ _
    have tX := t4.below b4X
    have pS : Below wS.heap.size wS wX := gr_trans hb4 b4X
    have SG : Hid (wS.heap.size ≤ wX.heap.size) := hide pS.size
    have GX : Hid (w4.heap.size ≤ wX.heap.size) := hide b4X.size
    clear x0 x1 t4
    obtain ⟨⟨y0, y1⟩, y2, y3⟩ := cells2 kX
    go_upto_region 7 with fail
    clear y0 y1 y2 y3
    go_cut [9, 10] from 16 to 103 (fun s9 s10 wx => ∃ (g : Nat) (a3 : Option Addr) (n3 c3 : Nat) (o3 : Option Addr) (p3 q3 : Nat), s9 = .pointer (some ⟨g, 0, none⟩) ∧ s10 = .bool V.2 ∧ wX.heap.size ≤ g ∧ wx.heap[g]? = some (.cells #[.slice a3 n3 c3, .slice o3 p3 q3] 30) ∧ VOwn wx wX.heap.size a3 n3 c3 o3 p3 q3 V.1 ∧ Below wX.heap.size wX wx)
    case first =>
      have vv : Below wX.heap.size wX wX.drew := gr_drew (Below.refl _ _)
      go_wp2_with fail
      refine wp_region_held_drew (S := (fun W => (W.cell? ⟨w4.heap.size, 0, none⟩ = some (.slice a4 n0 c4) ∧ W.cell? ⟨w4.heap.size, 1, none⟩ = some (.slice o4 p0 q4)) ∧ (W.cell? ⟨wA.heap.size, 0, none⟩ = some (.int .i64 r.i) ∧ W.cell? ⟨wA.heap.size, 1, none⟩ = some (.int .i64 r.m) ∧ W.cell? ⟨wA.heap.size, 2, none⟩ = some (.int .i64 r.b)))) (by kernel_rfl) (⟨(cells2 (kept_block kX vv)).1, (cells3 (kept_block kR (gr_trans pS vv))).1⟩) (fun hHeld => ?_)
      refine wpAnyH_take (i := 0) (oi := { dst := some 32, op := Op.load 30 (Operand.tmp 8), type := 30, pos := "exact.go:3729", after := #[], guard := none }) (v := ?_) rfl (by kernel_rfl) (by kernel_rfl) (by kernel_rfl) (fun _ _ _ h => h) (Or.inl ⟨by rfl, ?_⟩) (by assumption) ?_
      rotate_left
      · (intro wY hSw; (try dsimp only at hSw); go_simp; try with_reducible rfl)
      simp only [Act.put, List.setIfInBounds_toArray, List.set_cons_zero, List.set_cons_succ]
      refine wpAnyH_take (i := 1) (oi := { dst := some 33, op := Op.load 35 (Operand.tmp 3), type := 35, pos := "exact.go:3729", after := #[], guard := none }) (v := ?_) rfl (by kernel_rfl) (by kernel_rfl) (by kernel_rfl) (fun _ _ _ h => h) (Or.inl ⟨by rfl, ?_⟩) (by assumption) ?_
      rotate_left
      · (intro wY hSw; (try dsimp only at hSw); go_simp; try with_reducible rfl)
      simp only [Act.put, List.setIfInBounds_toArray, List.set_cons_zero, List.set_cons_succ]
      refine wpAnyH_ready (rs := [2, 7]) (by kernel_rfl) (by simp) ?_
      refine AllReadyH.cons (o := { dst := some 34, op := Op.call { callee := Callee.value (Operand.func 13), args := #[Operand.tmp 33], argTypes := #[35] }, type := 38, pos := "exact.go:3729", after := #[{ on := 1, ground := Ground.data }], guard := none }) rfl (fun K hK => ?_) ?_
      · go_simp
        refine (toVrow_made r _).mono ?_
        rintro e wx ⟨rfl, hbx⟩
        try have t2 := t2.below hbx
        try have t3 := t3.below hbx
        try have kB := kept_block kB hbx
        have vv := gr_trans vv hbx
        clear hbx
        go_wp2_with fail
        refine hK.out _ _ (⟨(cells2 (kept_block kX vv)).1, (cells3 (kept_block kR (gr_trans pS vv))).1⟩) (fun hHeld => ?_)
        clear hK K
        try simp only [Act.put, List.setIfInBounds_toArray, List.set_cons_zero, List.set_cons_succ]
        refine wpAnyH_ready (rs := [3, 7]) (by kernel_rfl) (by simp) ?_
        refine AllReadyH.cons (o := { dst := some 35, op := Op.call { callee := Callee.value (Operand.func 14), args := #[Operand.tmp 32, Operand.tmp 34], argTypes := #[30, 38] }, type := 36, pos := "exact.go:3729", after := #[{ on := 0, ground := Ground.data }, { on := 2, ground := Ground.data }, { on := 2, ground := Ground.chain }], guard := none }) rfl (fun K hK => ?_) ?_
        · go_simp
          refine (implPutRow_made _ _ _ _ _ _ v0 r _ (tX.below vv).tab HAX.out (by omega) (by omega) g0 gr).mono ?_
          rw [HV.out]
          rintro e wx ⟨a3, n3, c3, o3, p3, q3, rfl, t3, hbx⟩
          have t3 := t3.lt (base' := wX.heap.size) vv.size
          try have kB := kept_block kB hbx
          have vv := gr_trans vv hbx
          clear hbx
          go_wp2_with fail
          refine hK.out _ _ (⟨(cells2 (kept_block kX vv)).1, (cells3 (kept_block kR (gr_trans pS vv))).1⟩) (fun hHeld => ?_)
          clear hK K
          try simp only [Act.put, List.setIfInBounds_toArray, List.set_cons_zero, List.set_cons_succ]
          refine wpAnyH_take (i := 4) (oi := { dst := some 31, op := Op.move (Operand.tmp 35), type := 36, pos := "exact.go:3729", after := #[{ on := 3, ground := Ground.data }], guard := none }) (v := ?_) rfl (by kernel_rfl) (by kernel_rfl) (by kernel_rfl) (fun _ _ _ h => h) (Or.inl ⟨by rfl, ?_⟩) (by assumption) ?_
          rotate_left
          · (intro wY hSw; (try dsimp only at hSw); go_simp; try with_reducible rfl)
          simp only [Act.put, List.setIfInBounds_toArray, List.set_cons_zero, List.set_cons_succ]
          refine wpAnyH_take (i := 5) (oi := { dst := some 36, op := Op.extract (Operand.tmp 31) 0, type := 30, pos := "exact.go:3729", after := #[{ on := 4, ground := Ground.data }], guard := none }) (v := ?_) rfl (by kernel_rfl) (by kernel_rfl) (by kernel_rfl) (fun _ _ _ h => h) (Or.inl ⟨by rfl, ?_⟩) (by assumption) ?_
          rotate_left
          · (intro wY hSw; (try dsimp only at hSw); go_simp; try with_reducible rfl)
          simp only [Act.put, List.setIfInBounds_toArray, List.set_cons_zero, List.set_cons_succ]
          refine wpAnyH_take (i := 6) (oi := { dst := some 37, op := Op.extract (Operand.tmp 31) 1, type := 4, pos := "exact.go:3729", after := #[{ on := 4, ground := Ground.data }, { on := 8, ground := Ground.gcOnly Departure.lateStores }], guard := none }) (v := ?_) rfl (by kernel_rfl) (by kernel_rfl) (by kernel_rfl) (fun _ _ _ h => h) (Or.inl ⟨by rfl, ?_⟩) (by assumption) ?_
          rotate_left
          · (intro wY hSw; (try dsimp only at hSw); go_simp; try with_reducible rfl)
          simp only [Act.put, List.setIfInBounds_toArray, List.set_cons_zero, List.set_cons_succ]
          refine wpAnyH_ready (rs := [7]) (by kernel_rfl) (by simp) ?_
          refine AllReadyH.cons (o := { dst := some 9, op := Op.alloc 30, type := 0, pos := "exact.go:3729", after := #[], guard := none }) rfl (fun K hK => ?_) ?_
          · go_simp
            first
            | refine made_new (K := K _) (fun wx kB hbx => ?_)
            | refine made_drew (K := K _) (fun wx kB hbx => ?_)
            have gB := vv.size
            try have t2 := t2.below hbx
            try have t3 := t3.below hbx
            have vv := gr_trans vv hbx
            clear hbx
            refine hK.out _ _ (⟨(cells2 (kept_block kX vv)).1, (cells3 (kept_block kR (gr_trans pS vv))).1⟩) (fun hHeld => ?_)
            clear hK K
            try simp only [Act.put, List.setIfInBounds_toArray, List.set_cons_zero, List.set_cons_succ]
            refine wpAnyH_ready (rs := [8]) (by kernel_rfl) (by simp) ?_
            refine AllReadyH.cons (o := { dst := none, op := Op.store 30 (Operand.tmp 9) (Operand.tmp 36), type := 0, pos := "exact.go:3729", after := #[{ on := 7, ground := Ground.data }, { on := 5, ground := Ground.data }, { on := 3, ground := Ground.chain }, { on := 0, ground := Ground.phase }, { on := 1, ground := Ground.phase }, { on := 2, ground := Ground.phase }, { on := 3, ground := Ground.phase }, { on := 4, ground := Ground.phase }, { on := 5, ground := Ground.phase }, { on := 6, ground := Ground.textOnly Departure.lateStores }, { on := 7, ground := Ground.phase }], guard := none }) rfl (fun K hK => ?_) ?_
            · obtain ⟨⟨b0, b1⟩, f0, f1⟩ := cells2 kB
              go_simp
              have vv := below_set (below_set vv gB 0 (.slice a3 n3 c3)) gB 1 (.slice o3 p3 q3)
              have t3 := VOwn.setBox t3 kB (.slice a3 n3 c3) (.slice o3 p3 q3)
              have kB := set_box2 kB (.slice a3 n3 c3) (.slice o3 p3 q3)
              clear b0 b1 f0 f1
              refine hK.out _ _ (⟨(cells2 (kept_block kX vv)).1, (cells3 (kept_block kR (gr_trans pS vv))).1⟩) (fun hHeld => ?_)
              clear hK K
              try simp only [Act.put, List.setIfInBounds_toArray, List.set_cons_zero, List.set_cons_succ]
              refine wpAnyH_take (i := 9) (oi := { dst := some 10, op := Op.assign (Operand.tmp 37), type := 4, pos := "exact.go:3729", after := #[{ on := 6, ground := Ground.data }, { on := 8, ground := Ground.chain }, { on := 0, ground := Ground.phase }, { on := 1, ground := Ground.phase }, { on := 2, ground := Ground.phase }, { on := 3, ground := Ground.phase }, { on := 4, ground := Ground.phase }, { on := 5, ground := Ground.phase }, { on := 6, ground := Ground.phase }, { on := 7, ground := Ground.phase }, { on := 8, ground := Ground.phase }], guard := none }) (v := ?_) rfl (by kernel_rfl) (by kernel_rfl) (by kernel_rfl) (fun _ _ _ h => h) (Or.inl ⟨by rfl, ?_⟩) (by assumption) ?_
              rotate_left
              · (intro wY hSw; (try dsimp only at hSw); go_simp; try with_reducible rfl)
              simp only [Act.put, List.setIfInBounds_toArray, List.set_cons_zero, List.set_cons_succ]
              refine wpAnyH_done (by kernel_rfl) ?_ _
              clear hHeld
              go_wp2_with fail
              go_meet
              exact ⟨_, _, _, _, _, _, _, rfl, rfl, gB, kB, t3, vv⟩
            exact AllReadyH.nil
          exact AllReadyH.nil
        refine AllReadyH.cons (o := { dst := some 9, op := Op.alloc 30, type := 0, pos := "exact.go:3729", after := #[], guard := none }) rfl (fun K hK => ?_) ?_
        · go_simp
          first
          | refine made_new (K := K _) (fun wx kB hbx => ?_)
          | refine made_drew (K := K _) (fun wx kB hbx => ?_)
          have gB := vv.size
          try have t2 := t2.below hbx
          try have t3 := t3.below hbx
          have vv := gr_trans vv hbx
          clear hbx
          refine hK.out _ _ (⟨(cells2 (kept_block kX vv)).1, (cells3 (kept_block kR (gr_trans pS vv))).1⟩) (fun hHeld => ?_)
          clear hK K
          try simp only [Act.put, List.setIfInBounds_toArray, List.set_cons_zero, List.set_cons_succ]
          refine wpAnyH_ready (rs := [3]) (by kernel_rfl) (by simp) ?_
          refine AllReadyH.cons (o := { dst := some 35, op := Op.call { callee := Callee.value (Operand.func 14), args := #[Operand.tmp 32, Operand.tmp 34], argTypes := #[30, 38] }, type := 36, pos := "exact.go:3729", after := #[{ on := 0, ground := Ground.data }, { on := 2, ground := Ground.data }, { on := 2, ground := Ground.chain }], guard := none }) rfl (fun K hK => ?_) ?_
          · go_simp
            refine (implPutRow_made _ _ _ _ _ _ v0 r _ (tX.below vv).tab HAX.out (by omega) (by omega) g0 gr).mono ?_
            rw [HV.out]
            rintro e wx ⟨a3, n3, c3, o3, p3, q3, rfl, t3, hbx⟩
            have t3 := t3.lt (base' := wX.heap.size) vv.size
            try have kB := kept_block kB hbx
            have vv := gr_trans vv hbx
            clear hbx
            go_wp2_with fail
            refine hK.out _ _ (⟨(cells2 (kept_block kX vv)).1, (cells3 (kept_block kR (gr_trans pS vv))).1⟩) (fun hHeld => ?_)
            clear hK K
            try simp only [Act.put, List.setIfInBounds_toArray, List.set_cons_zero, List.set_cons_succ]
            refine wpAnyH_take (i := 4) (oi := { dst := some 31, op := Op.move (Operand.tmp 35), type := 36, pos := "exact.go:3729", after := #[{ on := 3, ground := Ground.data }], guard := none }) (v := ?_) rfl (by kernel_rfl) (by kernel_rfl) (by kernel_rfl) (fun _ _ _ h => h) (Or.inl ⟨by rfl, ?_⟩) (by assumption) ?_
            rotate_left
            · (intro wY hSw; (try dsimp only at hSw); go_simp; try with_reducible rfl)
            simp only [Act.put, List.setIfInBounds_toArray, List.set_cons_zero, List.set_cons_succ]
            refine wpAnyH_take (i := 5) (oi := { dst := some 36, op := Op.extract (Operand.tmp 31) 0, type := 30, pos := "exact.go:3729", after := #[{ on := 4, ground := Ground.data }], guard := none }) (v := ?_) rfl (by kernel_rfl) (by kernel_rfl) (by kernel_rfl) (fun _ _ _ h => h) (Or.inl ⟨by rfl, ?_⟩) (by assumption) ?_
            rotate_left
            · (intro wY hSw; (try dsimp only at hSw); go_simp; try with_reducible rfl)
            simp only [Act.put, List.setIfInBounds_toArray, List.set_cons_zero, List.set_cons_succ]
            refine wpAnyH_take (i := 6) (oi := { dst := some 37, op := Op.extract (Operand.tmp 31) 1, type := 4, pos := "exact.go:3729", after := #[{ on := 4, ground := Ground.data }, { on := 8, ground := Ground.gcOnly Departure.lateStores }], guard := none }) (v := ?_) rfl (by kernel_rfl) (by kernel_rfl) (by kernel_rfl) (fun _ _ _ h => h) (Or.inl ⟨by rfl, ?_⟩) (by assumption) ?_
            rotate_left
            · (intro wY hSw; (try dsimp only at hSw); go_simp; try with_reducible rfl)
            simp only [Act.put, List.setIfInBounds_toArray, List.set_cons_zero, List.set_cons_succ]
            refine wpAnyH_ready (rs := [8]) (by kernel_rfl) (by simp) ?_
            refine AllReadyH.cons (o := { dst := none, op := Op.store 30 (Operand.tmp 9) (Operand.tmp 36), type := 0, pos := "exact.go:3729", after := #[{ on := 7, ground := Ground.data }, { on := 5, ground := Ground.data }, { on := 3, ground := Ground.chain }, { on := 0, ground := Ground.phase }, { on := 1, ground := Ground.phase }, { on := 2, ground := Ground.phase }, { on := 3, ground := Ground.phase }, { on := 4, ground := Ground.phase }, { on := 5, ground := Ground.phase }, { on := 6, ground := Ground.textOnly Departure.lateStores }, { on := 7, ground := Ground.phase }], guard := none }) rfl (fun K hK => ?_) ?_
            · obtain ⟨⟨b0, b1⟩, f0, f1⟩ := cells2 kB
              go_simp
              have vv := below_set (below_set vv gB 0 (.slice a3 n3 c3)) gB 1 (.slice o3 p3 q3)
              have t3 := VOwn.setBox t3 kB (.slice a3 n3 c3) (.slice o3 p3 q3)
              have kB := set_box2 kB (.slice a3 n3 c3) (.slice o3 p3 q3)
              clear b0 b1 f0 f1
              refine hK.out _ _ (⟨(cells2 (kept_block kX vv)).1, (cells3 (kept_block kR (gr_trans pS vv))).1⟩) (fun hHeld => ?_)
              clear hK K
              try simp only [Act.put, List.setIfInBounds_toArray, List.set_cons_zero, List.set_cons_succ]
              refine wpAnyH_take (i := 9) (oi := { dst := some 10, op := Op.assign (Operand.tmp 37), type := 4, pos := "exact.go:3729", after := #[{ on := 6, ground := Ground.data }, { on := 8, ground := Ground.chain }, { on := 0, ground := Ground.phase }, { on := 1, ground := Ground.phase }, { on := 2, ground := Ground.phase }, { on := 3, ground := Ground.phase }, { on := 4, ground := Ground.phase }, { on := 5, ground := Ground.phase }, { on := 6, ground := Ground.phase }, { on := 7, ground := Ground.phase }, { on := 8, ground := Ground.phase }], guard := none }) (v := ?_) rfl (by kernel_rfl) (by kernel_rfl) (by kernel_rfl) (fun _ _ _ h => h) (Or.inl ⟨by rfl, ?_⟩) (by assumption) ?_
              rotate_left
              · (intro wY hSw; (try dsimp only at hSw); go_simp; try with_reducible rfl)
              simp only [Act.put, List.setIfInBounds_toArray, List.set_cons_zero, List.set_cons_succ]
              refine wpAnyH_done (by kernel_rfl) ?_ _
              clear hHeld
              go_wp2_with fail
              go_meet
              exact ⟨_, _, _, _, _, _, _, rfl, rfl, gB, kB, t3, vv⟩
            exact AllReadyH.nil
          exact AllReadyH.nil
        exact AllReadyH.nil
      refine AllReadyH.cons (o := { dst := some 9, op := Op.alloc 30, type := 0, pos := "exact.go:3729", after := #[], guard := none }) rfl (fun K hK => ?_) ?_
      · go_simp
        first
        | refine made_new (K := K _) (fun wx kB hbx => ?_)
        | refine made_drew (K := K _) (fun wx kB hbx => ?_)
        have gB := vv.size
        try have t2 := t2.below hbx
        try have t3 := t3.below hbx
        have vv := gr_trans vv hbx
        clear hbx
        refine hK.out _ _ (⟨(cells2 (kept_block kX vv)).1, (cells3 (kept_block kR (gr_trans pS vv))).1⟩) (fun hHeld => ?_)
        clear hK K
        try simp only [Act.put, List.setIfInBounds_toArray, List.set_cons_zero, List.set_cons_succ]
        refine wpAnyH_ready (rs := [2]) (by kernel_rfl) (by simp) ?_
        refine AllReadyH.cons (o := { dst := some 34, op := Op.call { callee := Callee.value (Operand.func 13), args := #[Operand.tmp 33], argTypes := #[35] }, type := 38, pos := "exact.go:3729", after := #[{ on := 1, ground := Ground.data }], guard := none }) rfl (fun K hK => ?_) ?_
        · go_simp
          refine (toVrow_made r _).mono ?_
          rintro e wx ⟨rfl, hbx⟩
          try have t2 := t2.below hbx
          try have t3 := t3.below hbx
          try have kB := kept_block kB hbx
          have vv := gr_trans vv hbx
          clear hbx
          go_wp2_with fail
          refine hK.out _ _ (⟨(cells2 (kept_block kX vv)).1, (cells3 (kept_block kR (gr_trans pS vv))).1⟩) (fun hHeld => ?_)
          clear hK K
          try simp only [Act.put, List.setIfInBounds_toArray, List.set_cons_zero, List.set_cons_succ]
          refine wpAnyH_ready (rs := [3]) (by kernel_rfl) (by simp) ?_
          refine AllReadyH.cons (o := { dst := some 35, op := Op.call { callee := Callee.value (Operand.func 14), args := #[Operand.tmp 32, Operand.tmp 34], argTypes := #[30, 38] }, type := 36, pos := "exact.go:3729", after := #[{ on := 0, ground := Ground.data }, { on := 2, ground := Ground.data }, { on := 2, ground := Ground.chain }], guard := none }) rfl (fun K hK => ?_) ?_
          · go_simp
            refine (implPutRow_made _ _ _ _ _ _ v0 r _ (tX.below vv).tab HAX.out (by omega) (by omega) g0 gr).mono ?_
            rw [HV.out]
            rintro e wx ⟨a3, n3, c3, o3, p3, q3, rfl, t3, hbx⟩
            have t3 := t3.lt (base' := wX.heap.size) vv.size
            try have kB := kept_block kB hbx
            have vv := gr_trans vv hbx
            clear hbx
            go_wp2_with fail
            refine hK.out _ _ (⟨(cells2 (kept_block kX vv)).1, (cells3 (kept_block kR (gr_trans pS vv))).1⟩) (fun hHeld => ?_)
            clear hK K
            try simp only [Act.put, List.setIfInBounds_toArray, List.set_cons_zero, List.set_cons_succ]
            refine wpAnyH_take (i := 4) (oi := { dst := some 31, op := Op.move (Operand.tmp 35), type := 36, pos := "exact.go:3729", after := #[{ on := 3, ground := Ground.data }], guard := none }) (v := ?_) rfl (by kernel_rfl) (by kernel_rfl) (by kernel_rfl) (fun _ _ _ h => h) (Or.inl ⟨by rfl, ?_⟩) (by assumption) ?_
            rotate_left
            · (intro wY hSw; (try dsimp only at hSw); go_simp; try with_reducible rfl)
            simp only [Act.put, List.setIfInBounds_toArray, List.set_cons_zero, List.set_cons_succ]
            refine wpAnyH_take (i := 5) (oi := { dst := some 36, op := Op.extract (Operand.tmp 31) 0, type := 30, pos := "exact.go:3729", after := #[{ on := 4, ground := Ground.data }], guard := none }) (v := ?_) rfl (by kernel_rfl) (by kernel_rfl) (by kernel_rfl) (fun _ _ _ h => h) (Or.inl ⟨by rfl, ?_⟩) (by assumption) ?_
            rotate_left
            · (intro wY hSw; (try dsimp only at hSw); go_simp; try with_reducible rfl)
            simp only [Act.put, List.setIfInBounds_toArray, List.set_cons_zero, List.set_cons_succ]
            refine wpAnyH_take (i := 6) (oi := { dst := some 37, op := Op.extract (Operand.tmp 31) 1, type := 4, pos := "exact.go:3729", after := #[{ on := 4, ground := Ground.data }, { on := 8, ground := Ground.gcOnly Departure.lateStores }], guard := none }) (v := ?_) rfl (by kernel_rfl) (by kernel_rfl) (by kernel_rfl) (fun _ _ _ h => h) (Or.inl ⟨by rfl, ?_⟩) (by assumption) ?_
            rotate_left
            · (intro wY hSw; (try dsimp only at hSw); go_simp; try with_reducible rfl)
            simp only [Act.put, List.setIfInBounds_toArray, List.set_cons_zero, List.set_cons_succ]
            refine wpAnyH_ready (rs := [8]) (by kernel_rfl) (by simp) ?_
            refine AllReadyH.cons (o := { dst := none, op := Op.store 30 (Operand.tmp 9) (Operand.tmp 36), type := 0, pos := "exact.go:3729", after := #[{ on := 7, ground := Ground.data }, { on := 5, ground := Ground.data }, { on := 3, ground := Ground.chain }, { on := 0, ground := Ground.phase }, { on := 1, ground := Ground.phase }, { on := 2, ground := Ground.phase }, { on := 3, ground := Ground.phase }, { on := 4, ground := Ground.phase }, { on := 5, ground := Ground.phase }, { on := 6, ground := Ground.textOnly Departure.lateStores }, { on := 7, ground := Ground.phase }], guard := none }) rfl (fun K hK => ?_) ?_
            · obtain ⟨⟨b0, b1⟩, f0, f1⟩ := cells2 kB
              go_simp
              have vv := below_set (below_set vv gB 0 (.slice a3 n3 c3)) gB 1 (.slice o3 p3 q3)
              have t3 := VOwn.setBox t3 kB (.slice a3 n3 c3) (.slice o3 p3 q3)
              have kB := set_box2 kB (.slice a3 n3 c3) (.slice o3 p3 q3)
              clear b0 b1 f0 f1
              refine hK.out _ _ (⟨(cells2 (kept_block kX vv)).1, (cells3 (kept_block kR (gr_trans pS vv))).1⟩) (fun hHeld => ?_)
              clear hK K
              try simp only [Act.put, List.setIfInBounds_toArray, List.set_cons_zero, List.set_cons_succ]
              refine wpAnyH_take (i := 9) (oi := { dst := some 10, op := Op.assign (Operand.tmp 37), type := 4, pos := "exact.go:3729", after := #[{ on := 6, ground := Ground.data }, { on := 8, ground := Ground.chain }, { on := 0, ground := Ground.phase }, { on := 1, ground := Ground.phase }, { on := 2, ground := Ground.phase }, { on := 3, ground := Ground.phase }, { on := 4, ground := Ground.phase }, { on := 5, ground := Ground.phase }, { on := 6, ground := Ground.phase }, { on := 7, ground := Ground.phase }, { on := 8, ground := Ground.phase }], guard := none }) (v := ?_) rfl (by kernel_rfl) (by kernel_rfl) (by kernel_rfl) (fun _ _ _ h => h) (Or.inl ⟨by rfl, ?_⟩) (by assumption) ?_
              rotate_left
              · (intro wY hSw; (try dsimp only at hSw); go_simp; try with_reducible rfl)
              simp only [Act.put, List.setIfInBounds_toArray, List.set_cons_zero, List.set_cons_succ]
              refine wpAnyH_done (by kernel_rfl) ?_ _
              clear hHeld
              go_wp2_with fail
              go_meet
              exact ⟨_, _, _, _, _, _, _, rfl, rfl, gB, kB, t3, vv⟩
            exact AllReadyH.nil
          exact AllReadyH.nil
        exact AllReadyH.nil
      exact AllReadyH.nil
    case rest =>
      obtain ⟨gG, a6, n6, c6, o6, p6, q6, rfl, rfl, gge, kG, tG, hb⟩ := hcut
      obtain ⟨wG, hwG⟩ : ∃ x, x = wc := ⟨_, rfl⟩
      subst hwG
      have GG : Hid (wX.heap.size ≤ gG) := hide gge
      have NG : Hid (n6 ≤ 16777216 ∧ p6 ≤ 16777216) := hide (by have h1 := tG.len; have h2 := sizes_PutRow v0 r; rw [HV.out] at h2; have h3 := h0.rows.size; have h4 := h0.own.size; omega)
      have tX := tX.below hb
      have kX := kept_block kX hb
      have xb : wX.heap.size ≤ wG.heap.size := hb.size
      have pS := gr_trans pS hb
      clear hb gge
      obtain ⟨⟨z0, z1⟩, -⟩ := cells2 kG
      obtain ⟨⟨s0, s1⟩, -⟩ := cells2 (kept_block kS pS)
      go_wp2_with fail
      refine (eqVtab_same _ _ _ _ _ _ _ _ _ _ _ _ V.1 _ tG.tab (tS.below pS).tab).mono ?_
      rintro e w8 ⟨rfl, hb⟩
      have pS := gr_trans pS hb
      have xb := Nat.le_trans xb hb.size
      have tG := tG.below hb
      have tX := tX.below hb
      have kX := kept_block kX hb
      have kG := kept_block kG hb
      clear hb z0 z1 s0 s1
      have vv : Below w8.heap.size w8 w8.drew := gr_drew (Below.refl _ _)
      go_wp2_with fail
      refine wp_region_held_drew (S := (fun W => (W.cell? ⟨w.heap.size, 0, none⟩ = some (.slice a0 n0 c0) ∧ W.cell? ⟨w.heap.size, 1, none⟩ = some (.slice o0 p0 q0)) ∧ (W.cell? ⟨w4.heap.size, 0, none⟩ = some (.slice a4 n0 c4) ∧ W.cell? ⟨w4.heap.size, 1, none⟩ = some (.slice o4 p0 q4)))) (by kernel_rfl) (⟨(cells2 (kept_block kA (gr_trans pS vv))).1, (cells2 (kept_block kX vv)).1⟩) (fun hHeld => ?_)
      refine wpAnyH_take (i := 0) (oi := { dst := some 47, op := Op.load 30 (Operand.tmp 8), type := 30, pos := "exact.go:3733", after := #[], guard := none }) (v := ?_) rfl (by kernel_rfl) (by kernel_rfl) (by kernel_rfl) (fun _ _ _ h => h) (Or.inl ⟨by rfl, ?_⟩) (by assumption) ?_
      rotate_left
      · (intro wY hSw; (try dsimp only at hSw); go_simp; try with_reducible rfl)
      simp only [Act.put, List.setIfInBounds_toArray, List.set_cons_zero, List.set_cons_succ]
      refine wpAnyH_take (i := 1) (oi := { dst := some 48, op := Op.load 25 (Operand.tmp 2), type := 25, pos := "exact.go:3733", after := #[], guard := none }) (v := ?_) rfl (by kernel_rfl) (by kernel_rfl) (by kernel_rfl) (fun _ _ _ h => h) (Or.inl ⟨by rfl, ?_⟩) (by assumption) ?_
      rotate_left
      · (intro wY hSw; (try dsimp only at hSw); go_simp; try with_reducible rfl)
      simp only [Act.put, List.setIfInBounds_toArray, List.set_cons_zero, List.set_cons_succ]
      refine wpAnyH_ready (rs := [2]) (by kernel_rfl) (by simp) ?_
      refine AllReadyH.cons (o := { dst := some 49, op := Op.call { callee := Callee.value (Operand.func 9), args := #[Operand.tmp 48], argTypes := #[25] }, type := 30, pos := "exact.go:3733", after := #[{ on := 1, ground := Ground.data }], guard := none }) rfl (fun K hK => ?_) ?_
      · go_simp
        refine (toVtab_made a0 n0 c0 o0 p0 q0 v0 _ (h0.below (gr_trans uS (gr_trans pS vv))) gn gp).mono ?_
        rintro e wt ⟨a7, c7, o7, q7, rfl, t7, hb7⟩
        have vv := gr_trans vv hb7
        go_wp2_with fail
        refine hK.out _ _ (⟨(cells2 (kept_block kA (gr_trans pS vv))).1, (cells2 (kept_block kX vv)).1⟩) (fun hHeld => ?_)
        clear hK K
        try simp only [Act.put, List.setIfInBounds_toArray, List.set_cons_zero, List.set_cons_succ]
        refine wpAnyH_ready (rs := [3]) (by kernel_rfl) (by simp) ?_
        refine AllReadyH.cons (o := { dst := some 50, op := Op.call { callee := Callee.value (Operand.func 11), args := #[Operand.tmp 47, Operand.tmp 49], argTypes := #[30, 30] }, type := 4, pos := "exact.go:3733", after := #[{ on := 0, ground := Ground.data }, { on := 2, ground := Ground.data }, { on := 2, ground := Ground.chain }], guard := none }) rfl (fun K hK => ?_) ?_
        · go_simp
          refine (eqVtab_same _ _ _ _ _ _ _ _ _ _ _ _ v0 _ (tX.below vv).tab t7.tab).mono ?_
          rintro e wt ⟨rfl, hb8⟩
          have vv := gr_trans vv hb8
          clear t7
          go_wp2_with fail
          refine hK.out _ _ (⟨(cells2 (kept_block kA (gr_trans pS vv))).1, (cells2 (kept_block kX vv)).1⟩) (fun hHeld => ?_)
          clear hK K
          try simp only [Act.put, List.setIfInBounds_toArray, List.set_cons_zero, List.set_cons_succ]
          refine wpAnyH_take (i := 4) (oi := { dst := some 51, op := Op.unOp UnOp.not 4 (Operand.tmp 50), type := 4, pos := "exact.go:3733", after := #[{ on := 3, ground := Ground.data }], guard := none }) (v := ?_) rfl (by kernel_rfl) (by kernel_rfl) (by kernel_rfl) (fun _ _ _ h => h) (Or.inl ⟨by rfl, ?_⟩) (by assumption) ?_
          rotate_left
          · (intro wY hSw; (try dsimp only at hSw); go_simp; try with_reducible rfl)
          simp only [Act.put, List.setIfInBounds_toArray, List.set_cons_zero, List.set_cons_succ]
          refine wpAnyH_done (by kernel_rfl) ?_ _
          have pS := gr_trans pS vv
          have xb := Nat.le_trans xb vv.size
          have tX := tX.below vv
          have tG := tG.below vv
          have kX := kept_block kX vv
          have kG := kept_block kG vv
          clear hHeld vv
          obtain ⟨⟨y0, y1⟩, -⟩ := cells2 kX
          go_wp2_with fail
          refine (markVtab_made _ _ _ _ _ _ _ _ v0 _ tX pS.size EX.out.1 EX.out.2 (by omega) (by omega)).mono ?_
          rintro e w9 ⟨rfl, -, bt⟩
          have pS := pS.trans bt.below
          have xb := Nat.le_trans xb bt.below.size
          have tG := tG.between bt GX.out
          have kX : w9.heap[w4.heap.size]? = _ := (bt.block _ (Array.getElem?_eq_some_iff.1 kX).1 (Nat.le_refl _)).trans kX
          have kG : w9.heap[gG]? = _ := (bt.block _ (Array.getElem?_eq_some_iff.1 kG).1 (Nat.le_trans GX.out GG.out)).trans kG
          clear tX bt y0 y1
          obtain ⟨⟨s0, s1⟩, -⟩ := cells2 (kept_block kS pS)
          obtain ⟨⟨z0, z1⟩, -⟩ := cells2 kG
          go_wp2_with fail
          refine (eqVtab_same _ _ _ _ _ _ _ _ _ _ _ _ V.1 _ tG.tab (tS.below pS).tab).mono ?_
          rintro e w10 ⟨rfl, hb⟩
          have pS := gr_trans pS hb
          have xb := Nat.le_trans xb hb.size
          have tG := tG.below hb
          have kX := kept_block kX hb
          have kG := kept_block kG hb
          clear hb
          clear s0 s1 z0 z1
          obtain ⟨⟨z0, z1⟩, -⟩ := cells2 kG
          clear kX
          go_wp2_with fail
          refine (markVtab_box _ _ _ _ _ _ _ V.1 _ gG tG xb kG NG.out.1 NG.out.2).mono ?_
          rintro e w11 ⟨rfl, tM, kG, bt⟩
          have pS := pS.trans (bt.mono SG.out)
          clear tG bt z0 z1
          obtain ⟨⟨z0, z1⟩, -⟩ := cells2 kG
          go_wp2_with fail
          refine (heldVtab_any _ _ _ _ _ _ _ tM.tab NG.out.1 NG.out.2).mono ?_
          rintro e w12 ⟨rfl, hb⟩
          have pS := gr_trans pS hb
          have tM := tM.below hb
          have kG := kept_block kG hb
          clear hb z0 z1
          have m0 : ¬ ((1 : Int) + 3 * (n6 : Int) + (p6 : Int) < 0) := by omega
          have uB : Below w.heap.size w w12 := gr_trans uS pS
          go_upto_region 24 with fail
          go_cut [14, 15] from 16 to 103 (fun s14 s15 wx => ∃ (g : Nat) (a3 : Option Addr) (n3 c3 : Nat) (o3 : Option Addr) (p3 q3 : Nat), s14 = .pointer (some ⟨g, 0, none⟩) ∧ s15 = .bool V.2 ∧ w12.heap.size ≤ g ∧ wx.heap[g]? = some (.cells #[.slice a3 n3 c3, .slice o3 p3 q3] 30) ∧ VOwn wx w12.heap.size a3 n3 c3 o3 p3 q3 V.1 ∧ Below w12.heap.size w12 wx)
          case first =>
            have vv : Below w12.heap.size w12 w12.drew := gr_drew (Below.refl _ _)
            go_wp2_with fail
            refine wp_region_held_drew (S := (fun W => (W.cell? ⟨w.heap.size, 0, none⟩ = some (.slice a0 n0 c0) ∧ W.cell? ⟨w.heap.size, 1, none⟩ = some (.slice o0 p0 q0)) ∧ (W.cell? ⟨wA.heap.size, 0, none⟩ = some (.int .i64 r.i) ∧ W.cell? ⟨wA.heap.size, 1, none⟩ = some (.int .i64 r.m) ∧ W.cell? ⟨wA.heap.size, 2, none⟩ = some (.int .i64 r.b)))) (by kernel_rfl) (⟨(cells2 (kept_block kA (gr_trans pS vv))).1, (cells3 (kept_block kR (gr_trans pS vv))).1⟩) (fun hHeld => ?_)
            refine wpAnyH_take (i := 0) (oi := { dst := some 80, op := Op.load 25 (Operand.tmp 2), type := 25, pos := "exact.go:3751", after := #[], guard := none }) (v := ?_) rfl (by kernel_rfl) (by kernel_rfl) (by kernel_rfl) (fun _ _ _ h => h) (Or.inl ⟨by rfl, ?_⟩) (by assumption) ?_
            rotate_left
            · (intro wY hSw; (try dsimp only at hSw); go_simp; try with_reducible rfl)
            simp only [Act.put, List.setIfInBounds_toArray, List.set_cons_zero, List.set_cons_succ]
            refine wpAnyH_take (i := 2) (oi := { dst := some 82, op := Op.load 35 (Operand.tmp 3), type := 35, pos := "exact.go:3751", after := #[], guard := none }) (v := ?_) rfl (by kernel_rfl) (by kernel_rfl) (by kernel_rfl) (fun _ _ _ h => h) (Or.inl ⟨by rfl, ?_⟩) (by assumption) ?_
            rotate_left
            · (intro wY hSw; (try dsimp only at hSw); go_simp; try with_reducible rfl)
            simp only [Act.put, List.setIfInBounds_toArray, List.set_cons_zero, List.set_cons_succ]
            refine wpAnyH_ready (rs := [1, 8]) (by kernel_rfl) (by simp) ?_
            refine AllReadyH.cons (o := { dst := some 81, op := Op.call { callee := Callee.value (Operand.func 9), args := #[Operand.tmp 80], argTypes := #[25] }, type := 30, pos := "exact.go:3751", after := #[{ on := 0, ground := Ground.data }], guard := none }) rfl (fun K hK => ?_) ?_
            · go_simp
              refine (toVtab_made a0 n0 c0 o0 p0 q0 v0 _ (h0.below (gr_trans uB vv)) gn gp).mono ?_
              rintro e wx ⟨a2, c2, o2, q2, rfl, t2, hbx⟩
              try have t3 := t3.below hbx
              try have kB := kept_block kB hbx
              have vv := gr_trans vv hbx
              clear hbx
              go_wp2_with fail
              refine hK.out _ _ (⟨(cells2 (kept_block kA (gr_trans pS vv))).1, (cells3 (kept_block kR (gr_trans pS vv))).1⟩) (fun hHeld => ?_)
              clear hK K
              try simp only [Act.put, List.setIfInBounds_toArray, List.set_cons_zero, List.set_cons_succ]
              refine wpAnyH_ready (rs := [3, 8]) (by kernel_rfl) (by simp) ?_
              refine AllReadyH.cons (o := { dst := some 83, op := Op.call { callee := Callee.value (Operand.func 13), args := #[Operand.tmp 82], argTypes := #[35] }, type := 38, pos := "exact.go:3751", after := #[{ on := 2, ground := Ground.data }, { on := 1, ground := Ground.chain }], guard := none }) rfl (fun K hK => ?_) ?_
              · go_simp
                refine (toVrow_made r _).mono ?_
                rintro e wx ⟨rfl, hbx⟩
                try have t2 := t2.below hbx
                try have t3 := t3.below hbx
                try have kB := kept_block kB hbx
                have vv := gr_trans vv hbx
                clear hbx
                go_wp2_with fail
                refine hK.out _ _ (⟨(cells2 (kept_block kA (gr_trans pS vv))).1, (cells3 (kept_block kR (gr_trans pS vv))).1⟩) (fun hHeld => ?_)
                clear hK K
                try simp only [Act.put, List.setIfInBounds_toArray, List.set_cons_zero, List.set_cons_succ]
                refine wpAnyH_ready (rs := [4, 8]) (by kernel_rfl) (by simp) ?_
                refine AllReadyH.cons (o := { dst := some 84, op := Op.call { callee := Callee.value (Operand.func 14), args := #[Operand.tmp 81, Operand.tmp 83], argTypes := #[30, 38] }, type := 36, pos := "exact.go:3751", after := #[{ on := 1, ground := Ground.data }, { on := 3, ground := Ground.data }, { on := 3, ground := Ground.chain }], guard := none }) rfl (fun K hK => ?_) ?_
                · go_simp
                  refine (implPutRow_made _ _ _ _ _ _ v0 r _ t2.tab (t2.some) (by omega) (by omega) g0 gr).mono ?_
                  rw [HV.out]
                  rintro e wx ⟨a3, n3, c3, o3, p3, q3, rfl, t3, hbx⟩
                  have t3 := t3.lt (base' := w12.heap.size) vv.size
                  try have kB := kept_block kB hbx
                  have vv := gr_trans vv hbx
                  clear hbx
                  go_wp2_with fail
                  refine hK.out _ _ (⟨(cells2 (kept_block kA (gr_trans pS vv))).1, (cells3 (kept_block kR (gr_trans pS vv))).1⟩) (fun hHeld => ?_)
                  clear hK K
                  try simp only [Act.put, List.setIfInBounds_toArray, List.set_cons_zero, List.set_cons_succ]
                  refine wpAnyH_take (i := 5) (oi := { dst := some 79, op := Op.move (Operand.tmp 84), type := 36, pos := "exact.go:3751", after := #[{ on := 4, ground := Ground.data }], guard := none }) (v := ?_) rfl (by kernel_rfl) (by kernel_rfl) (by kernel_rfl) (fun _ _ _ h => h) (Or.inl ⟨by rfl, ?_⟩) (by assumption) ?_
                  rotate_left
                  · (intro wY hSw; (try dsimp only at hSw); go_simp; try with_reducible rfl)
                  simp only [Act.put, List.setIfInBounds_toArray, List.set_cons_zero, List.set_cons_succ]
                  refine wpAnyH_take (i := 6) (oi := { dst := some 85, op := Op.extract (Operand.tmp 79) 0, type := 30, pos := "exact.go:3751", after := #[{ on := 5, ground := Ground.data }], guard := none }) (v := ?_) rfl (by kernel_rfl) (by kernel_rfl) (by kernel_rfl) (fun _ _ _ h => h) (Or.inl ⟨by rfl, ?_⟩) (by assumption) ?_
                  rotate_left
                  · (intro wY hSw; (try dsimp only at hSw); go_simp; try with_reducible rfl)
                  simp only [Act.put, List.setIfInBounds_toArray, List.set_cons_zero, List.set_cons_succ]
                  refine wpAnyH_take (i := 7) (oi := { dst := some 86, op := Op.extract (Operand.tmp 79) 1, type := 4, pos := "exact.go:3751", after := #[{ on := 5, ground := Ground.data }, { on := 9, ground := Ground.gcOnly Departure.lateStores }], guard := none }) (v := ?_) rfl (by kernel_rfl) (by kernel_rfl) (by kernel_rfl) (fun _ _ _ h => h) (Or.inl ⟨by rfl, ?_⟩) (by assumption) ?_
                  rotate_left
                  · (intro wY hSw; (try dsimp only at hSw); go_simp; try with_reducible rfl)
                  simp only [Act.put, List.setIfInBounds_toArray, List.set_cons_zero, List.set_cons_succ]
                  refine wpAnyH_ready (rs := [8]) (by kernel_rfl) (by simp) ?_
                  refine AllReadyH.cons (o := { dst := some 14, op := Op.alloc 30, type := 0, pos := "exact.go:3751", after := #[], guard := none }) rfl (fun K hK => ?_) ?_
                  · go_simp
                    first
                    | refine made_new (K := K _) (fun wx kB hbx => ?_)
                    | refine made_drew (K := K _) (fun wx kB hbx => ?_)
                    have gB := vv.size
                    try have t2 := t2.below hbx
                    try have t3 := t3.below hbx
                    have vv := gr_trans vv hbx
                    clear hbx
                    refine hK.out _ _ (⟨(cells2 (kept_block kA (gr_trans pS vv))).1, (cells3 (kept_block kR (gr_trans pS vv))).1⟩) (fun hHeld => ?_)
                    clear hK K
                    try simp only [Act.put, List.setIfInBounds_toArray, List.set_cons_zero, List.set_cons_succ]
                    refine wpAnyH_ready (rs := [9]) (by kernel_rfl) (by simp) ?_
                    refine AllReadyH.cons (o := { dst := none, op := Op.store 30 (Operand.tmp 14) (Operand.tmp 85), type := 0, pos := "exact.go:3751", after := #[{ on := 8, ground := Ground.data }, { on := 6, ground := Ground.data }, { on := 4, ground := Ground.chain }, { on := 0, ground := Ground.phase }, { on := 1, ground := Ground.phase }, { on := 2, ground := Ground.phase }, { on := 3, ground := Ground.phase }, { on := 4, ground := Ground.phase }, { on := 5, ground := Ground.phase }, { on := 6, ground := Ground.phase }, { on := 7, ground := Ground.textOnly Departure.lateStores }, { on := 8, ground := Ground.phase }], guard := none }) rfl (fun K hK => ?_) ?_
                    · obtain ⟨⟨b0, b1⟩, f0, f1⟩ := cells2 kB
                      go_simp
                      have vv := below_set (below_set vv gB 0 (.slice a3 n3 c3)) gB 1 (.slice o3 p3 q3)
                      have t3 := VOwn.setBox t3 kB (.slice a3 n3 c3) (.slice o3 p3 q3)
                      have kB := set_box2 kB (.slice a3 n3 c3) (.slice o3 p3 q3)
                      clear b0 b1 f0 f1
                      refine hK.out _ _ (⟨(cells2 (kept_block kA (gr_trans pS vv))).1, (cells3 (kept_block kR (gr_trans pS vv))).1⟩) (fun hHeld => ?_)
                      clear hK K
                      try simp only [Act.put, List.setIfInBounds_toArray, List.set_cons_zero, List.set_cons_succ]
                      refine wpAnyH_take (i := 10) (oi := { dst := some 15, op := Op.assign (Operand.tmp 86), type := 4, pos := "exact.go:3751", after := #[{ on := 7, ground := Ground.data }, { on := 9, ground := Ground.chain }, { on := 0, ground := Ground.phase }, { on := 1, ground := Ground.phase }, { on := 2, ground := Ground.phase }, { on := 3, ground := Ground.phase }, { on := 4, ground := Ground.phase }, { on := 5, ground := Ground.phase }, { on := 6, ground := Ground.phase }, { on := 7, ground := Ground.phase }, { on := 8, ground := Ground.phase }, { on := 9, ground := Ground.phase }], guard := none }) (v := ?_) rfl (by kernel_rfl) (by kernel_rfl) (by kernel_rfl) (fun _ _ _ h => h) (Or.inl ⟨by rfl, ?_⟩) (by assumption) ?_
                      rotate_left
                      · (intro wY hSw; (try dsimp only at hSw); go_simp; try with_reducible rfl)
                      simp only [Act.put, List.setIfInBounds_toArray, List.set_cons_zero, List.set_cons_succ]
                      refine wpAnyH_done (by kernel_rfl) ?_ _
                      clear hHeld
                      go_wp2_with fail
                      go_meet
                      exact ⟨_, _, _, _, _, _, _, rfl, rfl, gB, kB, t3, vv⟩
                    exact AllReadyH.nil
                  exact AllReadyH.nil
                refine AllReadyH.cons (o := { dst := some 14, op := Op.alloc 30, type := 0, pos := "exact.go:3751", after := #[], guard := none }) rfl (fun K hK => ?_) ?_
                · go_simp
                  first
                  | refine made_new (K := K _) (fun wx kB hbx => ?_)
                  | refine made_drew (K := K _) (fun wx kB hbx => ?_)
                  have gB := vv.size
                  try have t2 := t2.below hbx
                  try have t3 := t3.below hbx
                  have vv := gr_trans vv hbx
                  clear hbx
                  refine hK.out _ _ (⟨(cells2 (kept_block kA (gr_trans pS vv))).1, (cells3 (kept_block kR (gr_trans pS vv))).1⟩) (fun hHeld => ?_)
                  clear hK K
                  try simp only [Act.put, List.setIfInBounds_toArray, List.set_cons_zero, List.set_cons_succ]
                  refine wpAnyH_ready (rs := [4]) (by kernel_rfl) (by simp) ?_
                  refine AllReadyH.cons (o := { dst := some 84, op := Op.call { callee := Callee.value (Operand.func 14), args := #[Operand.tmp 81, Operand.tmp 83], argTypes := #[30, 38] }, type := 36, pos := "exact.go:3751", after := #[{ on := 1, ground := Ground.data }, { on := 3, ground := Ground.data }, { on := 3, ground := Ground.chain }], guard := none }) rfl (fun K hK => ?_) ?_
                  · go_simp
                    refine (implPutRow_made _ _ _ _ _ _ v0 r _ t2.tab (t2.some) (by omega) (by omega) g0 gr).mono ?_
                    rw [HV.out]
                    rintro e wx ⟨a3, n3, c3, o3, p3, q3, rfl, t3, hbx⟩
                    have t3 := t3.lt (base' := w12.heap.size) vv.size
                    try have kB := kept_block kB hbx
                    have vv := gr_trans vv hbx
                    clear hbx
                    go_wp2_with fail
                    refine hK.out _ _ (⟨(cells2 (kept_block kA (gr_trans pS vv))).1, (cells3 (kept_block kR (gr_trans pS vv))).1⟩) (fun hHeld => ?_)
                    clear hK K
                    try simp only [Act.put, List.setIfInBounds_toArray, List.set_cons_zero, List.set_cons_succ]
                    refine wpAnyH_take (i := 5) (oi := { dst := some 79, op := Op.move (Operand.tmp 84), type := 36, pos := "exact.go:3751", after := #[{ on := 4, ground := Ground.data }], guard := none }) (v := ?_) rfl (by kernel_rfl) (by kernel_rfl) (by kernel_rfl) (fun _ _ _ h => h) (Or.inl ⟨by rfl, ?_⟩) (by assumption) ?_
                    rotate_left
                    · (intro wY hSw; (try dsimp only at hSw); go_simp; try with_reducible rfl)
                    simp only [Act.put, List.setIfInBounds_toArray, List.set_cons_zero, List.set_cons_succ]
                    refine wpAnyH_take (i := 6) (oi := { dst := some 85, op := Op.extract (Operand.tmp 79) 0, type := 30, pos := "exact.go:3751", after := #[{ on := 5, ground := Ground.data }], guard := none }) (v := ?_) rfl (by kernel_rfl) (by kernel_rfl) (by kernel_rfl) (fun _ _ _ h => h) (Or.inl ⟨by rfl, ?_⟩) (by assumption) ?_
                    rotate_left
                    · (intro wY hSw; (try dsimp only at hSw); go_simp; try with_reducible rfl)
                    simp only [Act.put, List.setIfInBounds_toArray, List.set_cons_zero, List.set_cons_succ]
                    refine wpAnyH_take (i := 7) (oi := { dst := some 86, op := Op.extract (Operand.tmp 79) 1, type := 4, pos := "exact.go:3751", after := #[{ on := 5, ground := Ground.data }, { on := 9, ground := Ground.gcOnly Departure.lateStores }], guard := none }) (v := ?_) rfl (by kernel_rfl) (by kernel_rfl) (by kernel_rfl) (fun _ _ _ h => h) (Or.inl ⟨by rfl, ?_⟩) (by assumption) ?_
                    rotate_left
                    · (intro wY hSw; (try dsimp only at hSw); go_simp; try with_reducible rfl)
                    simp only [Act.put, List.setIfInBounds_toArray, List.set_cons_zero, List.set_cons_succ]
                    refine wpAnyH_ready (rs := [9]) (by kernel_rfl) (by simp) ?_
                    refine AllReadyH.cons (o := { dst := none, op := Op.store 30 (Operand.tmp 14) (Operand.tmp 85), type := 0, pos := "exact.go:3751", after := #[{ on := 8, ground := Ground.data }, { on := 6, ground := Ground.data }, { on := 4, ground := Ground.chain }, { on := 0, ground := Ground.phase }, { on := 1, ground := Ground.phase }, { on := 2, ground := Ground.phase }, { on := 3, ground := Ground.phase }, { on := 4, ground := Ground.phase }, { on := 5, ground := Ground.phase }, { on := 6, ground := Ground.phase }, { on := 7, ground := Ground.textOnly Departure.lateStores }, { on := 8, ground := Ground.phase }], guard := none }) rfl (fun K hK => ?_) ?_
                    · obtain ⟨⟨b0, b1⟩, f0, f1⟩ := cells2 kB
                      go_simp
                      have vv := below_set (below_set vv gB 0 (.slice a3 n3 c3)) gB 1 (.slice o3 p3 q3)
                      have t3 := VOwn.setBox t3 kB (.slice a3 n3 c3) (.slice o3 p3 q3)
                      have kB := set_box2 kB (.slice a3 n3 c3) (.slice o3 p3 q3)
                      clear b0 b1 f0 f1
                      refine hK.out _ _ (⟨(cells2 (kept_block kA (gr_trans pS vv))).1, (cells3 (kept_block kR (gr_trans pS vv))).1⟩) (fun hHeld => ?_)
                      clear hK K
                      try simp only [Act.put, List.setIfInBounds_toArray, List.set_cons_zero, List.set_cons_succ]
                      refine wpAnyH_take (i := 10) (oi := { dst := some 15, op := Op.assign (Operand.tmp 86), type := 4, pos := "exact.go:3751", after := #[{ on := 7, ground := Ground.data }, { on := 9, ground := Ground.chain }, { on := 0, ground := Ground.phase }, { on := 1, ground := Ground.phase }, { on := 2, ground := Ground.phase }, { on := 3, ground := Ground.phase }, { on := 4, ground := Ground.phase }, { on := 5, ground := Ground.phase }, { on := 6, ground := Ground.phase }, { on := 7, ground := Ground.phase }, { on := 8, ground := Ground.phase }, { on := 9, ground := Ground.phase }], guard := none }) (v := ?_) rfl (by kernel_rfl) (by kernel_rfl) (by kernel_rfl) (fun _ _ _ h => h) (Or.inl ⟨by rfl, ?_⟩) (by assumption) ?_
                      rotate_left
                      · (intro wY hSw; (try dsimp only at hSw); go_simp; try with_reducible rfl)
                      simp only [Act.put, List.setIfInBounds_toArray, List.set_cons_zero, List.set_cons_succ]
                      refine wpAnyH_done (by kernel_rfl) ?_ _
                      clear hHeld
                      go_wp2_with fail
                      go_meet
                      exact ⟨_, _, _, _, _, _, _, rfl, rfl, gB, kB, t3, vv⟩
                    exact AllReadyH.nil
                  exact AllReadyH.nil
                exact AllReadyH.nil
              refine AllReadyH.cons (o := { dst := some 14, op := Op.alloc 30, type := 0, pos := "exact.go:3751", after := #[], guard := none }) rfl (fun K hK => ?_) ?_
              · go_simp
                first
                | refine made_new (K := K _) (fun wx kB hbx => ?_)
                | refine made_drew (K := K _) (fun wx kB hbx => ?_)
                have gB := vv.size
                try have t2 := t2.below hbx
                try have t3 := t3.below hbx
                have vv := gr_trans vv hbx
                clear hbx
                refine hK.out _ _ (⟨(cells2 (kept_block kA (gr_trans pS vv))).1, (cells3 (kept_block kR (gr_trans pS vv))).1⟩) (fun hHeld => ?_)
                clear hK K
                try simp only [Act.put, List.setIfInBounds_toArray, List.set_cons_zero, List.set_cons_succ]
                refine wpAnyH_ready (rs := [3]) (by kernel_rfl) (by simp) ?_
                refine AllReadyH.cons (o := { dst := some 83, op := Op.call { callee := Callee.value (Operand.func 13), args := #[Operand.tmp 82], argTypes := #[35] }, type := 38, pos := "exact.go:3751", after := #[{ on := 2, ground := Ground.data }, { on := 1, ground := Ground.chain }], guard := none }) rfl (fun K hK => ?_) ?_
                · go_simp
                  refine (toVrow_made r _).mono ?_
                  rintro e wx ⟨rfl, hbx⟩
                  try have t2 := t2.below hbx
                  try have t3 := t3.below hbx
                  try have kB := kept_block kB hbx
                  have vv := gr_trans vv hbx
                  clear hbx
                  go_wp2_with fail
                  refine hK.out _ _ (⟨(cells2 (kept_block kA (gr_trans pS vv))).1, (cells3 (kept_block kR (gr_trans pS vv))).1⟩) (fun hHeld => ?_)
                  clear hK K
                  try simp only [Act.put, List.setIfInBounds_toArray, List.set_cons_zero, List.set_cons_succ]
                  refine wpAnyH_ready (rs := [4]) (by kernel_rfl) (by simp) ?_
                  refine AllReadyH.cons (o := { dst := some 84, op := Op.call { callee := Callee.value (Operand.func 14), args := #[Operand.tmp 81, Operand.tmp 83], argTypes := #[30, 38] }, type := 36, pos := "exact.go:3751", after := #[{ on := 1, ground := Ground.data }, { on := 3, ground := Ground.data }, { on := 3, ground := Ground.chain }], guard := none }) rfl (fun K hK => ?_) ?_
                  · go_simp
                    refine (implPutRow_made _ _ _ _ _ _ v0 r _ t2.tab (t2.some) (by omega) (by omega) g0 gr).mono ?_
                    rw [HV.out]
                    rintro e wx ⟨a3, n3, c3, o3, p3, q3, rfl, t3, hbx⟩
                    have t3 := t3.lt (base' := w12.heap.size) vv.size
                    try have kB := kept_block kB hbx
                    have vv := gr_trans vv hbx
                    clear hbx
                    go_wp2_with fail
                    refine hK.out _ _ (⟨(cells2 (kept_block kA (gr_trans pS vv))).1, (cells3 (kept_block kR (gr_trans pS vv))).1⟩) (fun hHeld => ?_)
                    clear hK K
                    try simp only [Act.put, List.setIfInBounds_toArray, List.set_cons_zero, List.set_cons_succ]
                    refine wpAnyH_take (i := 5) (oi := { dst := some 79, op := Op.move (Operand.tmp 84), type := 36, pos := "exact.go:3751", after := #[{ on := 4, ground := Ground.data }], guard := none }) (v := ?_) rfl (by kernel_rfl) (by kernel_rfl) (by kernel_rfl) (fun _ _ _ h => h) (Or.inl ⟨by rfl, ?_⟩) (by assumption) ?_
                    rotate_left
                    · (intro wY hSw; (try dsimp only at hSw); go_simp; try with_reducible rfl)
                    simp only [Act.put, List.setIfInBounds_toArray, List.set_cons_zero, List.set_cons_succ]
                    refine wpAnyH_take (i := 6) (oi := { dst := some 85, op := Op.extract (Operand.tmp 79) 0, type := 30, pos := "exact.go:3751", after := #[{ on := 5, ground := Ground.data }], guard := none }) (v := ?_) rfl (by kernel_rfl) (by kernel_rfl) (by kernel_rfl) (fun _ _ _ h => h) (Or.inl ⟨by rfl, ?_⟩) (by assumption) ?_
                    rotate_left
                    · (intro wY hSw; (try dsimp only at hSw); go_simp; try with_reducible rfl)
                    simp only [Act.put, List.setIfInBounds_toArray, List.set_cons_zero, List.set_cons_succ]
                    refine wpAnyH_take (i := 7) (oi := { dst := some 86, op := Op.extract (Operand.tmp 79) 1, type := 4, pos := "exact.go:3751", after := #[{ on := 5, ground := Ground.data }, { on := 9, ground := Ground.gcOnly Departure.lateStores }], guard := none }) (v := ?_) rfl (by kernel_rfl) (by kernel_rfl) (by kernel_rfl) (fun _ _ _ h => h) (Or.inl ⟨by rfl, ?_⟩) (by assumption) ?_
                    rotate_left
                    · (intro wY hSw; (try dsimp only at hSw); go_simp; try with_reducible rfl)
                    simp only [Act.put, List.setIfInBounds_toArray, List.set_cons_zero, List.set_cons_succ]
                    refine wpAnyH_ready (rs := [9]) (by kernel_rfl) (by simp) ?_
                    refine AllReadyH.cons (o := { dst := none, op := Op.store 30 (Operand.tmp 14) (Operand.tmp 85), type := 0, pos := "exact.go:3751", after := #[{ on := 8, ground := Ground.data }, { on := 6, ground := Ground.data }, { on := 4, ground := Ground.chain }, { on := 0, ground := Ground.phase }, { on := 1, ground := Ground.phase }, { on := 2, ground := Ground.phase }, { on := 3, ground := Ground.phase }, { on := 4, ground := Ground.phase }, { on := 5, ground := Ground.phase }, { on := 6, ground := Ground.phase }, { on := 7, ground := Ground.textOnly Departure.lateStores }, { on := 8, ground := Ground.phase }], guard := none }) rfl (fun K hK => ?_) ?_
                    · obtain ⟨⟨b0, b1⟩, f0, f1⟩ := cells2 kB
                      go_simp
                      have vv := below_set (below_set vv gB 0 (.slice a3 n3 c3)) gB 1 (.slice o3 p3 q3)
                      have t3 := VOwn.setBox t3 kB (.slice a3 n3 c3) (.slice o3 p3 q3)
                      have kB := set_box2 kB (.slice a3 n3 c3) (.slice o3 p3 q3)
                      clear b0 b1 f0 f1
                      refine hK.out _ _ (⟨(cells2 (kept_block kA (gr_trans pS vv))).1, (cells3 (kept_block kR (gr_trans pS vv))).1⟩) (fun hHeld => ?_)
                      clear hK K
                      try simp only [Act.put, List.setIfInBounds_toArray, List.set_cons_zero, List.set_cons_succ]
                      refine wpAnyH_take (i := 10) (oi := { dst := some 15, op := Op.assign (Operand.tmp 86), type := 4, pos := "exact.go:3751", after := #[{ on := 7, ground := Ground.data }, { on := 9, ground := Ground.chain }, { on := 0, ground := Ground.phase }, { on := 1, ground := Ground.phase }, { on := 2, ground := Ground.phase }, { on := 3, ground := Ground.phase }, { on := 4, ground := Ground.phase }, { on := 5, ground := Ground.phase }, { on := 6, ground := Ground.phase }, { on := 7, ground := Ground.phase }, { on := 8, ground := Ground.phase }, { on := 9, ground := Ground.phase }], guard := none }) (v := ?_) rfl (by kernel_rfl) (by kernel_rfl) (by kernel_rfl) (fun _ _ _ h => h) (Or.inl ⟨by rfl, ?_⟩) (by assumption) ?_
                      rotate_left
                      · (intro wY hSw; (try dsimp only at hSw); go_simp; try with_reducible rfl)
                      simp only [Act.put, List.setIfInBounds_toArray, List.set_cons_zero, List.set_cons_succ]
                      refine wpAnyH_done (by kernel_rfl) ?_ _
                      clear hHeld
                      go_wp2_with fail
                      go_meet
                      exact ⟨_, _, _, _, _, _, _, rfl, rfl, gB, kB, t3, vv⟩
                    exact AllReadyH.nil
                  exact AllReadyH.nil
                exact AllReadyH.nil
              exact AllReadyH.nil
            refine AllReadyH.cons (o := { dst := some 14, op := Op.alloc 30, type := 0, pos := "exact.go:3751", after := #[], guard := none }) rfl (fun K hK => ?_) ?_
            · go_simp
              first
              | refine made_new (K := K _) (fun wx kB hbx => ?_)
              | refine made_drew (K := K _) (fun wx kB hbx => ?_)
              have gB := vv.size
              try have t2 := t2.below hbx
              try have t3 := t3.below hbx
              have vv := gr_trans vv hbx
              clear hbx
              refine hK.out _ _ (⟨(cells2 (kept_block kA (gr_trans pS vv))).1, (cells3 (kept_block kR (gr_trans pS vv))).1⟩) (fun hHeld => ?_)
              clear hK K
              try simp only [Act.put, List.setIfInBounds_toArray, List.set_cons_zero, List.set_cons_succ]
              refine wpAnyH_ready (rs := [1]) (by kernel_rfl) (by simp) ?_
              refine AllReadyH.cons (o := { dst := some 81, op := Op.call { callee := Callee.value (Operand.func 9), args := #[Operand.tmp 80], argTypes := #[25] }, type := 30, pos := "exact.go:3751", after := #[{ on := 0, ground := Ground.data }], guard := none }) rfl (fun K hK => ?_) ?_
              · go_simp
                refine (toVtab_made a0 n0 c0 o0 p0 q0 v0 _ (h0.below (gr_trans uB vv)) gn gp).mono ?_
                rintro e wx ⟨a2, c2, o2, q2, rfl, t2, hbx⟩
                try have t3 := t3.below hbx
                try have kB := kept_block kB hbx
                have vv := gr_trans vv hbx
                clear hbx
                go_wp2_with fail
                refine hK.out _ _ (⟨(cells2 (kept_block kA (gr_trans pS vv))).1, (cells3 (kept_block kR (gr_trans pS vv))).1⟩) (fun hHeld => ?_)
                clear hK K
                try simp only [Act.put, List.setIfInBounds_toArray, List.set_cons_zero, List.set_cons_succ]
                refine wpAnyH_ready (rs := [3]) (by kernel_rfl) (by simp) ?_
                refine AllReadyH.cons (o := { dst := some 83, op := Op.call { callee := Callee.value (Operand.func 13), args := #[Operand.tmp 82], argTypes := #[35] }, type := 38, pos := "exact.go:3751", after := #[{ on := 2, ground := Ground.data }, { on := 1, ground := Ground.chain }], guard := none }) rfl (fun K hK => ?_) ?_
                · go_simp
                  refine (toVrow_made r _).mono ?_
                  rintro e wx ⟨rfl, hbx⟩
                  try have t2 := t2.below hbx
                  try have t3 := t3.below hbx
                  try have kB := kept_block kB hbx
                  have vv := gr_trans vv hbx
                  clear hbx
                  go_wp2_with fail
                  refine hK.out _ _ (⟨(cells2 (kept_block kA (gr_trans pS vv))).1, (cells3 (kept_block kR (gr_trans pS vv))).1⟩) (fun hHeld => ?_)
                  clear hK K
                  try simp only [Act.put, List.setIfInBounds_toArray, List.set_cons_zero, List.set_cons_succ]
                  refine wpAnyH_ready (rs := [4]) (by kernel_rfl) (by simp) ?_
                  refine AllReadyH.cons (o := { dst := some 84, op := Op.call { callee := Callee.value (Operand.func 14), args := #[Operand.tmp 81, Operand.tmp 83], argTypes := #[30, 38] }, type := 36, pos := "exact.go:3751", after := #[{ on := 1, ground := Ground.data }, { on := 3, ground := Ground.data }, { on := 3, ground := Ground.chain }], guard := none }) rfl (fun K hK => ?_) ?_
                  · go_simp
                    refine (implPutRow_made _ _ _ _ _ _ v0 r _ t2.tab (t2.some) (by omega) (by omega) g0 gr).mono ?_
                    rw [HV.out]
                    rintro e wx ⟨a3, n3, c3, o3, p3, q3, rfl, t3, hbx⟩
                    have t3 := t3.lt (base' := w12.heap.size) vv.size
                    try have kB := kept_block kB hbx
                    have vv := gr_trans vv hbx
                    clear hbx
                    go_wp2_with fail
                    refine hK.out _ _ (⟨(cells2 (kept_block kA (gr_trans pS vv))).1, (cells3 (kept_block kR (gr_trans pS vv))).1⟩) (fun hHeld => ?_)
                    clear hK K
                    try simp only [Act.put, List.setIfInBounds_toArray, List.set_cons_zero, List.set_cons_succ]
                    refine wpAnyH_take (i := 5) (oi := { dst := some 79, op := Op.move (Operand.tmp 84), type := 36, pos := "exact.go:3751", after := #[{ on := 4, ground := Ground.data }], guard := none }) (v := ?_) rfl (by kernel_rfl) (by kernel_rfl) (by kernel_rfl) (fun _ _ _ h => h) (Or.inl ⟨by rfl, ?_⟩) (by assumption) ?_
                    rotate_left
                    · (intro wY hSw; (try dsimp only at hSw); go_simp; try with_reducible rfl)
                    simp only [Act.put, List.setIfInBounds_toArray, List.set_cons_zero, List.set_cons_succ]
                    refine wpAnyH_take (i := 6) (oi := { dst := some 85, op := Op.extract (Operand.tmp 79) 0, type := 30, pos := "exact.go:3751", after := #[{ on := 5, ground := Ground.data }], guard := none }) (v := ?_) rfl (by kernel_rfl) (by kernel_rfl) (by kernel_rfl) (fun _ _ _ h => h) (Or.inl ⟨by rfl, ?_⟩) (by assumption) ?_
                    rotate_left
                    · (intro wY hSw; (try dsimp only at hSw); go_simp; try with_reducible rfl)
                    simp only [Act.put, List.setIfInBounds_toArray, List.set_cons_zero, List.set_cons_succ]
                    refine wpAnyH_take (i := 7) (oi := { dst := some 86, op := Op.extract (Operand.tmp 79) 1, type := 4, pos := "exact.go:3751", after := #[{ on := 5, ground := Ground.data }, { on := 9, ground := Ground.gcOnly Departure.lateStores }], guard := none }) (v := ?_) rfl (by kernel_rfl) (by kernel_rfl) (by kernel_rfl) (fun _ _ _ h => h) (Or.inl ⟨by rfl, ?_⟩) (by assumption) ?_
                    rotate_left
                    · (intro wY hSw; (try dsimp only at hSw); go_simp; try with_reducible rfl)
                    simp only [Act.put, List.setIfInBounds_toArray, List.set_cons_zero, List.set_cons_succ]
                    refine wpAnyH_ready (rs := [9]) (by kernel_rfl) (by simp) ?_
                    refine AllReadyH.cons (o := { dst := none, op := Op.store 30 (Operand.tmp 14) (Operand.tmp 85), type := 0, pos := "exact.go:3751", after := #[{ on := 8, ground := Ground.data }, { on := 6, ground := Ground.data }, { on := 4, ground := Ground.chain }, { on := 0, ground := Ground.phase }, { on := 1, ground := Ground.phase }, { on := 2, ground := Ground.phase }, { on := 3, ground := Ground.phase }, { on := 4, ground := Ground.phase }, { on := 5, ground := Ground.phase }, { on := 6, ground := Ground.phase }, { on := 7, ground := Ground.textOnly Departure.lateStores }, { on := 8, ground := Ground.phase }], guard := none }) rfl (fun K hK => ?_) ?_
                    · obtain ⟨⟨b0, b1⟩, f0, f1⟩ := cells2 kB
                      go_simp
                      have vv := below_set (below_set vv gB 0 (.slice a3 n3 c3)) gB 1 (.slice o3 p3 q3)
                      have t3 := VOwn.setBox t3 kB (.slice a3 n3 c3) (.slice o3 p3 q3)
                      have kB := set_box2 kB (.slice a3 n3 c3) (.slice o3 p3 q3)
                      clear b0 b1 f0 f1
                      refine hK.out _ _ (⟨(cells2 (kept_block kA (gr_trans pS vv))).1, (cells3 (kept_block kR (gr_trans pS vv))).1⟩) (fun hHeld => ?_)
                      clear hK K
                      try simp only [Act.put, List.setIfInBounds_toArray, List.set_cons_zero, List.set_cons_succ]
                      refine wpAnyH_take (i := 10) (oi := { dst := some 15, op := Op.assign (Operand.tmp 86), type := 4, pos := "exact.go:3751", after := #[{ on := 7, ground := Ground.data }, { on := 9, ground := Ground.chain }, { on := 0, ground := Ground.phase }, { on := 1, ground := Ground.phase }, { on := 2, ground := Ground.phase }, { on := 3, ground := Ground.phase }, { on := 4, ground := Ground.phase }, { on := 5, ground := Ground.phase }, { on := 6, ground := Ground.phase }, { on := 7, ground := Ground.phase }, { on := 8, ground := Ground.phase }, { on := 9, ground := Ground.phase }], guard := none }) (v := ?_) rfl (by kernel_rfl) (by kernel_rfl) (by kernel_rfl) (fun _ _ _ h => h) (Or.inl ⟨by rfl, ?_⟩) (by assumption) ?_
                      rotate_left
                      · (intro wY hSw; (try dsimp only at hSw); go_simp; try with_reducible rfl)
                      simp only [Act.put, List.setIfInBounds_toArray, List.set_cons_zero, List.set_cons_succ]
                      refine wpAnyH_done (by kernel_rfl) ?_ _
                      clear hHeld
                      go_wp2_with fail
                      go_meet
                      exact ⟨_, _, _, _, _, _, _, rfl, rfl, gB, kB, t3, vv⟩
                    exact AllReadyH.nil
                  exact AllReadyH.nil
                exact AllReadyH.nil
              exact AllReadyH.nil
            exact AllReadyH.nil
          case rest =>
            obtain ⟨gH, a14, n14, c14, o14, p14, q14, rfl, rfl, -, kH, tH, hb⟩ := hcut
            have pS := gr_trans pS hb
            have tM := tM.below hb
            have kG := kept_block kG hb
            obtain ⟨⟨s0, s1⟩, -⟩ := cells2 (kept_block kS pS)
            obtain ⟨⟨h1, h2⟩, -⟩ := cells2 kH
            clear hb
            go_wp2_with fail
            refine (eqVtab_same _ _ _ _ _ _ _ _ _ _ _ _ V.1 _ tH.tab (tS.below pS).tab).mono ?_
            rintro e w15 ⟨rfl, hb⟩
            have pS := gr_trans pS hb
            have tM := tM.below hb
            have kG := kept_block kG hb
            clear hb tH s0 s1 h1 h2
            obtain ⟨⟨z0, z1⟩, -⟩ := cells2 kG
            go_wp2_with fail
            refine (heldVtab_any _ _ _ _ _ _ _ tM.tab NG.out.1 NG.out.2).mono ?_
            rintro e w16 ⟨rfl, hb⟩
            have HB := hide (gr_trans uS (gr_trans pS hb))
            clear hb z0 z1
            go_wp2
            go_ret
            exact ⟨rfl, HB.out⟩
        exact AllReadyH.nil
      exact AllReadyH.nil

theorem fnExactPutRow_own : ownKnob Try.prog.godebug = none := by kernel_rfl
theorem fnExactPutRow_laid : laidOutB Try.prog = true := by kernel_rfl

open Go.ChangeShapes Go.WideShapes Go.ChangeAt in
open Go.ChangeMaps (open_string shut_string) in
set_option maxRecDepth 100000 in
theorem fnExactPutRow_lifted (os : Os) (started : os.Started) (H : Type) (enc : TypeId × Value → H) :
    ReturnsInHanded {} Try.checked os 4 .any (Rows.fnExactPutRowSpec.pre6 enc Try.prog Try.f4 Rows.fnExactPutRowRow.domain false) (Rows.fnExactPutRowSpec.post enc Try.prog Try.f4 false true false false) := by
  refine returnsInHanded_of_change (C := Try.checked) fnExactPutRow_own started (by kernel_rfl) Try.func4
    (ChangeSpec.witness6 (enc := enc) (C := Try.checked) false ⟨#[], #[.agg #[.slice none 0 0, .slice none 0 0], .agg #[.int .i64 0, .int .i64 0, .int .i64 0]], []⟩ 8 (by kernel_rfl) (by kernel_rfl) (by kernel_rfl) (by kernel_rfl)) ?_
  intro W base args ds gs before hval0 hW hcnd _
  have hval : ∀ (j : Nat) t v, Try.f4.params[j]? = some t → args[j]? = some v → Value.okWide Try.prog W .any base t v := hval0
  have hW' := hW
  obtain ⟨p, q, hA0, hV, rfl, hfz, hnd⟩ := hW
  have hA : DataW.TrodAll enc Try.prog W 0 (fun _ => true) true Try.f4.params.toList args.toList ds p := hA0
  rw [Try.params4] at hA hval
  obtain ⟨v0, vs0, d0, ds0, p0, q0, hargs, rfl, rfl, h0, r0⟩ := trodAll_cons hA
  obtain ⟨v1, vs1, d1, ds1, p1, q1, rfl, rfl, rfl, h1, r1⟩ := trodAll_cons r0
  obtain ⟨rfl, rfl, rfl⟩ := trodAll_nil r1
  obtain rfl : args = #[v0, v1] := by cases args; simp_all
  obtain ⟨rfl, rfl⟩ := trodVars_none hV
  have k0 := h0
  have lt0 : ∀ x ∈ p0, x.block < W.heap.size := by obtain ⟨m, hm⟩ := k0; exact DataW.trod_lt m _ _ _ hm
  obtain ⟨a0, n0, c0, o0, pp0, qq0, z0, rfl, w0, g0⟩ := open_vtab Try.underlying25 (by kernel_rfl) (by kernel_rfl) rfl rfl Try.underlying22 Try.underlying23 Try.underlying35 Try.underlying3 ⟨rfl, rfl⟩ ⟨rfl, rfl⟩ ⟨rfl, rfl⟩ (by kernel_rfl) (by kernel_rfl) (hval 0 25 v0 rfl rfl) h0
  have k1 := h1
  have lt1 : ∀ x ∈ p1, x.block < W.heap.size := by obtain ⟨m, hm⟩ := k1; exact DataW.trod_lt m _ _ _ hm
  obtain ⟨y1, rfl, g1⟩ := open_vrow Try.underlying35 Try.underlying3 ⟨rfl, rfl⟩ ⟨rfl, rfl⟩ ⟨rfl, rfl⟩ (by kernel_rfl) (by kernel_rfl) (hval 1 35 v1 rfl rfl) h1
  clear hA0 hval0
  refine (exactPutRow_walk a0 n0 c0 o0 pp0 qq0 z0 y1 W w0 g0 g1).mono fun e W' ⟨he, bel⟩ => ?_
  subst he
  exact ⟨_, rfl, _, _, _, [], _, [], hW', trodAll_mk1 (shut_bool Try.underlying4 _), (trodAll_cons_mk (Below.trod fnExactPutRow_laid (by kernel_rfl) (of_decide_eq_true (by kernel_rfl)) k0 bel lt0) (trodAll_cons_mk (Below.trod fnExactPutRow_laid (by kernel_rfl) (of_decide_eq_true (by kernel_rfl)) k1 bel lt1) trodAll_mk0)), rfl, bel.frame _, fun h => by cases h⟩

theorem fnExactPutRow_holds : Rows.FnExactPutRowSaid :=
  OpenClaim.holds_of_wide 4 Try.f4 rfl rfl rfl rfl rfl rfl rfl ⟨rfl, rfl, rfl, rfl, rfl⟩ rfl rfl rfl rfl rfl (by kernel_rfl) Try.func4 (by kernel_rfl)
    (of_decide_eq_true (by kernel_rfl)) (by unfold Func.isWrapper; first | (rw [if_pos (by decide +kernel)]; kernel_rfl) | (rw [if_neg (by decide +kernel)]; exact ⟨rfl, rfl⟩))
    (fun os started H enc _ => fnExactPutRow_lifted os started H enc)

#print axioms fnExactPutRow_holds

end Go.Proofs.Ytafonmfgeecopab
