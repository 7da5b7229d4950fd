/-
  Which vector is the best, as the specification has it.
-/
import Derived.Test.YtmlcjdfnoipihaaPtOkS
import Derived.Test.YtmlcjdfnoipihaaMade
import Derived.Deep.CutRange
namespace Go.Proofs.Ytmlcjdfnoipihaa
open Go.RowKit

theorem box5_set {w : World} {g : Nat} {c0 c1 c2 c3 c4 : Value} {T : TypeId} (h : w.heap[g]? = some (.cells #[c0, c1, c2, c3, c4] T)) (u0 u1 u2 u3 u4 : Value) : (((((w.setCell ⟨g, 0, none⟩ u0).setCell ⟨g, 1, none⟩ u1).setCell ⟨g, 2, none⟩ u2).setCell ⟨g, 3, none⟩ u3).setCell ⟨g, 4, none⟩ u4).heap[g]? = some (.cells #[u0, u1, u2, u3, u4] T) :=
  set_block5 (j := 4) (set_block5 (j := 3) (set_block5 (j := 2) (set_block5 (j := 1) (set_block5 (j := 0) h u0) u1) u2) u3) u4

theorem kept_set5 {w : World} {i g : Nat} {o : Obj} (h : w.heap[i]? = some o) (hne : i ≠ g) (u0 u1 u2 u3 u4 : Value) : (((((w.setCell ⟨g, 0, none⟩ u0).setCell ⟨g, 1, none⟩ u1).setCell ⟨g, 2, none⟩ u2).setCell ⟨g, 3, none⟩ u3).setCell ⟨g, 4, none⟩ u4).heap[i]? = some o :=
  kept_set (kept_set (kept_set (kept_set (kept_set h hne) hne) hne) hne) hne

/-- While the best is looked for: the result's box, the best, and whence it came. -/
structure BvSt (w W : World) (v f : VD) : Prop where
  res : W.heap[w.heap.size]? = some (.cells #[.int .i64 0, .int .i64 0, .int .i64 0, .int .i64 0, .int .i64 0] 28)
  best : W.heap[w.heap.size + 1]? = some (.cells #[.int .i64 v.r, .int .i64 v.c, .int .i64 v.h, .int .i64 v.b, .int .i64 v.p] 28)
  frm : W.heap[w.heap.size + 1 + 1]? = some (.cells #[.int .i64 f.r, .int .i64 f.c, .int .i64 f.h, .int .i64 f.b, .int .i64 f.p] 28)
  below : Below w.heap.size w W

theorem BvSt.later {w W W' : World} {v f : VD} (h : BvSt w W v f) (hb : Below W.heap.size W W') : BvSt w W' v f :=
  ⟨kept_block h.res hb, kept_block h.best hb, kept_block h.frm hb, gr_trans h.below hb⟩

theorem BvSt.setBest {w W : World} {v f : VD} (h : BvSt w W v f) (u : VD) : BvSt w (((((W.setCell ⟨w.heap.size + 1, 0, none⟩ (.int .i64 u.r)).setCell ⟨w.heap.size + 1, 1, none⟩ (.int .i64 u.c)).setCell ⟨w.heap.size + 1, 2, none⟩ (.int .i64 u.h)).setCell ⟨w.heap.size + 1, 3, none⟩ (.int .i64 u.b)).setCell ⟨w.heap.size + 1, 4, none⟩ (.int .i64 u.p)) u f :=
  ⟨kept_set5 h.res (by omega) _ _ _ _ _, box5_set h.best _ _ _ _ _, kept_set5 h.frm (by omega) _ _ _ _ _, below_set5 h.below (by omega) _ _ _ _ _⟩

theorem BvSt.setFrom {w W : World} {v f : VD} (h : BvSt w W v f) (u : VD) : BvSt w (((((W.setCell ⟨w.heap.size + 1 + 1, 0, none⟩ (.int .i64 u.r)).setCell ⟨w.heap.size + 1 + 1, 1, none⟩ (.int .i64 u.c)).setCell ⟨w.heap.size + 1 + 1, 2, none⟩ (.int .i64 u.h)).setCell ⟨w.heap.size + 1 + 1, 3, none⟩ (.int .i64 u.b)).setCell ⟨w.heap.size + 1 + 1, 4, none⟩ (.int .i64 u.p)) v u :=
  ⟨kept_set5 h.res (by omega) _ _ _ _ _, kept_set5 h.best (by omega) _ _ _ _ _, box5_set h.frm _ _ _ _ _, below_set5 h.below (by omega) _ _ _ _ _⟩

set_option maxRecDepth 100000 in
set_option maxHeartbeats 4000000 in
theorem specBestVec_any (id : Int) (a : Option Addr) (n c : Nat) (l : List PT) (w : World) (h : GRow ptF w a n c l) :
    Calls Try.prog 19 #[.int .i64 id, .slice a n c] w fun e w' => e = .returned (.tuple #[.agg #[.int .i64 (bestV id (bestOf id l)).r, .int .i64 (bestV id (bestOf id l)).c, .int .i64 (bestV id (bestOf id l)).h, .int .i64 (bestV id (bestOf id l)).b, .int .i64 (bestV id (bestOf id l)).p], .int .i64 (bestP (bestOf id l))]) ∧ Below w.heap.size w w' := by
  have hle := h.le
  have htop := h.top
  unfold maxLen at htop
  have hsz := hide h.size
  go_enter Try.func19, Try.ntmps19
  go_wp2_with fail
  generalize hw3 : ((w.alloc (Obj.cells #[.int .i64 0, .int .i64 0, .int .i64 0, .int .i64 0, .int .i64 0] 28)).alloc (Obj.cells #[.int .i64 id, .int .i64 0, .int .i64 0, .int .i64 id, .int .i64 0] 28)).alloc (Obj.cells #[.int .i64 0, .int .i64 0, .int .i64 0, .int .i64 0, .int .i64 0] 28) = w3
  have st3 : BvSt w w3 (bestV id none) (fromV none) := by
    subst hw3
    obtain ⟨k0, k1, k2⟩ := kept_three (Below.refl _ (((w.alloc (Obj.cells #[.int .i64 0, .int .i64 0, .int .i64 0, .int .i64 0, .int .i64 0] 28)).alloc (Obj.cells #[.int .i64 id, .int .i64 0, .int .i64 0, .int .i64 id, .int .i64 0] 28)).alloc (Obj.cells #[.int .i64 0, .int .i64 0, .int .i64 0, .int .i64 0, .int .i64 0] 28)))
    exact ⟨k0, k1, k2, below_three _ _ _ _⟩
  clear hw3
  go_loopw [8, 9] (fun p i wr => ∃ (k : Nat) (s : Option (VD × Nat)), k ≤ n ∧ i = .int .i64 k ∧ p = .int .i64 (bestP s) ∧ bestTo id l k = s ∧ BvSt w wr (bestV id s) (fromV s)) (fun _ i _ => n - (intOf i).toNat)
  case atStart => exact ⟨0, none, Nat.zero_le _, rfl, rfl, rfl, st3⟩
  case round =>
    obtain ⟨k, s, hk, rfl, rfl, hs, st⟩ := hrel
    obtain ⟨bv, hbv⟩ : ∃ y, y = bestV id s := ⟨_, rfl⟩
    obtain ⟨fv, hfv⟩ : ∃ y, y = fromV s := ⟨_, rfl⟩
    have BACK : Hid (∀ W, BvSt w W bv fv → BvSt w W (bestV id s) (fromV s)) := hide (by subst hbv hfv; exact fun W h => h)
    rw [← hbv, ← hfv] at st
    have HBV := hide hbv
    have HFV := hide hfv
    clear hbv hfv
    by_cases hlt : k < n
    · obtain ⟨x, b, off, hx, rfl, c0, c1, c2, c3, c4, c5, c6, c7⟩ := pt_at (h.below st.below) k hlt
      have hnx := bestTo_next (id := id) hx
      rw [hs] at hnx
      have i1 : (0 : Int) ≤ (k : Int) := by omega
      have i2 : (k : Int) < (n : Int) := by omega
      have NX := hide hnx
      clear hs hnx hx
      cases hu : x.up
      · rw [hu] at c0
        have HE := hide (NX.out.trans (bestStep_no (by unfold offers; rw [hu]; rfl)))
        clear hu c1 c2 c3 c4 c5 c6 c7
        go_wp2
        go_roundw
        case rel => exact ⟨k + 1, s, by omega, by go_num, rfl, HE.out, BACK.out _ st⟩
        case measure => simp [intOf]; omega
      cases hh : x.has
      · rw [hu] at c0
        rw [hh] at c2
        have HE := hide (NX.out.trans (bestStep_no (by unfold offers; rw [hu, hh]; rfl)))
        clear hu hh c1 c3 c4 c5 c6 c7
        go_wp2
        go_roundw
        case rel => exact ⟨k + 1, s, by omega, by go_num, rfl, HE.out, BACK.out _ st⟩
        case measure => simp [intOf]; omega
      rw [hu] at c0
      rw [hh] at c2
      have HUH : Hid (x.up = true ∧ x.has = true) := hide ⟨hu, hh⟩
      have HSS : Hid (∀ W', Below wr.heap.size wr W' → W'.cell? ⟨b, off + k * 8 + 1, none⟩ = some (.int .i64 x.k) ∧ W'.cell? ⟨b, off + k * 8 + 3, none⟩ = some (.int .i64 x.v.r) ∧ W'.cell? ⟨b, off + k * 8 + 4, none⟩ = some (.int .i64 x.v.c) ∧ W'.cell? ⟨b, off + k * 8 + 5, none⟩ = some (.int .i64 x.v.h) ∧ W'.cell? ⟨b, off + k * 8 + 6, none⟩ = some (.int .i64 x.v.b) ∧ W'.cell? ⟨b, off + k * 8 + 7, none⟩ = some (.int .i64 x.v.p)) := hide (fun W' hb => ⟨(hb.cell (block_lt c1)).trans c1, (hb.cell (block_lt c3)).trans c3, (hb.cell (block_lt c4)).trans c4, (hb.cell (block_lt c5)).trans c5, (hb.cell (block_lt c6)).trans c6, (hb.cell (block_lt c7)).trans c7⟩)
      obtain ⟨q, hq⟩ : ∃ q, stepOk x.v.r x.v.c x.v.h x.v.b x.v.p x.k = q := ⟨_, rfl⟩
      obtain ⟨u, hu'⟩ : ∃ u, u = (if q = true then stepV x.v x.k else x.v) := ⟨_, rfl⟩
      have HST := hide hq
      have HQ : Hid ((if q = true then Value.agg #[.int .i64 x.v.r, .int .i64 (x.v.c + x.k), .int .i64 (x.v.h + 1), .int .i64 x.v.b, .int .i64 x.v.p] else Value.agg #[.int .i64 x.v.r, .int .i64 x.v.c, .int .i64 x.v.h, .int .i64 x.v.b, .int .i64 x.v.p]) = .agg #[.int .i64 u.r, .int .i64 u.c, .int .i64 u.h, .int .i64 u.b, .int .i64 u.p]) := hide (by subst hu'; cases q <;> rfl)
      have HU := hide hu'
      have ST := hide st
      clear hq hu' hu hh c1 c3 c4 c5 c6 c7
      go_upto_region 8 with fail
      clear c0 c2
      go_cut [10, 11] from 16 to 75 (fun s10 s11 wx => ∃ g : Nat, s10 = .pointer (some ⟨g, 0, none⟩) ∧ s11 = .bool q ∧ wr.heap.size ≤ g ∧ wx.heap[g]? = some (.cells #[.int .i64 u.r, .int .i64 u.c, .int .i64 u.h, .int .i64 u.b, .int .i64 u.p] 28) ∧ Below wr.heap.size wr wx)
      case first =>
        have vv : Below wr.heap.size wr wr.drew := gr_drew (Below.refl _ _)
        go_wp2_with fail
        refine wp_region_held_drew (S := (fun W => W.cell? ⟨b, off + k * 8 + 1, none⟩ = some (.int .i64 x.k) ∧ W.cell? ⟨b, off + k * 8 + 3, none⟩ = some (.int .i64 x.v.r) ∧ W.cell? ⟨b, off + k * 8 + 4, none⟩ = some (.int .i64 x.v.c) ∧ W.cell? ⟨b, off + k * 8 + 5, none⟩ = some (.int .i64 x.v.h) ∧ W.cell? ⟨b, off + k * 8 + 6, none⟩ = some (.int .i64 x.v.b) ∧ W.cell? ⟨b, off + k * 8 + 7, none⟩ = some (.int .i64 x.v.p))) (by kernel_rfl) (HSS.out _ vv) (fun hHeld => ?_)
        refine wpAnyH_take (i := 0) (oi := { dst := some 37, op := Op.move (Operand.tmp 1), type := 24, pos := "l10_role.go:23", after := #[], guard := none }) (v := ?_) rfl (by kernel_rfl) (by kernel_rfl) (by kernel_rfl) (fun _ _ _ h => h) (Or.inl ⟨by rfl, ?_⟩) (by assumption) ?_
        rotate_left
        · (intro wY hSw; (try dsimp only at hSw); go_simp; try with_reducible rfl)
        simp only [Act.put, List.setIfInBounds_toArray, List.set_cons_zero, List.set_cons_succ]
        refine wpAnyH_take (i := 1) (oi := { dst := some 38, op := Op.move (Operand.tmp 9), type := 3, pos := "l10_role.go:23", after := #[], guard := none }) (v := ?_) rfl (by kernel_rfl) (by kernel_rfl) (by kernel_rfl) (fun _ _ _ h => h) (Or.inl ⟨by rfl, ?_⟩) (by assumption) ?_
        rotate_left
        · (intro wY hSw; (try dsimp only at hSw); go_simp; try with_reducible rfl)
        simp only [Act.put, List.setIfInBounds_toArray, List.set_cons_zero, List.set_cons_succ]
        refine wpAnyH_take (i := 2) (oi := { dst := some 39, op := Op.indexAddr 24 (Operand.tmp 37) (Operand.tmp 38), type := 0, pos := "l10_role.go:23", after := #[{ on := 0, ground := Ground.data }, { on := 1, ground := Ground.data }], guard := none }) (v := ?_) rfl (by kernel_rfl) (by kernel_rfl) (by kernel_rfl) (fun _ _ _ h => h) (Or.inl ⟨by rfl, ?_⟩) (by assumption) ?_
        rotate_left
        · (intro wY hSw; (try dsimp only at hSw); go_simp; try with_reducible rfl)
        simp only [Act.put, List.setIfInBounds_toArray, List.set_cons_zero, List.set_cons_succ]
        refine wpAnyH_take (i := 3) (oi := { dst := some 40, op := Op.fieldAddr 33 (Operand.tmp 39) 3, type := 0, pos := "l10_role.go:23", after := #[{ on := 2, ground := Ground.data }], guard := none }) (v := ?_) rfl (by kernel_rfl) (by kernel_rfl) (by kernel_rfl) (fun _ _ _ h => h) (Or.inl ⟨by rfl, ?_⟩) (by assumption) ?_
        rotate_left
        · (intro wY hSw; (try dsimp only at hSw); go_simp; try with_reducible rfl)
        simp only [Act.put, List.setIfInBounds_toArray, List.set_cons_zero, List.set_cons_succ]
        refine wpAnyH_take (i := 4) (oi := { dst := some 41, op := Op.load 28 (Operand.tmp 40), type := 28, pos := "l10_role.go:23", after := #[{ on := 3, ground := Ground.data }], guard := none }) (v := ?_) rfl (by kernel_rfl) (by kernel_rfl) (by kernel_rfl) (fun _ _ _ h => h) (Or.inl ⟨by rfl, ?_⟩) (by assumption) ?_
        rotate_left
        · (intro wY hSw; (try dsimp only at hSw); go_simp; try with_reducible rfl)
        simp only [Act.put, List.setIfInBounds_toArray, List.set_cons_zero, List.set_cons_succ]
        refine wpAnyH_take (i := 5) (oi := { dst := some 42, op := Op.move (Operand.tmp 1), type := 24, pos := "l10_role.go:23", after := #[], guard := none }) (v := ?_) rfl (by kernel_rfl) (by kernel_rfl) (by kernel_rfl) (fun _ _ _ h => h) (Or.inl ⟨by rfl, ?_⟩) (by assumption) ?_
        rotate_left
        · (intro wY hSw; (try dsimp only at hSw); go_simp; try with_reducible rfl)
        simp only [Act.put, List.setIfInBounds_toArray, List.set_cons_zero, List.set_cons_succ]
        refine wpAnyH_take (i := 6) (oi := { dst := some 43, op := Op.move (Operand.tmp 9), type := 3, pos := "l10_role.go:23", after := #[], guard := none }) (v := ?_) rfl (by kernel_rfl) (by kernel_rfl) (by kernel_rfl) (fun _ _ _ h => h) (Or.inl ⟨by rfl, ?_⟩) (by assumption) ?_
        rotate_left
        · (intro wY hSw; (try dsimp only at hSw); go_simp; try with_reducible rfl)
        simp only [Act.put, List.setIfInBounds_toArray, List.set_cons_zero, List.set_cons_succ]
        refine wpAnyH_take (i := 7) (oi := { dst := some 44, op := Op.indexAddr 24 (Operand.tmp 42) (Operand.tmp 43), type := 0, pos := "l10_role.go:23", after := #[{ on := 5, ground := Ground.data }, { on := 6, ground := Ground.data }], guard := none }) (v := ?_) rfl (by kernel_rfl) (by kernel_rfl) (by kernel_rfl) (fun _ _ _ h => h) (Or.inl ⟨by rfl, ?_⟩) (by assumption) ?_
        rotate_left
        · (intro wY hSw; (try dsimp only at hSw); go_simp; try with_reducible rfl)
        simp only [Act.put, List.setIfInBounds_toArray, List.set_cons_zero, List.set_cons_succ]
        refine wpAnyH_take (i := 8) (oi := { dst := some 45, op := Op.fieldAddr 33 (Operand.tmp 44) 1, type := 0, pos := "l10_role.go:23", after := #[{ on := 7, ground := Ground.data }], guard := none }) (v := ?_) rfl (by kernel_rfl) (by kernel_rfl) (by kernel_rfl) (fun _ _ _ h => h) (Or.inl ⟨by rfl, ?_⟩) (by assumption) ?_
        rotate_left
        · (intro wY hSw; (try dsimp only at hSw); go_simp; try with_reducible rfl)
        simp only [Act.put, List.setIfInBounds_toArray, List.set_cons_zero, List.set_cons_succ]
        refine wpAnyH_take (i := 9) (oi := { dst := some 46, op := Op.load 3 (Operand.tmp 45), type := 3, pos := "l10_role.go:23", after := #[{ on := 8, ground := Ground.data }], guard := none }) (v := ?_) rfl (by kernel_rfl) (by kernel_rfl) (by kernel_rfl) (fun _ _ _ h => h) (Or.inl ⟨by rfl, ?_⟩) (by assumption) ?_
        rotate_left
        · (intro wY hSw; (try dsimp only at hSw); go_simp; try with_reducible rfl)
        simp only [Act.put, List.setIfInBounds_toArray, List.set_cons_zero, List.set_cons_succ]
        refine wpAnyH_ready (rs := [10, 14]) (by kernel_rfl) (by simp) ?_
        refine AllReadyH.cons (o := { dst := some 47, op := Op.call { callee := Callee.value (Operand.func 42), args := #[Operand.tmp 41, Operand.tmp 46], argTypes := #[28, 3] }, type := 36, pos := "l10_role.go:23", after := #[{ on := 4, ground := Ground.data }, { on := 9, ground := Ground.data }], guard := none }) rfl (fun K hK => ?_) ?_
        · go_simp
          refine (specStepVec_any x.v.r x.v.c x.v.h x.v.b x.v.p x.k _).mono ?_
          rintro e wx ⟨rfl, hbx⟩
          rw [HST.out, HQ.out]
          try have kB := kept_block kB hbx
          have vv := gr_trans vv hbx
          clear hbx
          go_wp2_with fail
          refine hK.out _ _ (HSS.out _ vv) (fun hHeld => ?_)
          clear hK K
          try simp only [Act.put, List.setIfInBounds_toArray, List.set_cons_zero, List.set_cons_succ]
          refine wpAnyH_take (i := 11) (oi := { dst := some 36, op := Op.move (Operand.tmp 47), type := 36, pos := "l10_role.go:23", after := #[{ on := 10, ground := Ground.data }], guard := none }) (v := ?_) rfl (by kernel_rfl) (by kernel_rfl) (by kernel_rfl) (fun _ _ _ h => h) (Or.inl ⟨by rfl, ?_⟩) (by assumption) ?_
          rotate_left
          · (intro wY hSw; (try dsimp only at hSw); go_simp; try with_reducible rfl)
          simp only [Act.put, List.setIfInBounds_toArray, List.set_cons_zero, List.set_cons_succ]
          refine wpAnyH_take (i := 12) (oi := { dst := some 48, op := Op.extract (Operand.tmp 36) 0, type := 28, pos := "l10_role.go:23", after := #[{ on := 11, ground := Ground.data }], guard := none }) (v := ?_) rfl (by kernel_rfl) (by kernel_rfl) (by kernel_rfl) (fun _ _ _ h => h) (Or.inl ⟨by rfl, ?_⟩) (by assumption) ?_
          rotate_left
          · (intro wY hSw; (try dsimp only at hSw); go_simp; try with_reducible rfl)
          simp only [Act.put, List.setIfInBounds_toArray, List.set_cons_zero, List.set_cons_succ]
          refine wpAnyH_take (i := 13) (oi := { dst := some 49, op := Op.extract (Operand.tmp 36) 1, type := 4, pos := "l10_role.go:23", after := #[{ on := 11, ground := Ground.data }, { on := 15, ground := Ground.gcOnly Departure.lateStores }], guard := none }) (v := ?_) rfl (by kernel_rfl) (by kernel_rfl) (by kernel_rfl) (fun _ _ _ h => h) (Or.inl ⟨by rfl, ?_⟩) (by assumption) ?_
          rotate_left
          · (intro wY hSw; (try dsimp only at hSw); go_simp; try with_reducible rfl)
          simp only [Act.put, List.setIfInBounds_toArray, List.set_cons_zero, List.set_cons_succ]
          refine wpAnyH_ready (rs := [14]) (by kernel_rfl) (by simp) ?_
          refine AllReadyH.cons (o := { dst := some 10, op := Op.alloc 28, type := 0, pos := "l10_role.go:23", after := #[], guard := none }) rfl (fun K hK => ?_) ?_
          · go_simp
            first
            | refine made_new (K := K _) (fun wx kB hbx => ?_)
            | refine made_drew (K := K _) (fun wx kB hbx => ?_)
            have gB := vv.size
            have vv := gr_trans vv hbx
            clear hbx
            refine hK.out _ _ (HSS.out _ vv) (fun hHeld => ?_)
            clear hK K
            try simp only [Act.put, List.setIfInBounds_toArray, List.set_cons_zero, List.set_cons_succ]
            refine wpAnyH_ready (rs := [15]) (by kernel_rfl) (by simp) ?_
            refine AllReadyH.cons (o := { dst := none, op := Op.store 28 (Operand.tmp 10) (Operand.tmp 48), type := 0, pos := "l10_role.go:23", after := #[{ on := 14, ground := Ground.data }, { on := 12, ground := Ground.data }, { on := 10, ground := Ground.chain }, { on := 0, ground := Ground.phase }, { on := 1, ground := Ground.phase }, { on := 2, ground := Ground.phase }, { on := 3, ground := Ground.phase }, { on := 4, ground := Ground.phase }, { on := 5, ground := Ground.phase }, { on := 6, ground := Ground.phase }, { on := 7, ground := Ground.phase }, { on := 8, ground := Ground.phase }, { on := 9, ground := Ground.phase }, { on := 10, ground := Ground.phase }, { on := 11, ground := Ground.phase }, { on := 12, ground := Ground.phase }, { on := 13, ground := Ground.textOnly Departure.lateStores }, { on := 14, ground := Ground.phase }], guard := none }) rfl (fun K hK => ?_) ?_
            · obtain ⟨⟨b0, b1, b2, b3, b4⟩, f0, f1, f2, f3, f4⟩ := cells5 kB
              go_simp
              have vv := below_set5 vv gB (.int .i64 u.r) (.int .i64 u.c) (.int .i64 u.h) (.int .i64 u.b) (.int .i64 u.p)
              have kB := box5_set kB (.int .i64 u.r) (.int .i64 u.c) (.int .i64 u.h) (.int .i64 u.b) (.int .i64 u.p)
              clear b0 b1 b2 b3 b4 f0 f1 f2 f3 f4
              refine hK.out _ _ (HSS.out _ vv) (fun hHeld => ?_)
              clear hK K
              try simp only [Act.put, List.setIfInBounds_toArray, List.set_cons_zero, List.set_cons_succ]
              refine wpAnyH_take (i := 16) (oi := { dst := some 11, op := Op.assign (Operand.tmp 49), type := 4, pos := "l10_role.go:23", after := #[{ on := 13, ground := Ground.data }, { on := 15, ground := Ground.chain }, { on := 0, ground := Ground.phase }, { on := 1, ground := Ground.phase }, { on := 2, ground := Ground.phase }, { on := 3, ground := Ground.phase }, { on := 4, ground := Ground.phase }, { on := 5, ground := Ground.phase }, { on := 6, ground := Ground.phase }, { on := 7, ground := Ground.phase }, { on := 8, ground := Ground.phase }, { on := 9, ground := Ground.phase }, { on := 10, ground := Ground.phase }, { on := 11, ground := Ground.phase }, { on := 12, ground := Ground.phase }, { on := 13, ground := Ground.phase }, { on := 14, ground := Ground.phase }, { on := 15, ground := Ground.phase }], guard := none }) (v := ?_) rfl (by kernel_rfl) (by kernel_rfl) (by kernel_rfl) (fun _ _ _ h => h) (Or.inl ⟨by rfl, ?_⟩) (by assumption) ?_
              rotate_left
              · (intro wY hSw; (try dsimp only at hSw); go_simp; try with_reducible rfl)
              simp only [Act.put, List.setIfInBounds_toArray, List.set_cons_zero, List.set_cons_succ]
              refine wpAnyH_done (by kernel_rfl) ?_ _
              clear hHeld
              go_wp2_with fail
              go_meet
              exact ⟨_, rfl, rfl, gB, kB, vv⟩
            exact AllReadyH.nil
          exact AllReadyH.nil
        refine AllReadyH.cons (o := { dst := some 10, op := Op.alloc 28, type := 0, pos := "l10_role.go:23", after := #[], guard := none }) rfl (fun K hK => ?_) ?_
        · go_simp
          first
          | refine made_new (K := K _) (fun wx kB hbx => ?_)
          | refine made_drew (K := K _) (fun wx kB hbx => ?_)
          have gB := vv.size
          have vv := gr_trans vv hbx
          clear hbx
          refine hK.out _ _ (HSS.out _ vv) (fun hHeld => ?_)
          clear hK K
          try simp only [Act.put, List.setIfInBounds_toArray, List.set_cons_zero, List.set_cons_succ]
          refine wpAnyH_ready (rs := [10]) (by kernel_rfl) (by simp) ?_
          refine AllReadyH.cons (o := { dst := some 47, op := Op.call { callee := Callee.value (Operand.func 42), args := #[Operand.tmp 41, Operand.tmp 46], argTypes := #[28, 3] }, type := 36, pos := "l10_role.go:23", after := #[{ on := 4, ground := Ground.data }, { on := 9, ground := Ground.data }], guard := none }) rfl (fun K hK => ?_) ?_
          · go_simp
            refine (specStepVec_any x.v.r x.v.c x.v.h x.v.b x.v.p x.k _).mono ?_
            rintro e wx ⟨rfl, hbx⟩
            rw [HST.out, HQ.out]
            try have kB := kept_block kB hbx
            have vv := gr_trans vv hbx
            clear hbx
            go_wp2_with fail
            refine hK.out _ _ (HSS.out _ vv) (fun hHeld => ?_)
            clear hK K
            try simp only [Act.put, List.setIfInBounds_toArray, List.set_cons_zero, List.set_cons_succ]
            refine wpAnyH_take (i := 11) (oi := { dst := some 36, op := Op.move (Operand.tmp 47), type := 36, pos := "l10_role.go:23", after := #[{ on := 10, ground := Ground.data }], guard := none }) (v := ?_) rfl (by kernel_rfl) (by kernel_rfl) (by kernel_rfl) (fun _ _ _ h => h) (Or.inl ⟨by rfl, ?_⟩) (by assumption) ?_
            rotate_left
            · (intro wY hSw; (try dsimp only at hSw); go_simp; try with_reducible rfl)
            simp only [Act.put, List.setIfInBounds_toArray, List.set_cons_zero, List.set_cons_succ]
            refine wpAnyH_take (i := 12) (oi := { dst := some 48, op := Op.extract (Operand.tmp 36) 0, type := 28, pos := "l10_role.go:23", after := #[{ on := 11, ground := Ground.data }], guard := none }) (v := ?_) rfl (by kernel_rfl) (by kernel_rfl) (by kernel_rfl) (fun _ _ _ h => h) (Or.inl ⟨by rfl, ?_⟩) (by assumption) ?_
            rotate_left
            · (intro wY hSw; (try dsimp only at hSw); go_simp; try with_reducible rfl)
            simp only [Act.put, List.setIfInBounds_toArray, List.set_cons_zero, List.set_cons_succ]
            refine wpAnyH_take (i := 13) (oi := { dst := some 49, op := Op.extract (Operand.tmp 36) 1, type := 4, pos := "l10_role.go:23", after := #[{ on := 11, ground := Ground.data }, { on := 15, ground := Ground.gcOnly Departure.lateStores }], guard := none }) (v := ?_) rfl (by kernel_rfl) (by kernel_rfl) (by kernel_rfl) (fun _ _ _ h => h) (Or.inl ⟨by rfl, ?_⟩) (by assumption) ?_
            rotate_left
            · (intro wY hSw; (try dsimp only at hSw); go_simp; try with_reducible rfl)
            simp only [Act.put, List.setIfInBounds_toArray, List.set_cons_zero, List.set_cons_succ]
            refine wpAnyH_ready (rs := [15]) (by kernel_rfl) (by simp) ?_
            refine AllReadyH.cons (o := { dst := none, op := Op.store 28 (Operand.tmp 10) (Operand.tmp 48), type := 0, pos := "l10_role.go:23", after := #[{ on := 14, ground := Ground.data }, { on := 12, ground := Ground.data }, { on := 10, ground := Ground.chain }, { on := 0, ground := Ground.phase }, { on := 1, ground := Ground.phase }, { on := 2, ground := Ground.phase }, { on := 3, ground := Ground.phase }, { on := 4, ground := Ground.phase }, { on := 5, ground := Ground.phase }, { on := 6, ground := Ground.phase }, { on := 7, ground := Ground.phase }, { on := 8, ground := Ground.phase }, { on := 9, ground := Ground.phase }, { on := 10, ground := Ground.phase }, { on := 11, ground := Ground.phase }, { on := 12, ground := Ground.phase }, { on := 13, ground := Ground.textOnly Departure.lateStores }, { on := 14, ground := Ground.phase }], guard := none }) rfl (fun K hK => ?_) ?_
            · obtain ⟨⟨b0, b1, b2, b3, b4⟩, f0, f1, f2, f3, f4⟩ := cells5 kB
              go_simp
              have vv := below_set5 vv gB (.int .i64 u.r) (.int .i64 u.c) (.int .i64 u.h) (.int .i64 u.b) (.int .i64 u.p)
              have kB := box5_set kB (.int .i64 u.r) (.int .i64 u.c) (.int .i64 u.h) (.int .i64 u.b) (.int .i64 u.p)
              clear b0 b1 b2 b3 b4 f0 f1 f2 f3 f4
              refine hK.out _ _ (HSS.out _ vv) (fun hHeld => ?_)
              clear hK K
              try simp only [Act.put, List.setIfInBounds_toArray, List.set_cons_zero, List.set_cons_succ]
              refine wpAnyH_take (i := 16) (oi := { dst := some 11, op := Op.assign (Operand.tmp 49), type := 4, pos := "l10_role.go:23", after := #[{ on := 13, ground := Ground.data }, { on := 15, ground := Ground.chain }, { on := 0, ground := Ground.phase }, { on := 1, ground := Ground.phase }, { on := 2, ground := Ground.phase }, { on := 3, ground := Ground.phase }, { on := 4, ground := Ground.phase }, { on := 5, ground := Ground.phase }, { on := 6, ground := Ground.phase }, { on := 7, ground := Ground.phase }, { on := 8, ground := Ground.phase }, { on := 9, ground := Ground.phase }, { on := 10, ground := Ground.phase }, { on := 11, ground := Ground.phase }, { on := 12, ground := Ground.phase }, { on := 13, ground := Ground.phase }, { on := 14, ground := Ground.phase }, { on := 15, ground := Ground.phase }], guard := none }) (v := ?_) rfl (by kernel_rfl) (by kernel_rfl) (by kernel_rfl) (fun _ _ _ h => h) (Or.inl ⟨by rfl, ?_⟩) (by assumption) ?_
              rotate_left
              · (intro wY hSw; (try dsimp only at hSw); go_simp; try with_reducible rfl)
              simp only [Act.put, List.setIfInBounds_toArray, List.set_cons_zero, List.set_cons_succ]
              refine wpAnyH_done (by kernel_rfl) ?_ _
              clear hHeld
              go_wp2_with fail
              go_meet
              exact ⟨_, rfl, rfl, gB, kB, vv⟩
            exact AllReadyH.nil
          exact AllReadyH.nil
        exact AllReadyH.nil
      case rest =>
        obtain ⟨g, rfl, rfl, hg, kX, hb⟩ := hcut
        obtain ⟨wS, hwS⟩ : ∃ x, x = wc := ⟨_, rfl⟩
        subst hwS
        have st := ST.out.later hb
        have hz := ST.out.frm
        have hlt2 := (Array.getElem?_eq_some_iff.1 hz).1
        have ne1 : ¬ g = w.heap.size + 1 + 1 := by omega
        have ne2 : ¬ w.heap.size + 1 + 1 = g := by omega
        have ne3 : ¬ g = w.heap.size + 1 := by omega
        have ne4 : ¬ w.heap.size + 1 = g := by omega
        obtain ⟨⟨x0, x1, x2, x3, x4⟩, -⟩ := cells5 kX
        have KX := hide kX
        clear hb hz hlt2 hg kX
        cases q
        · have HE := hide (NX.out.trans (bestStep_no (by unfold offers stepsV; rw [HST.out]; simp)))
          go_wp2
          go_roundw
          case rel => exact ⟨k + 1, s, by omega, by go_num, rfl, HE.out, BACK.out _ st⟩
          case measure => simp [intOf]; omega
        have hur : u.r = x.v.r := by rw [HU.out]; rfl
        cases hlr : decide (u.r < id)
        · have HE := hide (NX.out.trans (bestStep_no (by unfold offers; rw [← hur, hlr]; simp)))
          have hlr : ¬ u.r < id := by simpa using hlr
          clear hur
          go_wp2
          go_roundw
          case rel => exact ⟨k + 1, s, by omega, by go_num, rfl, HE.out, BACK.out _ st⟩
          case measure => simp [intOf]; omega
        have ho : offers id x = true := by unfold offers stepsV; rw [HUH.out.1, HUH.out.2, HST.out, ← hur, hlr]; rfl
        have hlr : u.r < id := by simpa using hlr
        have huu : stepV x.v x.k = u := HU.out.symm
        have HO := hide ho
        have HUU := hide huu
        clear hur ho huu
        clear ne3 ne4
        cases s with
        | none =>
          have HE : Hid (bestTo id l (k + 1) = some (u, k)) := hide (by rw [NX.out]; unfold bestStep; rw [if_pos HO.out, HUU.out])
          rw [show bestP none = -1 from rfl]
          have SL := hide st
          obtain ⟨⟨z0, z1, z2, z3, z4⟩, v0, v1, v2, v3, v4⟩ := cells5 st.frm
          clear st
          go_upto_region 11 with fail
          generalize hwf : ((((wS.setCell ⟨w.heap.size + 1 + 1, 0, none⟩ (.int .i64 u.r)).setCell ⟨w.heap.size + 1 + 1, 1, none⟩ (.int .i64 u.c)).setCell ⟨w.heap.size + 1 + 1, 2, none⟩ (.int .i64 u.h)).setCell ⟨w.heap.size + 1 + 1, 3, none⟩ (.int .i64 u.b)).setCell ⟨w.heap.size + 1 + 1, 4, none⟩ (.int .i64 u.p) = wf
          have stf : BvSt w wf bv u := by rw [← hwf]; exact SL.out.setFrom u
          have kf : wf.heap[g]? = some (.cells #[.int .i64 u.r, .int .i64 u.c, .int .i64 u.h, .int .i64 u.b, .int .i64 u.p] 28) := by rw [← hwf]; exact kept_set5 KX.out (by omega) _ _ _ _ _
          clear hwf x0 x1 x2 x3 x4 v0 v1 v2 v3 v4 z0 z1 z2 z3 z4
          obtain ⟨⟨x0, x1, x2, x3, x4⟩, -⟩ := cells5 kf
          obtain ⟨⟨n0, n1, n2, n3, n4⟩, m0, m1, m2, m3, m4⟩ := cells5 stf.best
          have HSET : Hid (BvSt w _ ⟨u.r, u.c, u.h, id, 0⟩ u) := hide (stf.setBest ⟨u.r, u.c, u.h, id, 0⟩)
          clear stf kf
          go_wp2
          go_roundw
          case rel => exact ⟨k + 1, some (u, k), by omega, by go_num, rfl, HE.out, HSET.out⟩
          case measure => simp [intOf]; omega
        | some fj =>
          obtain ⟨f, j⟩ := fj
          rw [show bestP (some (f, j)) = (j : Int) from rfl]
          have hneg : ¬ ((j : Int) < 0) := by omega
          have hff : fv = f := HFV.out
          subst hff
          obtain ⟨⟨z0, z1, z2, z3, z4⟩, -⟩ := cells5 st.frm
          cases hl : lessV u fv
          · have HE : Hid (bestTo id l (k + 1) = some (fv, j)) := hide (by rw [NX.out]; unfold bestStep; rw [if_pos HO.out, HUU.out]; simp only; rw [if_neg (by rw [hl]; decide)])
            have HL : Hid (lessVc u.r u.c u.b u.p fv.r fv.c fv.b fv.p = false) := hide hl
            clear hl
            go_wp2_with fail
            refine (specLessVec_any u.r u.c u.h u.b u.p fv.r fv.c fv.h fv.b fv.p _).mono ?_
            rintro e wl ⟨rfl, hbl⟩
            rw [HL.out]
            have SL := hide (st.later hbl)
            clear hbl st z0 z1 z2 z3 z4 x0 x1 x2 x3 x4
            go_wp2
            go_roundw
            case rel => exact ⟨k + 1, some (fv, j), by omega, by go_num, rfl, HE.out, BACK.out _ SL.out⟩
            case measure => simp [intOf]; omega
          · have HE : Hid (bestTo id l (k + 1) = some (u, k)) := hide (by rw [NX.out]; unfold bestStep; rw [if_pos HO.out, HUU.out]; simp only; rw [if_pos hl])
            have HL : Hid (lessVc u.r u.c u.b u.p fv.r fv.c fv.b fv.p = true) := hide hl
            clear hl
            go_wp2_with fail
            refine (specLessVec_any u.r u.c u.h u.b u.p fv.r fv.c fv.h fv.b fv.p _).mono ?_
            rintro e wl ⟨rfl, hbl⟩
            rw [HL.out]
            have SL := hide (st.later hbl)
            have KX := hide (kept_block KX.out hbl)
            clear hbl st z0 z1 z2 z3 z4 x0 x1 x2 x3 x4
            obtain ⟨⟨x0, x1, x2, x3, x4⟩, -⟩ := cells5 KX.out
            obtain ⟨⟨z0, z1, z2, z3, z4⟩, v0, v1, v2, v3, v4⟩ := cells5 SL.out.frm
            go_upto_region 11 with fail
            generalize hwf : ((((wl.setCell ⟨w.heap.size + 1 + 1, 0, none⟩ (.int .i64 u.r)).setCell ⟨w.heap.size + 1 + 1, 1, none⟩ (.int .i64 u.c)).setCell ⟨w.heap.size + 1 + 1, 2, none⟩ (.int .i64 u.h)).setCell ⟨w.heap.size + 1 + 1, 3, none⟩ (.int .i64 u.b)).setCell ⟨w.heap.size + 1 + 1, 4, none⟩ (.int .i64 u.p) = wf
            have stf : BvSt w wf bv u := by rw [← hwf]; exact SL.out.setFrom u
            have kf : wf.heap[g]? = some (.cells #[.int .i64 u.r, .int .i64 u.c, .int .i64 u.h, .int .i64 u.b, .int .i64 u.p] 28) := by rw [← hwf]; exact kept_set5 KX.out (by omega) _ _ _ _ _
            clear hwf x0 x1 x2 x3 x4 v0 v1 v2 v3 v4 z0 z1 z2 z3 z4
            obtain ⟨⟨x0, x1, x2, x3, x4⟩, -⟩ := cells5 kf
            obtain ⟨⟨n0, n1, n2, n3, n4⟩, m0, m1, m2, m3, m4⟩ := cells5 stf.best
            have HSET : Hid (BvSt w _ ⟨u.r, u.c, u.h, id, 0⟩ u) := hide (stf.setBest ⟨u.r, u.c, u.h, id, 0⟩)
            clear stf kf
            go_wp2
            go_roundw
            case rel => exact ⟨k + 1, some (u, k), by omega, by go_num, rfl, HE.out, HSET.out⟩
            case measure => simp [intOf]; omega
    · have hkn : k = n := by omega
      subst hkn
      have HB : Hid (bestOf id l = s) := hide (by unfold bestOf; rw [hsz.out]; exact hs)
      obtain ⟨⟨x0, x1, x2, x3, x4⟩, y0, y1, y2, y3, y4⟩ := cells5 st.best
      obtain ⟨⟨r0, r1, r2, r3, r4⟩, z0, z1, z2, z3, z4⟩ := cells5 st.res
      have ne : ¬ w.heap.size = w.heap.size + 1 := by omega
      have hb := below_set5 st.below (Nat.le_refl w.heap.size) (.int .i64 bv.r) (.int .i64 bv.c) (.int .i64 bv.h) (.int .i64 bv.b) (.int .i64 bv.p)
      clear hs st
      go_wp2
      exact bodyPost_ret (v := .tuple #[.agg #[.int .i64 bv.r, .int .i64 bv.c, .int .i64 bv.h, .int .i64 bv.b, .int .i64 bv.p], .int .i64 (bestP s)]) (by simp [results, Try.results19, go_sem, *]) rfl ⟨(by rw [HB.out, ← HBV.out]), hb⟩

end Go.Proofs.Ytmlcjdfnoipihaa
