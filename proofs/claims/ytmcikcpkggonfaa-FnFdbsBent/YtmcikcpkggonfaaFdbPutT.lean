/-
  An entry that is put in its place, as the specification has it.
-/
import Derived.Test.YtmcikcpkggonfaaFdbPutS
namespace Go.Proofs.Ytmcikcpkggonfaa
open Go.RowKit

set_option maxRecDepth 100000 in
set_option maxHeartbeats 8000000 in
theorem specPutF_any (ao : Option Addr) (n cap : Nat) (l : List FE) (e : FE) (w : World) (h : GRow fentF w ao n cap l) (hn : n ≤ 16777216) :
    Calls Try.prog 49 #[.slice ao n cap, .agg #[.int .i64 e.t, .int .i64 e.m, .int .i64 e.p, .int .i64 e.a, .bool e.s]] w fun r w' => ∃ ao' cap', r = .returned (.slice ao' (putF8 e l).length cap') ∧ w'.ownsRow w.heap.size 30 5 (.slice ao' (putF8 e l).length cap') (putF8 e l).length (fentF.all (putF8 e l)) ∧ GRow fentF w' ao' (putF8 e l).length cap' (putF8 e l) ∧ Below w.heap.size w w' := by
  have hle := h.le
  have htop := h.top
  unfold maxLen at htop
  have hsz := h.size
  have k0 := kept_block (block_last w (.cells #[.int .i64 e.t, .int .i64 e.m, .int .i64 e.p, .int .i64 e.a, .bool e.s] 30)) (below_one _ (.cells #[] 30))
  have o0 : ((w.alloc (.cells #[.int .i64 e.t, .int .i64 e.m, .int .i64 e.p, .int .i64 e.a, .bool e.s] 30)).alloc (.cells #[] 30)).ownsRow (w.heap.size + 1) 30 5 (.slice (some ⟨w.heap.size + 1, 0, none⟩) 0 0) 0 (fentF.all []) := by
    have := flat_nil fentF (w.alloc (.cells #[.int .i64 e.t, .int .i64 e.m, .int .i64 e.p, .int .i64 e.a, .bool e.s] 30)) _ 30 _ (block_last (w.alloc (.cells #[.int .i64 e.t, .int .i64 e.m, .int .i64 e.p, .int .i64 e.a, .bool e.s] 30)) (.cells #[] 30)) (Nat.le_refl _)
    rw [show (w.alloc (.cells #[.int .i64 e.t, .int .i64 e.m, .int .i64 e.p, .int .i64 e.a, .bool e.s] 30)).heap.size = w.heap.size + 1 by simp] at this
    exact this
  have b0 := below_two w (.cells #[.int .i64 e.t, .int .i64 e.m, .int .i64 e.p, .int .i64 e.a, .bool e.s] 30) (.cells #[] 30)
  go_enter Try.func49, Try.ntmps49
  go_wp2_with fail
  go_loopw [5, 6, 7] (fun o d i wr => ∃ (k : Nat) (dd : Bool) (zs : List FE) (az : Option Addr) (cz nz : Nat), k ≤ n ∧ i = .int .i64 k ∧ d = .bool dd ∧ o = .slice az nz cz ∧ zs.length = nz ∧ nz ≤ 2 * k ∧ wr.ownsRow (w.heap.size + 1) 30 5 (.slice az nz cz) nz (fentF.all zs) ∧ zs ++ putGo e dd (l.drop k) = putGo e false l ∧ Below w.heap.size w wr ∧ wr.heap[w.heap.size]? = some (.cells #[.int .i64 e.t, .int .i64 e.m, .int .i64 e.p, .int .i64 e.a, .bool e.s] 30)) (fun _ _ i _ => n - (intOf i).toNat)
  case atStart => exact ⟨0, false, [], _, _, 0, Nat.zero_le _, rfl, rfl, rfl, rfl, Nat.zero_le _, o0, by simp, b0, k0⟩
  case round =>
    obtain ⟨k, dd, zs, az, cz, nz, hk, rfl, rfl, rfl, hzs, hnz, how, hz, hb, hbox⟩ := hrel
    clear k0 o0 b0
    by_cases hlt : k < n
    · obtain ⟨x, b, off, hx, rfl, -⟩ := fent_at h k hlt
      have i1 : (0 : Int) ≤ (k : Int) := by omega
      have i2 : (k : Int) < (n : Int) := by omega
      have hbs := (Array.getElem?_eq_some_iff.1 hbox).1
      cases dd
      · cases ha : ahead x e.t e.m
        · have HA := hide ha
          have hr := h.below hb
          have kq := hbox
          have vv : Below wr.heap.size wr wr.drew := gr_drew (Below.refl _ _)
          go_wp2_with fail
          refine wp_region_held_drew (S := (fun W => (W.cell? ⟨b, off + k * 5, none⟩ = some (.int .i64 x.t) ∧ W.cell? ⟨b, off + k * 5 + 1, none⟩ = some (.int .i64 x.m) ∧ W.cell? ⟨b, off + k * 5 + 2, none⟩ = some (.int .i64 x.p) ∧ W.cell? ⟨b, off + k * 5 + 3, none⟩ = some (.int .i64 x.a) ∧ W.cell? ⟨b, off + k * 5 + 4, none⟩ = some (.bool x.s)) ∧ (W.cell? ⟨w.heap.size, 0, none⟩ = some (.int .i64 e.t) ∧ W.cell? ⟨w.heap.size, 1, none⟩ = some (.int .i64 e.m) ∧ W.cell? ⟨w.heap.size, 2, none⟩ = some (.int .i64 e.p) ∧ W.cell? ⟨w.heap.size, 3, none⟩ = some (.int .i64 e.a) ∧ W.cell? ⟨w.heap.size, 4, none⟩ = some (.bool e.s)))) (by kernel_rfl) (⟨(at5 hr vv).2 k x hx, (cells5 (kept_block kq vv)).1⟩) (fun hHeld => ?_)
          refine wpAnyH_take (i := 0) (oi := { dst := some 15, op := Op.move (Operand.tmp 6), type := 4, pos := "l08_fdb.go:51", after := #[], guard := none }) (v := ?_) rfl (by kernel_rfl) (by kernel_rfl) (by kernel_rfl) (fun _ _ _ h => h) (Or.inl ⟨by rfl, ?_⟩) (by assumption) ?_
          rotate_left
          · (intro wY hSw; (try dsimp only at hSw); go_simp; try with_reducible rfl)
          simp only [Act.put, List.setIfInBounds_toArray, List.set_cons_zero, List.set_cons_succ]
          refine wpAnyH_take (i := 1) (oi := { dst := some 16, op := Op.unOp UnOp.not 4 (Operand.tmp 15), type := 4, pos := "l08_fdb.go:51", after := #[{ on := 0, ground := Ground.data }], guard := none }) (v := ?_) rfl (by kernel_rfl) (by kernel_rfl) (by kernel_rfl) (fun _ _ _ h => h) (Or.inl ⟨by rfl, ?_⟩) (by assumption) ?_
          rotate_left
          · (intro wY hSw; (try dsimp only at hSw); go_simp; try with_reducible rfl)
          simp only [Act.put, List.setIfInBounds_toArray, List.set_cons_zero, List.set_cons_succ]
          refine wpAnyH_take (i := 2) (oi := { dst := some 17, op := Op.move (Operand.tmp 16), type := 4, pos := "l08_fdb.go:51", after := #[{ on := 1, ground := Ground.data }], guard := none }) (v := ?_) rfl (by kernel_rfl) (by kernel_rfl) (by kernel_rfl) (fun _ _ _ h => h) (Or.inl ⟨by rfl, ?_⟩) (by assumption) ?_
          rotate_left
          · (intro wY hSw; (try dsimp only at hSw); go_simp; try with_reducible rfl)
          simp only [Act.put, List.setIfInBounds_toArray, List.set_cons_zero, List.set_cons_succ]
          refine wpAnyH_take (i := 3) (oi := { dst := some 18, op := Op.move (Operand.tmp 0), type := 24, pos := "l08_fdb.go:51", after := #[{ on := 2, ground := Ground.guard }], guard := some (2, true) }) (v := ?_) rfl (by kernel_rfl) (by kernel_rfl) (by kernel_rfl) (fun _ _ _ h => h) (Or.inl ⟨by rfl, ?_⟩) (by assumption) ?_
          rotate_left
          · (intro wY hSw; (try dsimp only at hSw); go_simp; try with_reducible rfl)
          simp only [Act.put, List.setIfInBounds_toArray, List.set_cons_zero, List.set_cons_succ]
          refine wpAnyH_take (i := 4) (oi := { dst := some 19, op := Op.move (Operand.tmp 7), type := 3, pos := "l08_fdb.go:51", after := #[{ on := 2, ground := Ground.guard }], guard := some (2, true) }) (v := ?_) rfl (by kernel_rfl) (by kernel_rfl) (by kernel_rfl) (fun _ _ _ h => h) (Or.inl ⟨by rfl, ?_⟩) (by assumption) ?_
          rotate_left
          · (intro wY hSw; (try dsimp only at hSw); go_simp; try with_reducible rfl)
          simp only [Act.put, List.setIfInBounds_toArray, List.set_cons_zero, List.set_cons_succ]
          refine wpAnyH_take (i := 5) (oi := { dst := some 20, op := Op.indexAddr 24 (Operand.tmp 18) (Operand.tmp 19), type := 0, pos := "l08_fdb.go:51", after := #[{ on := 3, ground := Ground.data }, { on := 4, ground := Ground.data }, { on := 2, ground := Ground.guard }], guard := some (2, true) }) (v := ?_) rfl (by kernel_rfl) (by kernel_rfl) (by kernel_rfl) (fun _ _ _ h => h) (Or.inl ⟨by rfl, ?_⟩) (by assumption) ?_
          rotate_left
          · (intro wY hSw; (try dsimp only at hSw); go_simp; try with_reducible rfl)
          simp only [Act.put, List.setIfInBounds_toArray, List.set_cons_zero, List.set_cons_succ]
          refine wpAnyH_take (i := 6) (oi := { dst := some 21, op := Op.load 30 (Operand.tmp 20), type := 30, pos := "l08_fdb.go:51", after := #[{ on := 5, ground := Ground.data }, { on := 2, ground := Ground.guard }], guard := some (2, true) }) (v := ?_) rfl (by kernel_rfl) (by kernel_rfl) (by kernel_rfl) (fun _ _ _ h => h) (Or.inl ⟨by rfl, ?_⟩) (by assumption) ?_
          rotate_left
          · (intro wY hSw; (try dsimp only at hSw); go_simp; try with_reducible rfl)
          simp only [Act.put, List.setIfInBounds_toArray, List.set_cons_zero, List.set_cons_succ]
          refine wpAnyH_take (i := 7) (oi := { dst := some 22, op := Op.fieldAddr 30 (Operand.tmp 3) 0, type := 0, pos := "l08_fdb.go:51", after := #[{ on := 2, ground := Ground.guard }], guard := some (2, true) }) (v := ?_) rfl (by kernel_rfl) (by kernel_rfl) (by kernel_rfl) (fun _ _ _ h => h) (Or.inl ⟨by rfl, ?_⟩) (by assumption) ?_
          rotate_left
          · (intro wY hSw; (try dsimp only at hSw); go_simp; try with_reducible rfl)
          simp only [Act.put, List.setIfInBounds_toArray, List.set_cons_zero, List.set_cons_succ]
          refine wpAnyH_take (i := 8) (oi := { dst := some 23, op := Op.load 3 (Operand.tmp 22), type := 3, pos := "l08_fdb.go:51", after := #[{ on := 7, ground := Ground.data }, { on := 2, ground := Ground.guard }], guard := some (2, true) }) (v := ?_) rfl (by kernel_rfl) (by kernel_rfl) (by kernel_rfl) (fun _ _ _ h => h) (Or.inl ⟨by rfl, ?_⟩) (by assumption) ?_
          rotate_left
          · (intro wY hSw; (try dsimp only at hSw); go_simp; try with_reducible rfl)
          simp only [Act.put, List.setIfInBounds_toArray, List.set_cons_zero, List.set_cons_succ]
          refine wpAnyH_take (i := 9) (oi := { dst := some 24, op := Op.fieldAddr 30 (Operand.tmp 3) 1, type := 0, pos := "l08_fdb.go:51", after := #[{ on := 2, ground := Ground.guard }], guard := some (2, true) }) (v := ?_) rfl (by kernel_rfl) (by kernel_rfl) (by kernel_rfl) (fun _ _ _ h => h) (Or.inl ⟨by rfl, ?_⟩) (by assumption) ?_
          rotate_left
          · (intro wY hSw; (try dsimp only at hSw); go_simp; try with_reducible rfl)
          simp only [Act.put, List.setIfInBounds_toArray, List.set_cons_zero, List.set_cons_succ]
          refine wpAnyH_take (i := 10) (oi := { dst := some 25, op := Op.load 3 (Operand.tmp 24), type := 3, pos := "l08_fdb.go:51", after := #[{ on := 9, ground := Ground.data }, { on := 2, ground := Ground.guard }], guard := some (2, true) }) (v := ?_) rfl (by kernel_rfl) (by kernel_rfl) (by kernel_rfl) (fun _ _ _ h => h) (Or.inl ⟨by rfl, ?_⟩) (by assumption) ?_
          rotate_left
          · (intro wY hSw; (try dsimp only at hSw); go_simp; try with_reducible rfl)
          simp only [Act.put, List.setIfInBounds_toArray, List.set_cons_zero, List.set_cons_succ]
          refine wpAnyH_ready (rs := [11]) (by kernel_rfl) (by simp) ?_
          refine AllReadyH.cons (o := { dst := some 26, op := Op.call { callee := Callee.value (Operand.func 55), args := #[Operand.tmp 21, Operand.tmp 23, Operand.tmp 25], argTypes := #[30, 3, 3] }, type := 4, pos := "l08_fdb.go:51", after := #[{ on := 6, ground := Ground.data }, { on := 8, ground := Ground.data }, { on := 10, ground := Ground.data }, { on := 2, ground := Ground.chain }, { on := 2, ground := Ground.guard }], guard := some (2, true) }) rfl (fun K hK => ?_) ?_
          · go_simp
            refine (specAhead_any x e.t e.m _).mono ?_
            rintro r wx ⟨rfl, hbx⟩
            rw [HA.out]
            have vv := gr_trans vv hbx
            go_wp2_with fail
            refine hK.out _ _ (⟨(at5 hr vv).2 k x hx, (cells5 (kept_block kq vv)).1⟩) (fun hHeld => ?_)
            clear hK K
            try simp only [Act.put, List.setIfInBounds_toArray, List.set_cons_zero, List.set_cons_succ]
            refine wpAnyH_take (i := 12) (oi := { dst := some 27, op := Op.unOp UnOp.not 4 (Operand.tmp 26), type := 4, pos := "l08_fdb.go:51", after := #[{ on := 11, ground := Ground.data }, { on := 2, ground := Ground.guard }], guard := some (2, true) }) (v := ?_) rfl (by kernel_rfl) (by kernel_rfl) (by kernel_rfl) (fun _ _ _ h => h) (Or.inl ⟨by rfl, ?_⟩) (by assumption) ?_
            rotate_left
            · (intro wY hSw; (try dsimp only at hSw); go_simp; try with_reducible rfl)
            simp only [Act.put, List.setIfInBounds_toArray, List.set_cons_zero, List.set_cons_succ]
            refine wpAnyH_take (i := 13) (oi := { dst := some 28, op := Op.pick (Operand.tmp 17) (Operand.tmp 27) (Operand.const (Value.bool false)), type := 4, pos := "l08_fdb.go:51", after := #[{ on := 2, ground := Ground.data }, { on := 12, ground := Ground.data }], guard := none }) (v := ?_) rfl (by kernel_rfl) (by kernel_rfl) (by kernel_rfl) (fun _ _ _ h => h) (Or.inl ⟨by rfl, ?_⟩) (by assumption) ?_
            rotate_left
            · (intro wY hSw; (try dsimp only at hSw); go_simp; try with_reducible rfl)
            simp only [Act.put, List.setIfInBounds_toArray, List.set_cons_zero, List.set_cons_succ]
            refine wpAnyH_done (by kernel_rfl) ?_ _
            have bx := gr_trans hb vv
            have kx := kept_block hbox vv
            have ox := gown_below (gown_below how vv) (below_one wx (.cells #[.int .i64 e.t, .int .i64 e.m, .int .i64 e.p, .int .i64 e.a, .bool e.s] 30))
            have HBX := hide (gr_trans bx (below_one wx (.cells #[.int .i64 e.t, .int .i64 e.m, .int .i64 e.p, .int .i64 e.a, .bool e.s] 30)))
            have KX := hide (kept_block kx (below_one wx (.cells #[.int .i64 e.t, .int .i64 e.m, .int .i64 e.p, .int .i64 e.a, .bool e.s] 30)))
            have hxs := bx.size
            have hxb := (Array.getElem?_eq_some_iff.1 kx).1
            obtain ⟨⟨x0, x1, x2, x3, x4⟩, -⟩ := cells5 kx
            clear kq vv hr hbx hb hbox how kx bx
            have hbase9 := (Array.getElem?_eq_some_iff.1 KX.out).1
            go_wp2_with (at_builtin; refine fent_append _ rfl _ _ rfl (w.heap.size + 1) _ nz zs rfl ox _ 1 1 [e] rfl (grow_one fentF _ e _ _ rfl) (by omega) hbase9 ?_)
            intro aq cq wq oq hrq hgrq hbq
            have kq := kept_base KX.out hbq (by omega)
            have bq : Below w.heap.size w wq := HBX.out.trans (hbq.mono (by omega))
            have hzq : (zs ++ [e]).length = nz + 1 := by simp [hzs]
            clear hrq hgrq hbq ox x0 x1 x2 x3 x4 KX HBX
            generalize hzz : zs ++ [e] = zq at *
            generalize hnn : nz + 1 = nq at *
            have hr := h.below bq
            have vv : Below wq.heap.size wq wq.drew := gr_drew (Below.refl _ _)
            cases t1 : (x.t != e.t)
            · cases t2 : (x.m != e.m)
              · have hbo : both x e.t e.m = true := by simp at t1 t2; exact both_iff.2 ⟨t1, t2⟩
                go_wp2_with fail
                refine wp_region_held_drew (S := (fun W => (W.cell? ⟨b, off + k * 5, none⟩ = some (.int .i64 x.t) ∧ W.cell? ⟨b, off + k * 5 + 1, none⟩ = some (.int .i64 x.m) ∧ W.cell? ⟨b, off + k * 5 + 2, none⟩ = some (.int .i64 x.p) ∧ W.cell? ⟨b, off + k * 5 + 3, none⟩ = some (.int .i64 x.a) ∧ W.cell? ⟨b, off + k * 5 + 4, none⟩ = some (.bool x.s)) ∧ (W.cell? ⟨w.heap.size, 0, none⟩ = some (.int .i64 e.t) ∧ W.cell? ⟨w.heap.size, 1, none⟩ = some (.int .i64 e.m) ∧ W.cell? ⟨w.heap.size, 2, none⟩ = some (.int .i64 e.p) ∧ W.cell? ⟨w.heap.size, 3, none⟩ = some (.int .i64 e.a) ∧ W.cell? ⟨w.heap.size, 4, none⟩ = some (.bool e.s)))) (by kernel_rfl) (⟨(at5 hr vv).2 k x hx, (cells5 (kept_block kq vv)).1⟩) (fun hHeld => ?_)
                refine wpAnyH_take (i := 0) (oi := { dst := some 33, op := Op.move (Operand.tmp 0), type := 24, pos := "l08_fdb.go:55", after := #[], guard := none }) (v := ?_) rfl (by kernel_rfl) (by kernel_rfl) (by kernel_rfl) (fun _ _ _ h => h) (Or.inl ⟨by rfl, ?_⟩) (by assumption) ?_
                rotate_left
                · (intro wY hSw; (try dsimp only at hSw); go_simp; try with_reducible rfl)
                simp only [Act.put, List.setIfInBounds_toArray, List.set_cons_zero, List.set_cons_succ]
                refine wpAnyH_take (i := 1) (oi := { dst := some 34, op := Op.move (Operand.tmp 7), type := 3, pos := "l08_fdb.go:55", after := #[], guard := none }) (v := ?_) rfl (by kernel_rfl) (by kernel_rfl) (by kernel_rfl) (fun _ _ _ h => h) (Or.inl ⟨by rfl, ?_⟩) (by assumption) ?_
                rotate_left
                · (intro wY hSw; (try dsimp only at hSw); go_simp; try with_reducible rfl)
                simp only [Act.put, List.setIfInBounds_toArray, List.set_cons_zero, List.set_cons_succ]
                refine wpAnyH_take (i := 2) (oi := { dst := some 35, op := Op.indexAddr 24 (Operand.tmp 33) (Operand.tmp 34), type := 0, pos := "l08_fdb.go:55", after := #[{ on := 0, ground := Ground.data }, { on := 1, ground := Ground.data }], guard := none }) (v := ?_) rfl (by kernel_rfl) (by kernel_rfl) (by kernel_rfl) (fun _ _ _ h => h) (Or.inl ⟨by rfl, ?_⟩) (by assumption) ?_
                rotate_left
                · (intro wY hSw; (try dsimp only at hSw); go_simp; try with_reducible rfl)
                simp only [Act.put, List.setIfInBounds_toArray, List.set_cons_zero, List.set_cons_succ]
                refine wpAnyH_take (i := 3) (oi := { dst := some 36, op := Op.fieldAddr 30 (Operand.tmp 35) 0, type := 0, pos := "l08_fdb.go:55", after := #[{ on := 2, ground := Ground.data }], guard := none }) (v := ?_) rfl (by kernel_rfl) (by kernel_rfl) (by kernel_rfl) (fun _ _ _ h => h) (Or.inl ⟨by rfl, ?_⟩) (by assumption) ?_
                rotate_left
                · (intro wY hSw; (try dsimp only at hSw); go_simp; try with_reducible rfl)
                simp only [Act.put, List.setIfInBounds_toArray, List.set_cons_zero, List.set_cons_succ]
                refine wpAnyH_take (i := 4) (oi := { dst := some 37, op := Op.load 3 (Operand.tmp 36), type := 3, pos := "l08_fdb.go:55", after := #[{ on := 3, ground := Ground.data }], guard := none }) (v := ?_) rfl (by kernel_rfl) (by kernel_rfl) (by kernel_rfl) (fun _ _ _ h => h) (Or.inl ⟨by rfl, ?_⟩) (by assumption) ?_
                rotate_left
                · (intro wY hSw; (try dsimp only at hSw); go_simp; try with_reducible rfl)
                simp only [Act.put, List.setIfInBounds_toArray, List.set_cons_zero, List.set_cons_succ]
                refine wpAnyH_take (i := 5) (oi := { dst := some 38, op := Op.fieldAddr 30 (Operand.tmp 3) 0, type := 0, pos := "l08_fdb.go:55", after := #[], guard := none }) (v := ?_) rfl (by kernel_rfl) (by kernel_rfl) (by kernel_rfl) (fun _ _ _ h => h) (Or.inl ⟨by rfl, ?_⟩) (by assumption) ?_
                rotate_left
                · (intro wY hSw; (try dsimp only at hSw); go_simp; try with_reducible rfl)
                simp only [Act.put, List.setIfInBounds_toArray, List.set_cons_zero, List.set_cons_succ]
                refine wpAnyH_take (i := 6) (oi := { dst := some 39, op := Op.load 3 (Operand.tmp 38), type := 3, pos := "l08_fdb.go:55", after := #[{ on := 5, ground := Ground.data }], guard := none }) (v := ?_) rfl (by kernel_rfl) (by kernel_rfl) (by kernel_rfl) (fun _ _ _ h => h) (Or.inl ⟨by rfl, ?_⟩) (by assumption) ?_
                rotate_left
                · (intro wY hSw; (try dsimp only at hSw); go_simp; try with_reducible rfl)
                simp only [Act.put, List.setIfInBounds_toArray, List.set_cons_zero, List.set_cons_succ]
                refine wpAnyH_take (i := 7) (oi := { dst := some 40, op := Op.binOp BinOp.neq 3 (Operand.tmp 37) (Operand.tmp 39) 3, type := 4, pos := "l08_fdb.go:55", after := #[{ on := 4, ground := Ground.data }, { on := 6, ground := Ground.data }], guard := none }) (v := ?_) rfl (by kernel_rfl) (by kernel_rfl) (by kernel_rfl) (fun _ _ _ h => h) (Or.inl ⟨by rfl, ?_⟩) (by assumption) ?_
                rotate_left
                · (intro wY hSw; (try dsimp only at hSw); go_simp; try with_reducible rfl)
                simp only [Act.put, List.setIfInBounds_toArray, List.set_cons_zero, List.set_cons_succ]
                refine wpAnyH_take (i := 8) (oi := { dst := some 41, op := Op.move (Operand.tmp 40), type := 4, pos := "l08_fdb.go:55", after := #[{ on := 7, ground := Ground.data }], guard := none }) (v := ?_) rfl (by kernel_rfl) (by kernel_rfl) (by kernel_rfl) (fun _ _ _ h => h) (Or.inl ⟨by rfl, ?_⟩) (by assumption) ?_
                rotate_left
                · (intro wY hSw; (try dsimp only at hSw); go_simp; try with_reducible rfl)
                simp only [Act.put, List.setIfInBounds_toArray, List.set_cons_zero, List.set_cons_succ]
                refine wpAnyH_take (i := 9) (oi := { dst := some 42, op := Op.move (Operand.tmp 0), type := 24, pos := "l08_fdb.go:55", after := #[{ on := 8, ground := Ground.guard }], guard := some (8, false) }) (v := ?_) rfl (by kernel_rfl) (by kernel_rfl) (by kernel_rfl) (fun _ _ _ h => h) (Or.inl ⟨by rfl, ?_⟩) (by assumption) ?_
                rotate_left
                · (intro wY hSw; (try dsimp only at hSw); go_simp; try with_reducible rfl)
                simp only [Act.put, List.setIfInBounds_toArray, List.set_cons_zero, List.set_cons_succ]
                refine wpAnyH_take (i := 10) (oi := { dst := some 43, op := Op.move (Operand.tmp 7), type := 3, pos := "l08_fdb.go:55", after := #[{ on := 8, ground := Ground.guard }], guard := some (8, false) }) (v := ?_) rfl (by kernel_rfl) (by kernel_rfl) (by kernel_rfl) (fun _ _ _ h => h) (Or.inl ⟨by rfl, ?_⟩) (by assumption) ?_
                rotate_left
                · (intro wY hSw; (try dsimp only at hSw); go_simp; try with_reducible rfl)
                simp only [Act.put, List.setIfInBounds_toArray, List.set_cons_zero, List.set_cons_succ]
                refine wpAnyH_take (i := 11) (oi := { dst := some 44, op := Op.indexAddr 24 (Operand.tmp 42) (Operand.tmp 43), type := 0, pos := "l08_fdb.go:55", after := #[{ on := 9, ground := Ground.data }, { on := 10, ground := Ground.data }, { on := 8, ground := Ground.guard }], guard := some (8, false) }) (v := ?_) rfl (by kernel_rfl) (by kernel_rfl) (by kernel_rfl) (fun _ _ _ h => h) (Or.inl ⟨by rfl, ?_⟩) (by assumption) ?_
                rotate_left
                · (intro wY hSw; (try dsimp only at hSw); go_simp; try with_reducible rfl)
                simp only [Act.put, List.setIfInBounds_toArray, List.set_cons_zero, List.set_cons_succ]
                refine wpAnyH_take (i := 12) (oi := { dst := some 45, op := Op.fieldAddr 30 (Operand.tmp 44) 1, type := 0, pos := "l08_fdb.go:55", after := #[{ on := 11, ground := Ground.data }, { on := 8, ground := Ground.guard }], guard := some (8, false) }) (v := ?_) rfl (by kernel_rfl) (by kernel_rfl) (by kernel_rfl) (fun _ _ _ h => h) (Or.inl ⟨by rfl, ?_⟩) (by assumption) ?_
                rotate_left
                · (intro wY hSw; (try dsimp only at hSw); go_simp; try with_reducible rfl)
                simp only [Act.put, List.setIfInBounds_toArray, List.set_cons_zero, List.set_cons_succ]
                refine wpAnyH_take (i := 13) (oi := { dst := some 46, op := Op.load 3 (Operand.tmp 45), type := 3, pos := "l08_fdb.go:55", after := #[{ on := 12, ground := Ground.data }, { on := 8, ground := Ground.guard }], guard := some (8, false) }) (v := ?_) rfl (by kernel_rfl) (by kernel_rfl) (by kernel_rfl) (fun _ _ _ h => h) (Or.inl ⟨by rfl, ?_⟩) (by assumption) ?_
                rotate_left
                · (intro wY hSw; (try dsimp only at hSw); go_simp; try with_reducible rfl)
                simp only [Act.put, List.setIfInBounds_toArray, List.set_cons_zero, List.set_cons_succ]
                refine wpAnyH_take (i := 14) (oi := { dst := some 47, op := Op.fieldAddr 30 (Operand.tmp 3) 1, type := 0, pos := "l08_fdb.go:55", after := #[{ on := 8, ground := Ground.guard }], guard := some (8, false) }) (v := ?_) rfl (by kernel_rfl) (by kernel_rfl) (by kernel_rfl) (fun _ _ _ h => h) (Or.inl ⟨by rfl, ?_⟩) (by assumption) ?_
                rotate_left
                · (intro wY hSw; (try dsimp only at hSw); go_simp; try with_reducible rfl)
                simp only [Act.put, List.setIfInBounds_toArray, List.set_cons_zero, List.set_cons_succ]
                refine wpAnyH_take (i := 15) (oi := { dst := some 48, op := Op.load 3 (Operand.tmp 47), type := 3, pos := "l08_fdb.go:55", after := #[{ on := 14, ground := Ground.data }, { on := 8, ground := Ground.guard }], guard := some (8, false) }) (v := ?_) rfl (by kernel_rfl) (by kernel_rfl) (by kernel_rfl) (fun _ _ _ h => h) (Or.inl ⟨by rfl, ?_⟩) (by assumption) ?_
                rotate_left
                · (intro wY hSw; (try dsimp only at hSw); go_simp; try with_reducible rfl)
                simp only [Act.put, List.setIfInBounds_toArray, List.set_cons_zero, List.set_cons_succ]
                refine wpAnyH_take (i := 16) (oi := { dst := some 49, op := Op.binOp BinOp.neq 3 (Operand.tmp 46) (Operand.tmp 48) 3, type := 4, pos := "l08_fdb.go:55", after := #[{ on := 13, ground := Ground.data }, { on := 15, ground := Ground.data }, { on := 8, ground := Ground.guard }], guard := some (8, false) }) (v := ?_) rfl (by kernel_rfl) (by kernel_rfl) (by kernel_rfl) (fun _ _ _ h => h) (Or.inl ⟨by rfl, ?_⟩) (by assumption) ?_
                rotate_left
                · (intro wY hSw; (try dsimp only at hSw); go_simp; try with_reducible rfl)
                simp only [Act.put, List.setIfInBounds_toArray, List.set_cons_zero, List.set_cons_succ]
                refine wpAnyH_take (i := 17) (oi := { dst := some 50, op := Op.pick (Operand.tmp 41) (Operand.const (Value.bool true)) (Operand.tmp 49), type := 4, pos := "l08_fdb.go:55", after := #[{ on := 8, ground := Ground.data }, { on := 16, ground := Ground.data }], guard := none }) (v := ?_) rfl (by kernel_rfl) (by kernel_rfl) (by kernel_rfl) (fun _ _ _ h => h) (Or.inl ⟨by rfl, ?_⟩) (by assumption) ?_
                rotate_left
                · (intro wY hSw; (try dsimp only at hSw); go_simp; try with_reducible rfl)
                simp only [Act.put, List.setIfInBounds_toArray, List.set_cons_zero, List.set_cons_succ]
                refine wpAnyH_done (by kernel_rfl) ?_ _
                have HQ := hide (show zq ++ putGo e true (l.drop (k + 1)) = putGo e false l from (show zq ++ putGo e true (l.drop (k + 1)) = zs ++ putGo e false (x :: l.drop (k + 1)) by rw [← hzz]; exact putGo_same HA.out hbo).trans (by rw [← drop_at hx]; exact hz))
                have HO := hide (gown_below oq vv)
                have HB9 := hide (gr_trans bq vv)
                have HK9 := hide (kept_block kq vv)
                clear oq bq kq vv hr
                go_wp2
                go_roundw
                case rel => exact ⟨k + 1, true, zq, aq, cq, nq, by omega, by go_num, rfl, rfl, hzq, by omega, HO.out, HQ.out, HB9.out, HK9.out⟩
                case measure => simp [intOf]; omega
              · have hbo : both x e.t e.m = false := by simp at t1 t2; exact both_not.2 (fun h => t2 h.2)
                go_wp2_with fail
                refine wp_region_held_drew (S := (fun W => (W.cell? ⟨b, off + k * 5, none⟩ = some (.int .i64 x.t) ∧ W.cell? ⟨b, off + k * 5 + 1, none⟩ = some (.int .i64 x.m) ∧ W.cell? ⟨b, off + k * 5 + 2, none⟩ = some (.int .i64 x.p) ∧ W.cell? ⟨b, off + k * 5 + 3, none⟩ = some (.int .i64 x.a) ∧ W.cell? ⟨b, off + k * 5 + 4, none⟩ = some (.bool x.s)) ∧ (W.cell? ⟨w.heap.size, 0, none⟩ = some (.int .i64 e.t) ∧ W.cell? ⟨w.heap.size, 1, none⟩ = some (.int .i64 e.m) ∧ W.cell? ⟨w.heap.size, 2, none⟩ = some (.int .i64 e.p) ∧ W.cell? ⟨w.heap.size, 3, none⟩ = some (.int .i64 e.a) ∧ W.cell? ⟨w.heap.size, 4, none⟩ = some (.bool e.s)))) (by kernel_rfl) (⟨(at5 hr vv).2 k x hx, (cells5 (kept_block kq vv)).1⟩) (fun hHeld => ?_)
                refine wpAnyH_take (i := 0) (oi := { dst := some 33, op := Op.move (Operand.tmp 0), type := 24, pos := "l08_fdb.go:55", after := #[], guard := none }) (v := ?_) rfl (by kernel_rfl) (by kernel_rfl) (by kernel_rfl) (fun _ _ _ h => h) (Or.inl ⟨by rfl, ?_⟩) (by assumption) ?_
                rotate_left
                · (intro wY hSw; (try dsimp only at hSw); go_simp; try with_reducible rfl)
                simp only [Act.put, List.setIfInBounds_toArray, List.set_cons_zero, List.set_cons_succ]
                refine wpAnyH_take (i := 1) (oi := { dst := some 34, op := Op.move (Operand.tmp 7), type := 3, pos := "l08_fdb.go:55", after := #[], guard := none }) (v := ?_) rfl (by kernel_rfl) (by kernel_rfl) (by kernel_rfl) (fun _ _ _ h => h) (Or.inl ⟨by rfl, ?_⟩) (by assumption) ?_
                rotate_left
                · (intro wY hSw; (try dsimp only at hSw); go_simp; try with_reducible rfl)
                simp only [Act.put, List.setIfInBounds_toArray, List.set_cons_zero, List.set_cons_succ]
                refine wpAnyH_take (i := 2) (oi := { dst := some 35, op := Op.indexAddr 24 (Operand.tmp 33) (Operand.tmp 34), type := 0, pos := "l08_fdb.go:55", after := #[{ on := 0, ground := Ground.data }, { on := 1, ground := Ground.data }], guard := none }) (v := ?_) rfl (by kernel_rfl) (by kernel_rfl) (by kernel_rfl) (fun _ _ _ h => h) (Or.inl ⟨by rfl, ?_⟩) (by assumption) ?_
                rotate_left
                · (intro wY hSw; (try dsimp only at hSw); go_simp; try with_reducible rfl)
                simp only [Act.put, List.setIfInBounds_toArray, List.set_cons_zero, List.set_cons_succ]
                refine wpAnyH_take (i := 3) (oi := { dst := some 36, op := Op.fieldAddr 30 (Operand.tmp 35) 0, type := 0, pos := "l08_fdb.go:55", after := #[{ on := 2, ground := Ground.data }], guard := none }) (v := ?_) rfl (by kernel_rfl) (by kernel_rfl) (by kernel_rfl) (fun _ _ _ h => h) (Or.inl ⟨by rfl, ?_⟩) (by assumption) ?_
                rotate_left
                · (intro wY hSw; (try dsimp only at hSw); go_simp; try with_reducible rfl)
                simp only [Act.put, List.setIfInBounds_toArray, List.set_cons_zero, List.set_cons_succ]
                refine wpAnyH_take (i := 4) (oi := { dst := some 37, op := Op.load 3 (Operand.tmp 36), type := 3, pos := "l08_fdb.go:55", after := #[{ on := 3, ground := Ground.data }], guard := none }) (v := ?_) rfl (by kernel_rfl) (by kernel_rfl) (by kernel_rfl) (fun _ _ _ h => h) (Or.inl ⟨by rfl, ?_⟩) (by assumption) ?_
                rotate_left
                · (intro wY hSw; (try dsimp only at hSw); go_simp; try with_reducible rfl)
                simp only [Act.put, List.setIfInBounds_toArray, List.set_cons_zero, List.set_cons_succ]
                refine wpAnyH_take (i := 5) (oi := { dst := some 38, op := Op.fieldAddr 30 (Operand.tmp 3) 0, type := 0, pos := "l08_fdb.go:55", after := #[], guard := none }) (v := ?_) rfl (by kernel_rfl) (by kernel_rfl) (by kernel_rfl) (fun _ _ _ h => h) (Or.inl ⟨by rfl, ?_⟩) (by assumption) ?_
                rotate_left
                · (intro wY hSw; (try dsimp only at hSw); go_simp; try with_reducible rfl)
                simp only [Act.put, List.setIfInBounds_toArray, List.set_cons_zero, List.set_cons_succ]
                refine wpAnyH_take (i := 6) (oi := { dst := some 39, op := Op.load 3 (Operand.tmp 38), type := 3, pos := "l08_fdb.go:55", after := #[{ on := 5, ground := Ground.data }], guard := none }) (v := ?_) rfl (by kernel_rfl) (by kernel_rfl) (by kernel_rfl) (fun _ _ _ h => h) (Or.inl ⟨by rfl, ?_⟩) (by assumption) ?_
                rotate_left
                · (intro wY hSw; (try dsimp only at hSw); go_simp; try with_reducible rfl)
                simp only [Act.put, List.setIfInBounds_toArray, List.set_cons_zero, List.set_cons_succ]
                refine wpAnyH_take (i := 7) (oi := { dst := some 40, op := Op.binOp BinOp.neq 3 (Operand.tmp 37) (Operand.tmp 39) 3, type := 4, pos := "l08_fdb.go:55", after := #[{ on := 4, ground := Ground.data }, { on := 6, ground := Ground.data }], guard := none }) (v := ?_) rfl (by kernel_rfl) (by kernel_rfl) (by kernel_rfl) (fun _ _ _ h => h) (Or.inl ⟨by rfl, ?_⟩) (by assumption) ?_
                rotate_left
                · (intro wY hSw; (try dsimp only at hSw); go_simp; try with_reducible rfl)
                simp only [Act.put, List.setIfInBounds_toArray, List.set_cons_zero, List.set_cons_succ]
                refine wpAnyH_take (i := 8) (oi := { dst := some 41, op := Op.move (Operand.tmp 40), type := 4, pos := "l08_fdb.go:55", after := #[{ on := 7, ground := Ground.data }], guard := none }) (v := ?_) rfl (by kernel_rfl) (by kernel_rfl) (by kernel_rfl) (fun _ _ _ h => h) (Or.inl ⟨by rfl, ?_⟩) (by assumption) ?_
                rotate_left
                · (intro wY hSw; (try dsimp only at hSw); go_simp; try with_reducible rfl)
                simp only [Act.put, List.setIfInBounds_toArray, List.set_cons_zero, List.set_cons_succ]
                refine wpAnyH_take (i := 9) (oi := { dst := some 42, op := Op.move (Operand.tmp 0), type := 24, pos := "l08_fdb.go:55", after := #[{ on := 8, ground := Ground.guard }], guard := some (8, false) }) (v := ?_) rfl (by kernel_rfl) (by kernel_rfl) (by kernel_rfl) (fun _ _ _ h => h) (Or.inl ⟨by rfl, ?_⟩) (by assumption) ?_
                rotate_left
                · (intro wY hSw; (try dsimp only at hSw); go_simp; try with_reducible rfl)
                simp only [Act.put, List.setIfInBounds_toArray, List.set_cons_zero, List.set_cons_succ]
                refine wpAnyH_take (i := 10) (oi := { dst := some 43, op := Op.move (Operand.tmp 7), type := 3, pos := "l08_fdb.go:55", after := #[{ on := 8, ground := Ground.guard }], guard := some (8, false) }) (v := ?_) rfl (by kernel_rfl) (by kernel_rfl) (by kernel_rfl) (fun _ _ _ h => h) (Or.inl ⟨by rfl, ?_⟩) (by assumption) ?_
                rotate_left
                · (intro wY hSw; (try dsimp only at hSw); go_simp; try with_reducible rfl)
                simp only [Act.put, List.setIfInBounds_toArray, List.set_cons_zero, List.set_cons_succ]
                refine wpAnyH_take (i := 11) (oi := { dst := some 44, op := Op.indexAddr 24 (Operand.tmp 42) (Operand.tmp 43), type := 0, pos := "l08_fdb.go:55", after := #[{ on := 9, ground := Ground.data }, { on := 10, ground := Ground.data }, { on := 8, ground := Ground.guard }], guard := some (8, false) }) (v := ?_) rfl (by kernel_rfl) (by kernel_rfl) (by kernel_rfl) (fun _ _ _ h => h) (Or.inl ⟨by rfl, ?_⟩) (by assumption) ?_
                rotate_left
                · (intro wY hSw; (try dsimp only at hSw); go_simp; try with_reducible rfl)
                simp only [Act.put, List.setIfInBounds_toArray, List.set_cons_zero, List.set_cons_succ]
                refine wpAnyH_take (i := 12) (oi := { dst := some 45, op := Op.fieldAddr 30 (Operand.tmp 44) 1, type := 0, pos := "l08_fdb.go:55", after := #[{ on := 11, ground := Ground.data }, { on := 8, ground := Ground.guard }], guard := some (8, false) }) (v := ?_) rfl (by kernel_rfl) (by kernel_rfl) (by kernel_rfl) (fun _ _ _ h => h) (Or.inl ⟨by rfl, ?_⟩) (by assumption) ?_
                rotate_left
                · (intro wY hSw; (try dsimp only at hSw); go_simp; try with_reducible rfl)
                simp only [Act.put, List.setIfInBounds_toArray, List.set_cons_zero, List.set_cons_succ]
                refine wpAnyH_take (i := 13) (oi := { dst := some 46, op := Op.load 3 (Operand.tmp 45), type := 3, pos := "l08_fdb.go:55", after := #[{ on := 12, ground := Ground.data }, { on := 8, ground := Ground.guard }], guard := some (8, false) }) (v := ?_) rfl (by kernel_rfl) (by kernel_rfl) (by kernel_rfl) (fun _ _ _ h => h) (Or.inl ⟨by rfl, ?_⟩) (by assumption) ?_
                rotate_left
                · (intro wY hSw; (try dsimp only at hSw); go_simp; try with_reducible rfl)
                simp only [Act.put, List.setIfInBounds_toArray, List.set_cons_zero, List.set_cons_succ]
                refine wpAnyH_take (i := 14) (oi := { dst := some 47, op := Op.fieldAddr 30 (Operand.tmp 3) 1, type := 0, pos := "l08_fdb.go:55", after := #[{ on := 8, ground := Ground.guard }], guard := some (8, false) }) (v := ?_) rfl (by kernel_rfl) (by kernel_rfl) (by kernel_rfl) (fun _ _ _ h => h) (Or.inl ⟨by rfl, ?_⟩) (by assumption) ?_
                rotate_left
                · (intro wY hSw; (try dsimp only at hSw); go_simp; try with_reducible rfl)
                simp only [Act.put, List.setIfInBounds_toArray, List.set_cons_zero, List.set_cons_succ]
                refine wpAnyH_take (i := 15) (oi := { dst := some 48, op := Op.load 3 (Operand.tmp 47), type := 3, pos := "l08_fdb.go:55", after := #[{ on := 14, ground := Ground.data }, { on := 8, ground := Ground.guard }], guard := some (8, false) }) (v := ?_) rfl (by kernel_rfl) (by kernel_rfl) (by kernel_rfl) (fun _ _ _ h => h) (Or.inl ⟨by rfl, ?_⟩) (by assumption) ?_
                rotate_left
                · (intro wY hSw; (try dsimp only at hSw); go_simp; try with_reducible rfl)
                simp only [Act.put, List.setIfInBounds_toArray, List.set_cons_zero, List.set_cons_succ]
                refine wpAnyH_take (i := 16) (oi := { dst := some 49, op := Op.binOp BinOp.neq 3 (Operand.tmp 46) (Operand.tmp 48) 3, type := 4, pos := "l08_fdb.go:55", after := #[{ on := 13, ground := Ground.data }, { on := 15, ground := Ground.data }, { on := 8, ground := Ground.guard }], guard := some (8, false) }) (v := ?_) rfl (by kernel_rfl) (by kernel_rfl) (by kernel_rfl) (fun _ _ _ h => h) (Or.inl ⟨by rfl, ?_⟩) (by assumption) ?_
                rotate_left
                · (intro wY hSw; (try dsimp only at hSw); go_simp; try with_reducible rfl)
                simp only [Act.put, List.setIfInBounds_toArray, List.set_cons_zero, List.set_cons_succ]
                refine wpAnyH_take (i := 17) (oi := { dst := some 50, op := Op.pick (Operand.tmp 41) (Operand.const (Value.bool true)) (Operand.tmp 49), type := 4, pos := "l08_fdb.go:55", after := #[{ on := 8, ground := Ground.data }, { on := 16, ground := Ground.data }], guard := none }) (v := ?_) rfl (by kernel_rfl) (by kernel_rfl) (by kernel_rfl) (fun _ _ _ h => h) (Or.inl ⟨by rfl, ?_⟩) (by assumption) ?_
                rotate_left
                · (intro wY hSw; (try dsimp only at hSw); go_simp; try with_reducible rfl)
                simp only [Act.put, List.setIfInBounds_toArray, List.set_cons_zero, List.set_cons_succ]
                refine wpAnyH_done (by kernel_rfl) ?_ _
                obtain ⟨y0, y1, y2, y3, y4⟩ := (at5 hr vv).2 k x hx
                have hl1 : (zq ++ [x]).length = nq + 1 := by simp [hzq]
                have kd := kept_block kq vv
                have od := gown_below oq vv
                have bd := gr_trans bq vv
                clear vv hHeld
                generalize hwd : wq.drew = wd at *
                clear hwd
                have kq1 := kept_block kd (below_one wd (.cells #[.int .i64 x.t, .int .i64 x.m, .int .i64 x.p, .int .i64 x.a, .bool x.s] 30))
                have oq1 := gown_below od (below_one wd (.cells #[.int .i64 x.t, .int .i64 x.m, .int .i64 x.p, .int .i64 x.a, .bool x.s] 30))
                have HQ := hide (show zq ++ [x] ++ putGo e true (l.drop (k + 1)) = putGo e false l from (show zq ++ [x] ++ putGo e true (l.drop (k + 1)) = zs ++ putGo e false (x :: l.drop (k + 1)) by rw [← hzz]; exact putGo_yes HA.out hbo).trans (by rw [← drop_at hx]; exact hz))
                have HBQ := hide (gr_trans bd (below_one wd (.cells #[.int .i64 x.t, .int .i64 x.m, .int .i64 x.p, .int .i64 x.a, .bool x.s] 30)))
                have hbase9 := (Array.getElem?_eq_some_iff.1 kq1).1
                go_wp2_with (at_builtin; refine fent_append _ rfl _ _ rfl (w.heap.size + 1) _ nq zq rfl oq1 _ 1 1 [x] rfl (grow_one fentF _ x _ _ rfl) (by omega) hbase9 ?_)
                intro ao9 cap9 w9 how9 hr9 hgr9 hb9
                have kq9 := kept_base kq1 hb9 (by omega)
                have b9 : Below w.heap.size w w9 := HBQ.out.trans (hb9.mono (by omega))
                have HO := hide how9
                have HB9 := hide b9
                have HK9 := hide kq9
                have HL := hide hl1
                clear how9 hr9 hgr9 hb9 kq9 b9 oq1 kq1 kq oq bq hr hl1 HBQ kd od bd
                go_wp2
                go_roundw
                case rel => exact ⟨k + 1, true, zq ++ [x], ao9, cap9, nq + 1, by omega, by go_num, rfl, rfl, HL.out, by omega, HO.out, HQ.out, HB9.out, HK9.out⟩
                case measure => simp [intOf]; omega
            · have hbo : both x e.t e.m = false := by simp at t1; exact both_not.2 (fun h => t1 h.1)
              go_wp2_with fail
              refine wp_region_held_drew (S := (fun W => (W.cell? ⟨b, off + k * 5, none⟩ = some (.int .i64 x.t) ∧ W.cell? ⟨b, off + k * 5 + 1, none⟩ = some (.int .i64 x.m) ∧ W.cell? ⟨b, off + k * 5 + 2, none⟩ = some (.int .i64 x.p) ∧ W.cell? ⟨b, off + k * 5 + 3, none⟩ = some (.int .i64 x.a) ∧ W.cell? ⟨b, off + k * 5 + 4, none⟩ = some (.bool x.s)) ∧ (W.cell? ⟨w.heap.size, 0, none⟩ = some (.int .i64 e.t) ∧ W.cell? ⟨w.heap.size, 1, none⟩ = some (.int .i64 e.m) ∧ W.cell? ⟨w.heap.size, 2, none⟩ = some (.int .i64 e.p) ∧ W.cell? ⟨w.heap.size, 3, none⟩ = some (.int .i64 e.a) ∧ W.cell? ⟨w.heap.size, 4, none⟩ = some (.bool e.s)))) (by kernel_rfl) (⟨(at5 hr vv).2 k x hx, (cells5 (kept_block kq vv)).1⟩) (fun hHeld => ?_)
              refine wpAnyH_take (i := 0) (oi := { dst := some 33, op := Op.move (Operand.tmp 0), type := 24, pos := "l08_fdb.go:55", after := #[], guard := none }) (v := ?_) rfl (by kernel_rfl) (by kernel_rfl) (by kernel_rfl) (fun _ _ _ h => h) (Or.inl ⟨by rfl, ?_⟩) (by assumption) ?_
              rotate_left
              · (intro wY hSw; (try dsimp only at hSw); go_simp; try with_reducible rfl)
              simp only [Act.put, List.setIfInBounds_toArray, List.set_cons_zero, List.set_cons_succ]
              refine wpAnyH_take (i := 1) (oi := { dst := some 34, op := Op.move (Operand.tmp 7), type := 3, pos := "l08_fdb.go:55", after := #[], guard := none }) (v := ?_) rfl (by kernel_rfl) (by kernel_rfl) (by kernel_rfl) (fun _ _ _ h => h) (Or.inl ⟨by rfl, ?_⟩) (by assumption) ?_
              rotate_left
              · (intro wY hSw; (try dsimp only at hSw); go_simp; try with_reducible rfl)
              simp only [Act.put, List.setIfInBounds_toArray, List.set_cons_zero, List.set_cons_succ]
              refine wpAnyH_take (i := 2) (oi := { dst := some 35, op := Op.indexAddr 24 (Operand.tmp 33) (Operand.tmp 34), type := 0, pos := "l08_fdb.go:55", after := #[{ on := 0, ground := Ground.data }, { on := 1, ground := Ground.data }], guard := none }) (v := ?_) rfl (by kernel_rfl) (by kernel_rfl) (by kernel_rfl) (fun _ _ _ h => h) (Or.inl ⟨by rfl, ?_⟩) (by assumption) ?_
              rotate_left
              · (intro wY hSw; (try dsimp only at hSw); go_simp; try with_reducible rfl)
              simp only [Act.put, List.setIfInBounds_toArray, List.set_cons_zero, List.set_cons_succ]
              refine wpAnyH_take (i := 3) (oi := { dst := some 36, op := Op.fieldAddr 30 (Operand.tmp 35) 0, type := 0, pos := "l08_fdb.go:55", after := #[{ on := 2, ground := Ground.data }], guard := none }) (v := ?_) rfl (by kernel_rfl) (by kernel_rfl) (by kernel_rfl) (fun _ _ _ h => h) (Or.inl ⟨by rfl, ?_⟩) (by assumption) ?_
              rotate_left
              · (intro wY hSw; (try dsimp only at hSw); go_simp; try with_reducible rfl)
              simp only [Act.put, List.setIfInBounds_toArray, List.set_cons_zero, List.set_cons_succ]
              refine wpAnyH_take (i := 4) (oi := { dst := some 37, op := Op.load 3 (Operand.tmp 36), type := 3, pos := "l08_fdb.go:55", after := #[{ on := 3, ground := Ground.data }], guard := none }) (v := ?_) rfl (by kernel_rfl) (by kernel_rfl) (by kernel_rfl) (fun _ _ _ h => h) (Or.inl ⟨by rfl, ?_⟩) (by assumption) ?_
              rotate_left
              · (intro wY hSw; (try dsimp only at hSw); go_simp; try with_reducible rfl)
              simp only [Act.put, List.setIfInBounds_toArray, List.set_cons_zero, List.set_cons_succ]
              refine wpAnyH_take (i := 5) (oi := { dst := some 38, op := Op.fieldAddr 30 (Operand.tmp 3) 0, type := 0, pos := "l08_fdb.go:55", after := #[], guard := none }) (v := ?_) rfl (by kernel_rfl) (by kernel_rfl) (by kernel_rfl) (fun _ _ _ h => h) (Or.inl ⟨by rfl, ?_⟩) (by assumption) ?_
              rotate_left
              · (intro wY hSw; (try dsimp only at hSw); go_simp; try with_reducible rfl)
              simp only [Act.put, List.setIfInBounds_toArray, List.set_cons_zero, List.set_cons_succ]
              refine wpAnyH_take (i := 6) (oi := { dst := some 39, op := Op.load 3 (Operand.tmp 38), type := 3, pos := "l08_fdb.go:55", after := #[{ on := 5, ground := Ground.data }], guard := none }) (v := ?_) rfl (by kernel_rfl) (by kernel_rfl) (by kernel_rfl) (fun _ _ _ h => h) (Or.inl ⟨by rfl, ?_⟩) (by assumption) ?_
              rotate_left
              · (intro wY hSw; (try dsimp only at hSw); go_simp; try with_reducible rfl)
              simp only [Act.put, List.setIfInBounds_toArray, List.set_cons_zero, List.set_cons_succ]
              refine wpAnyH_take (i := 7) (oi := { dst := some 40, op := Op.binOp BinOp.neq 3 (Operand.tmp 37) (Operand.tmp 39) 3, type := 4, pos := "l08_fdb.go:55", after := #[{ on := 4, ground := Ground.data }, { on := 6, ground := Ground.data }], guard := none }) (v := ?_) rfl (by kernel_rfl) (by kernel_rfl) (by kernel_rfl) (fun _ _ _ h => h) (Or.inl ⟨by rfl, ?_⟩) (by assumption) ?_
              rotate_left
              · (intro wY hSw; (try dsimp only at hSw); go_simp; try with_reducible rfl)
              simp only [Act.put, List.setIfInBounds_toArray, List.set_cons_zero, List.set_cons_succ]
              refine wpAnyH_take (i := 8) (oi := { dst := some 41, op := Op.move (Operand.tmp 40), type := 4, pos := "l08_fdb.go:55", after := #[{ on := 7, ground := Ground.data }], guard := none }) (v := ?_) rfl (by kernel_rfl) (by kernel_rfl) (by kernel_rfl) (fun _ _ _ h => h) (Or.inl ⟨by rfl, ?_⟩) (by assumption) ?_
              rotate_left
              · (intro wY hSw; (try dsimp only at hSw); go_simp; try with_reducible rfl)
              simp only [Act.put, List.setIfInBounds_toArray, List.set_cons_zero, List.set_cons_succ]
              refine wpAnyH_take (i := 9) (oi := { dst := some 42, op := Op.move (Operand.tmp 0), type := 24, pos := "l08_fdb.go:55", after := #[{ on := 8, ground := Ground.guard }], guard := some (8, false) }) (v := undef) rfl (by kernel_rfl) (by kernel_rfl) (by kernel_rfl) (fun _ _ _ h => h) (Or.inr ⟨by rfl, rfl⟩) (by assumption) ?_
              simp only [Act.put, List.setIfInBounds_toArray, List.set_cons_zero, List.set_cons_succ]
              refine wpAnyH_take (i := 10) (oi := { dst := some 43, op := Op.move (Operand.tmp 7), type := 3, pos := "l08_fdb.go:55", after := #[{ on := 8, ground := Ground.guard }], guard := some (8, false) }) (v := undef) rfl (by kernel_rfl) (by kernel_rfl) (by kernel_rfl) (fun _ _ _ h => h) (Or.inr ⟨by rfl, rfl⟩) (by assumption) ?_
              simp only [Act.put, List.setIfInBounds_toArray, List.set_cons_zero, List.set_cons_succ]
              refine wpAnyH_take (i := 11) (oi := { dst := some 44, op := Op.indexAddr 24 (Operand.tmp 42) (Operand.tmp 43), type := 0, pos := "l08_fdb.go:55", after := #[{ on := 9, ground := Ground.data }, { on := 10, ground := Ground.data }, { on := 8, ground := Ground.guard }], guard := some (8, false) }) (v := undef) rfl (by kernel_rfl) (by kernel_rfl) (by kernel_rfl) (fun _ _ _ h => h) (Or.inr ⟨by rfl, rfl⟩) (by assumption) ?_
              simp only [Act.put, List.setIfInBounds_toArray, List.set_cons_zero, List.set_cons_succ]
              refine wpAnyH_take (i := 12) (oi := { dst := some 45, op := Op.fieldAddr 30 (Operand.tmp 44) 1, type := 0, pos := "l08_fdb.go:55", after := #[{ on := 11, ground := Ground.data }, { on := 8, ground := Ground.guard }], guard := some (8, false) }) (v := undef) rfl (by kernel_rfl) (by kernel_rfl) (by kernel_rfl) (fun _ _ _ h => h) (Or.inr ⟨by rfl, rfl⟩) (by assumption) ?_
              simp only [Act.put, List.setIfInBounds_toArray, List.set_cons_zero, List.set_cons_succ]
              refine wpAnyH_take (i := 13) (oi := { dst := some 46, op := Op.load 3 (Operand.tmp 45), type := 3, pos := "l08_fdb.go:55", after := #[{ on := 12, ground := Ground.data }, { on := 8, ground := Ground.guard }], guard := some (8, false) }) (v := undef) rfl (by kernel_rfl) (by kernel_rfl) (by kernel_rfl) (fun _ _ _ h => h) (Or.inr ⟨by rfl, rfl⟩) (by assumption) ?_
              simp only [Act.put, List.setIfInBounds_toArray, List.set_cons_zero, List.set_cons_succ]
              refine wpAnyH_take (i := 14) (oi := { dst := some 47, op := Op.fieldAddr 30 (Operand.tmp 3) 1, type := 0, pos := "l08_fdb.go:55", after := #[{ on := 8, ground := Ground.guard }], guard := some (8, false) }) (v := undef) rfl (by kernel_rfl) (by kernel_rfl) (by kernel_rfl) (fun _ _ _ h => h) (Or.inr ⟨by rfl, rfl⟩) (by assumption) ?_
              simp only [Act.put, List.setIfInBounds_toArray, List.set_cons_zero, List.set_cons_succ]
              refine wpAnyH_take (i := 15) (oi := { dst := some 48, op := Op.load 3 (Operand.tmp 47), type := 3, pos := "l08_fdb.go:55", after := #[{ on := 14, ground := Ground.data }, { on := 8, ground := Ground.guard }], guard := some (8, false) }) (v := undef) rfl (by kernel_rfl) (by kernel_rfl) (by kernel_rfl) (fun _ _ _ h => h) (Or.inr ⟨by rfl, rfl⟩) (by assumption) ?_
              simp only [Act.put, List.setIfInBounds_toArray, List.set_cons_zero, List.set_cons_succ]
              refine wpAnyH_take (i := 16) (oi := { dst := some 49, op := Op.binOp BinOp.neq 3 (Operand.tmp 46) (Operand.tmp 48) 3, type := 4, pos := "l08_fdb.go:55", after := #[{ on := 13, ground := Ground.data }, { on := 15, ground := Ground.data }, { on := 8, ground := Ground.guard }], guard := some (8, false) }) (v := undef) rfl (by kernel_rfl) (by kernel_rfl) (by kernel_rfl) (fun _ _ _ h => h) (Or.inr ⟨by rfl, rfl⟩) (by assumption) ?_
              simp only [Act.put, List.setIfInBounds_toArray, List.set_cons_zero, List.set_cons_succ]
              refine wpAnyH_take (i := 17) (oi := { dst := some 50, op := Op.pick (Operand.tmp 41) (Operand.const (Value.bool true)) (Operand.tmp 49), type := 4, pos := "l08_fdb.go:55", after := #[{ on := 8, ground := Ground.data }, { on := 16, ground := Ground.data }], guard := none }) (v := ?_) rfl (by kernel_rfl) (by kernel_rfl) (by kernel_rfl) (fun _ _ _ h => h) (Or.inl ⟨by rfl, ?_⟩) (by assumption) ?_
              rotate_left
              · (intro wY hSw; (try dsimp only at hSw); go_simp; try with_reducible rfl)
              simp only [Act.put, List.setIfInBounds_toArray, List.set_cons_zero, List.set_cons_succ]
              refine wpAnyH_done (by kernel_rfl) ?_ _
              obtain ⟨y0, y1, y2, y3, y4⟩ := (at5 hr vv).2 k x hx
              have hl1 : (zq ++ [x]).length = nq + 1 := by simp [hzq]
              have kd := kept_block kq vv
              have od := gown_below oq vv
              have bd := gr_trans bq vv
              clear vv hHeld
              generalize hwd : wq.drew = wd at *
              clear hwd
              have kq1 := kept_block kd (below_one wd (.cells #[.int .i64 x.t, .int .i64 x.m, .int .i64 x.p, .int .i64 x.a, .bool x.s] 30))
              have oq1 := gown_below od (below_one wd (.cells #[.int .i64 x.t, .int .i64 x.m, .int .i64 x.p, .int .i64 x.a, .bool x.s] 30))
              have HQ := hide (show zq ++ [x] ++ putGo e true (l.drop (k + 1)) = putGo e false l from (show zq ++ [x] ++ putGo e true (l.drop (k + 1)) = zs ++ putGo e false (x :: l.drop (k + 1)) by rw [← hzz]; exact putGo_yes HA.out hbo).trans (by rw [← drop_at hx]; exact hz))
              have HBQ := hide (gr_trans bd (below_one wd (.cells #[.int .i64 x.t, .int .i64 x.m, .int .i64 x.p, .int .i64 x.a, .bool x.s] 30)))
              have hbase9 := (Array.getElem?_eq_some_iff.1 kq1).1
              go_wp2_with (at_builtin; refine fent_append _ rfl _ _ rfl (w.heap.size + 1) _ nq zq rfl oq1 _ 1 1 [x] rfl (grow_one fentF _ x _ _ rfl) (by omega) hbase9 ?_)
              intro ao9 cap9 w9 how9 hr9 hgr9 hb9
              have kq9 := kept_base kq1 hb9 (by omega)
              have b9 : Below w.heap.size w w9 := HBQ.out.trans (hb9.mono (by omega))
              have HO := hide how9
              have HB9 := hide b9
              have HK9 := hide kq9
              have HL := hide hl1
              clear how9 hr9 hgr9 hb9 kq9 b9 oq1 kq1 kq oq bq hr hl1 HBQ kd od bd
              go_wp2
              go_roundw
              case rel => exact ⟨k + 1, true, zq ++ [x], ao9, cap9, nq + 1, by omega, by go_num, rfl, rfl, HL.out, by omega, HO.out, HQ.out, HB9.out, HK9.out⟩
              case measure => simp [intOf]; omega
          exact AllReadyH.nil
        · have HA := hide ha
          have hr := h.below hb
          have kq := hbox
          have vv : Below wr.heap.size wr wr.drew := gr_drew (Below.refl _ _)
          go_wp2_with fail
          refine wp_region_held_drew (S := (fun W => (W.cell? ⟨b, off + k * 5, none⟩ = some (.int .i64 x.t) ∧ W.cell? ⟨b, off + k * 5 + 1, none⟩ = some (.int .i64 x.m) ∧ W.cell? ⟨b, off + k * 5 + 2, none⟩ = some (.int .i64 x.p) ∧ W.cell? ⟨b, off + k * 5 + 3, none⟩ = some (.int .i64 x.a) ∧ W.cell? ⟨b, off + k * 5 + 4, none⟩ = some (.bool x.s)) ∧ (W.cell? ⟨w.heap.size, 0, none⟩ = some (.int .i64 e.t) ∧ W.cell? ⟨w.heap.size, 1, none⟩ = some (.int .i64 e.m) ∧ W.cell? ⟨w.heap.size, 2, none⟩ = some (.int .i64 e.p) ∧ W.cell? ⟨w.heap.size, 3, none⟩ = some (.int .i64 e.a) ∧ W.cell? ⟨w.heap.size, 4, none⟩ = some (.bool e.s)))) (by kernel_rfl) (⟨(at5 hr vv).2 k x hx, (cells5 (kept_block kq vv)).1⟩) (fun hHeld => ?_)
          refine wpAnyH_take (i := 0) (oi := { dst := some 15, op := Op.move (Operand.tmp 6), type := 4, pos := "l08_fdb.go:51", after := #[], guard := none }) (v := ?_) rfl (by kernel_rfl) (by kernel_rfl) (by kernel_rfl) (fun _ _ _ h => h) (Or.inl ⟨by rfl, ?_⟩) (by assumption) ?_
          rotate_left
          · (intro wY hSw; (try dsimp only at hSw); go_simp; try with_reducible rfl)
          simp only [Act.put, List.setIfInBounds_toArray, List.set_cons_zero, List.set_cons_succ]
          refine wpAnyH_take (i := 1) (oi := { dst := some 16, op := Op.unOp UnOp.not 4 (Operand.tmp 15), type := 4, pos := "l08_fdb.go:51", after := #[{ on := 0, ground := Ground.data }], guard := none }) (v := ?_) rfl (by kernel_rfl) (by kernel_rfl) (by kernel_rfl) (fun _ _ _ h => h) (Or.inl ⟨by rfl, ?_⟩) (by assumption) ?_
          rotate_left
          · (intro wY hSw; (try dsimp only at hSw); go_simp; try with_reducible rfl)
          simp only [Act.put, List.setIfInBounds_toArray, List.set_cons_zero, List.set_cons_succ]
          refine wpAnyH_take (i := 2) (oi := { dst := some 17, op := Op.move (Operand.tmp 16), type := 4, pos := "l08_fdb.go:51", after := #[{ on := 1, ground := Ground.data }], guard := none }) (v := ?_) rfl (by kernel_rfl) (by kernel_rfl) (by kernel_rfl) (fun _ _ _ h => h) (Or.inl ⟨by rfl, ?_⟩) (by assumption) ?_
          rotate_left
          · (intro wY hSw; (try dsimp only at hSw); go_simp; try with_reducible rfl)
          simp only [Act.put, List.setIfInBounds_toArray, List.set_cons_zero, List.set_cons_succ]
          refine wpAnyH_take (i := 3) (oi := { dst := some 18, op := Op.move (Operand.tmp 0), type := 24, pos := "l08_fdb.go:51", after := #[{ on := 2, ground := Ground.guard }], guard := some (2, true) }) (v := ?_) rfl (by kernel_rfl) (by kernel_rfl) (by kernel_rfl) (fun _ _ _ h => h) (Or.inl ⟨by rfl, ?_⟩) (by assumption) ?_
          rotate_left
          · (intro wY hSw; (try dsimp only at hSw); go_simp; try with_reducible rfl)
          simp only [Act.put, List.setIfInBounds_toArray, List.set_cons_zero, List.set_cons_succ]
          refine wpAnyH_take (i := 4) (oi := { dst := some 19, op := Op.move (Operand.tmp 7), type := 3, pos := "l08_fdb.go:51", after := #[{ on := 2, ground := Ground.guard }], guard := some (2, true) }) (v := ?_) rfl (by kernel_rfl) (by kernel_rfl) (by kernel_rfl) (fun _ _ _ h => h) (Or.inl ⟨by rfl, ?_⟩) (by assumption) ?_
          rotate_left
          · (intro wY hSw; (try dsimp only at hSw); go_simp; try with_reducible rfl)
          simp only [Act.put, List.setIfInBounds_toArray, List.set_cons_zero, List.set_cons_succ]
          refine wpAnyH_take (i := 5) (oi := { dst := some 20, op := Op.indexAddr 24 (Operand.tmp 18) (Operand.tmp 19), type := 0, pos := "l08_fdb.go:51", after := #[{ on := 3, ground := Ground.data }, { on := 4, ground := Ground.data }, { on := 2, ground := Ground.guard }], guard := some (2, true) }) (v := ?_) rfl (by kernel_rfl) (by kernel_rfl) (by kernel_rfl) (fun _ _ _ h => h) (Or.inl ⟨by rfl, ?_⟩) (by assumption) ?_
          rotate_left
          · (intro wY hSw; (try dsimp only at hSw); go_simp; try with_reducible rfl)
          simp only [Act.put, List.setIfInBounds_toArray, List.set_cons_zero, List.set_cons_succ]
          refine wpAnyH_take (i := 6) (oi := { dst := some 21, op := Op.load 30 (Operand.tmp 20), type := 30, pos := "l08_fdb.go:51", after := #[{ on := 5, ground := Ground.data }, { on := 2, ground := Ground.guard }], guard := some (2, true) }) (v := ?_) rfl (by kernel_rfl) (by kernel_rfl) (by kernel_rfl) (fun _ _ _ h => h) (Or.inl ⟨by rfl, ?_⟩) (by assumption) ?_
          rotate_left
          · (intro wY hSw; (try dsimp only at hSw); go_simp; try with_reducible rfl)
          simp only [Act.put, List.setIfInBounds_toArray, List.set_cons_zero, List.set_cons_succ]
          refine wpAnyH_take (i := 7) (oi := { dst := some 22, op := Op.fieldAddr 30 (Operand.tmp 3) 0, type := 0, pos := "l08_fdb.go:51", after := #[{ on := 2, ground := Ground.guard }], guard := some (2, true) }) (v := ?_) rfl (by kernel_rfl) (by kernel_rfl) (by kernel_rfl) (fun _ _ _ h => h) (Or.inl ⟨by rfl, ?_⟩) (by assumption) ?_
          rotate_left
          · (intro wY hSw; (try dsimp only at hSw); go_simp; try with_reducible rfl)
          simp only [Act.put, List.setIfInBounds_toArray, List.set_cons_zero, List.set_cons_succ]
          refine wpAnyH_take (i := 8) (oi := { dst := some 23, op := Op.load 3 (Operand.tmp 22), type := 3, pos := "l08_fdb.go:51", after := #[{ on := 7, ground := Ground.data }, { on := 2, ground := Ground.guard }], guard := some (2, true) }) (v := ?_) rfl (by kernel_rfl) (by kernel_rfl) (by kernel_rfl) (fun _ _ _ h => h) (Or.inl ⟨by rfl, ?_⟩) (by assumption) ?_
          rotate_left
          · (intro wY hSw; (try dsimp only at hSw); go_simp; try with_reducible rfl)
          simp only [Act.put, List.setIfInBounds_toArray, List.set_cons_zero, List.set_cons_succ]
          refine wpAnyH_take (i := 9) (oi := { dst := some 24, op := Op.fieldAddr 30 (Operand.tmp 3) 1, type := 0, pos := "l08_fdb.go:51", after := #[{ on := 2, ground := Ground.guard }], guard := some (2, true) }) (v := ?_) rfl (by kernel_rfl) (by kernel_rfl) (by kernel_rfl) (fun _ _ _ h => h) (Or.inl ⟨by rfl, ?_⟩) (by assumption) ?_
          rotate_left
          · (intro wY hSw; (try dsimp only at hSw); go_simp; try with_reducible rfl)
          simp only [Act.put, List.setIfInBounds_toArray, List.set_cons_zero, List.set_cons_succ]
          refine wpAnyH_take (i := 10) (oi := { dst := some 25, op := Op.load 3 (Operand.tmp 24), type := 3, pos := "l08_fdb.go:51", after := #[{ on := 9, ground := Ground.data }, { on := 2, ground := Ground.guard }], guard := some (2, true) }) (v := ?_) rfl (by kernel_rfl) (by kernel_rfl) (by kernel_rfl) (fun _ _ _ h => h) (Or.inl ⟨by rfl, ?_⟩) (by assumption) ?_
          rotate_left
          · (intro wY hSw; (try dsimp only at hSw); go_simp; try with_reducible rfl)
          simp only [Act.put, List.setIfInBounds_toArray, List.set_cons_zero, List.set_cons_succ]
          refine wpAnyH_ready (rs := [11]) (by kernel_rfl) (by simp) ?_
          refine AllReadyH.cons (o := { dst := some 26, op := Op.call { callee := Callee.value (Operand.func 55), args := #[Operand.tmp 21, Operand.tmp 23, Operand.tmp 25], argTypes := #[30, 3, 3] }, type := 4, pos := "l08_fdb.go:51", after := #[{ on := 6, ground := Ground.data }, { on := 8, ground := Ground.data }, { on := 10, ground := Ground.data }, { on := 2, ground := Ground.chain }, { on := 2, ground := Ground.guard }], guard := some (2, true) }) rfl (fun K hK => ?_) ?_
          · go_simp
            refine (specAhead_any x e.t e.m _).mono ?_
            rintro r wx ⟨rfl, hbx⟩
            rw [HA.out]
            have vv := gr_trans vv hbx
            go_wp2_with fail
            refine hK.out _ _ (⟨(at5 hr vv).2 k x hx, (cells5 (kept_block kq vv)).1⟩) (fun hHeld => ?_)
            clear hK K
            try simp only [Act.put, List.setIfInBounds_toArray, List.set_cons_zero, List.set_cons_succ]
            refine wpAnyH_take (i := 12) (oi := { dst := some 27, op := Op.unOp UnOp.not 4 (Operand.tmp 26), type := 4, pos := "l08_fdb.go:51", after := #[{ on := 11, ground := Ground.data }, { on := 2, ground := Ground.guard }], guard := some (2, true) }) (v := ?_) rfl (by kernel_rfl) (by kernel_rfl) (by kernel_rfl) (fun _ _ _ h => h) (Or.inl ⟨by rfl, ?_⟩) (by assumption) ?_
            rotate_left
            · (intro wY hSw; (try dsimp only at hSw); go_simp; try with_reducible rfl)
            simp only [Act.put, List.setIfInBounds_toArray, List.set_cons_zero, List.set_cons_succ]
            refine wpAnyH_take (i := 13) (oi := { dst := some 28, op := Op.pick (Operand.tmp 17) (Operand.tmp 27) (Operand.const (Value.bool false)), type := 4, pos := "l08_fdb.go:51", after := #[{ on := 2, ground := Ground.data }, { on := 12, ground := Ground.data }], guard := none }) (v := ?_) rfl (by kernel_rfl) (by kernel_rfl) (by kernel_rfl) (fun _ _ _ h => h) (Or.inl ⟨by rfl, ?_⟩) (by assumption) ?_
            rotate_left
            · (intro wY hSw; (try dsimp only at hSw); go_simp; try with_reducible rfl)
            simp only [Act.put, List.setIfInBounds_toArray, List.set_cons_zero, List.set_cons_succ]
            refine wpAnyH_done (by kernel_rfl) ?_ _
            have bq := gr_trans hb vv
            have kq1 := kept_block hbox vv
            have oq := gown_below how vv
            clear kq vv hr hbx hb hbox how
            have kq := kq1
            clear kq1
            generalize hwq : wx = wq at *
            clear hwq
            generalize hzz : zs = zq at *
            clear hzz
            generalize az = aq at *
            generalize cz = cq at *
            generalize nz = nq at *
            have hzq := hzs
            have hr := h.below bq
            have vv : Below wq.heap.size wq wq.drew := gr_drew (Below.refl _ _)
            cases t1 : (x.t != e.t)
            · cases t2 : (x.m != e.m)
              · have hbo : both x e.t e.m = true := by simp at t1 t2; exact both_iff.2 ⟨t1, t2⟩
                go_wp2_with fail
                refine wp_region_held_drew (S := (fun W => (W.cell? ⟨b, off + k * 5, none⟩ = some (.int .i64 x.t) ∧ W.cell? ⟨b, off + k * 5 + 1, none⟩ = some (.int .i64 x.m) ∧ W.cell? ⟨b, off + k * 5 + 2, none⟩ = some (.int .i64 x.p) ∧ W.cell? ⟨b, off + k * 5 + 3, none⟩ = some (.int .i64 x.a) ∧ W.cell? ⟨b, off + k * 5 + 4, none⟩ = some (.bool x.s)) ∧ (W.cell? ⟨w.heap.size, 0, none⟩ = some (.int .i64 e.t) ∧ W.cell? ⟨w.heap.size, 1, none⟩ = some (.int .i64 e.m) ∧ W.cell? ⟨w.heap.size, 2, none⟩ = some (.int .i64 e.p) ∧ W.cell? ⟨w.heap.size, 3, none⟩ = some (.int .i64 e.a) ∧ W.cell? ⟨w.heap.size, 4, none⟩ = some (.bool e.s)))) (by kernel_rfl) (⟨(at5 hr vv).2 k x hx, (cells5 (kept_block kq vv)).1⟩) (fun hHeld => ?_)
                refine wpAnyH_take (i := 0) (oi := { dst := some 33, op := Op.move (Operand.tmp 0), type := 24, pos := "l08_fdb.go:55", after := #[], guard := none }) (v := ?_) rfl (by kernel_rfl) (by kernel_rfl) (by kernel_rfl) (fun _ _ _ h => h) (Or.inl ⟨by rfl, ?_⟩) (by assumption) ?_
                rotate_left
                · (intro wY hSw; (try dsimp only at hSw); go_simp; try with_reducible rfl)
                simp only [Act.put, List.setIfInBounds_toArray, List.set_cons_zero, List.set_cons_succ]
                refine wpAnyH_take (i := 1) (oi := { dst := some 34, op := Op.move (Operand.tmp 7), type := 3, pos := "l08_fdb.go:55", after := #[], guard := none }) (v := ?_) rfl (by kernel_rfl) (by kernel_rfl) (by kernel_rfl) (fun _ _ _ h => h) (Or.inl ⟨by rfl, ?_⟩) (by assumption) ?_
                rotate_left
                · (intro wY hSw; (try dsimp only at hSw); go_simp; try with_reducible rfl)
                simp only [Act.put, List.setIfInBounds_toArray, List.set_cons_zero, List.set_cons_succ]
                refine wpAnyH_take (i := 2) (oi := { dst := some 35, op := Op.indexAddr 24 (Operand.tmp 33) (Operand.tmp 34), type := 0, pos := "l08_fdb.go:55", after := #[{ on := 0, ground := Ground.data }, { on := 1, ground := Ground.data }], guard := none }) (v := ?_) rfl (by kernel_rfl) (by kernel_rfl) (by kernel_rfl) (fun _ _ _ h => h) (Or.inl ⟨by rfl, ?_⟩) (by assumption) ?_
                rotate_left
                · (intro wY hSw; (try dsimp only at hSw); go_simp; try with_reducible rfl)
                simp only [Act.put, List.setIfInBounds_toArray, List.set_cons_zero, List.set_cons_succ]
                refine wpAnyH_take (i := 3) (oi := { dst := some 36, op := Op.fieldAddr 30 (Operand.tmp 35) 0, type := 0, pos := "l08_fdb.go:55", after := #[{ on := 2, ground := Ground.data }], guard := none }) (v := ?_) rfl (by kernel_rfl) (by kernel_rfl) (by kernel_rfl) (fun _ _ _ h => h) (Or.inl ⟨by rfl, ?_⟩) (by assumption) ?_
                rotate_left
                · (intro wY hSw; (try dsimp only at hSw); go_simp; try with_reducible rfl)
                simp only [Act.put, List.setIfInBounds_toArray, List.set_cons_zero, List.set_cons_succ]
                refine wpAnyH_take (i := 4) (oi := { dst := some 37, op := Op.load 3 (Operand.tmp 36), type := 3, pos := "l08_fdb.go:55", after := #[{ on := 3, ground := Ground.data }], guard := none }) (v := ?_) rfl (by kernel_rfl) (by kernel_rfl) (by kernel_rfl) (fun _ _ _ h => h) (Or.inl ⟨by rfl, ?_⟩) (by assumption) ?_
                rotate_left
                · (intro wY hSw; (try dsimp only at hSw); go_simp; try with_reducible rfl)
                simp only [Act.put, List.setIfInBounds_toArray, List.set_cons_zero, List.set_cons_succ]
                refine wpAnyH_take (i := 5) (oi := { dst := some 38, op := Op.fieldAddr 30 (Operand.tmp 3) 0, type := 0, pos := "l08_fdb.go:55", after := #[], guard := none }) (v := ?_) rfl (by kernel_rfl) (by kernel_rfl) (by kernel_rfl) (fun _ _ _ h => h) (Or.inl ⟨by rfl, ?_⟩) (by assumption) ?_
                rotate_left
                · (intro wY hSw; (try dsimp only at hSw); go_simp; try with_reducible rfl)
                simp only [Act.put, List.setIfInBounds_toArray, List.set_cons_zero, List.set_cons_succ]
                refine wpAnyH_take (i := 6) (oi := { dst := some 39, op := Op.load 3 (Operand.tmp 38), type := 3, pos := "l08_fdb.go:55", after := #[{ on := 5, ground := Ground.data }], guard := none }) (v := ?_) rfl (by kernel_rfl) (by kernel_rfl) (by kernel_rfl) (fun _ _ _ h => h) (Or.inl ⟨by rfl, ?_⟩) (by assumption) ?_
                rotate_left
                · (intro wY hSw; (try dsimp only at hSw); go_simp; try with_reducible rfl)
                simp only [Act.put, List.setIfInBounds_toArray, List.set_cons_zero, List.set_cons_succ]
                refine wpAnyH_take (i := 7) (oi := { dst := some 40, op := Op.binOp BinOp.neq 3 (Operand.tmp 37) (Operand.tmp 39) 3, type := 4, pos := "l08_fdb.go:55", after := #[{ on := 4, ground := Ground.data }, { on := 6, ground := Ground.data }], guard := none }) (v := ?_) rfl (by kernel_rfl) (by kernel_rfl) (by kernel_rfl) (fun _ _ _ h => h) (Or.inl ⟨by rfl, ?_⟩) (by assumption) ?_
                rotate_left
                · (intro wY hSw; (try dsimp only at hSw); go_simp; try with_reducible rfl)
                simp only [Act.put, List.setIfInBounds_toArray, List.set_cons_zero, List.set_cons_succ]
                refine wpAnyH_take (i := 8) (oi := { dst := some 41, op := Op.move (Operand.tmp 40), type := 4, pos := "l08_fdb.go:55", after := #[{ on := 7, ground := Ground.data }], guard := none }) (v := ?_) rfl (by kernel_rfl) (by kernel_rfl) (by kernel_rfl) (fun _ _ _ h => h) (Or.inl ⟨by rfl, ?_⟩) (by assumption) ?_
                rotate_left
                · (intro wY hSw; (try dsimp only at hSw); go_simp; try with_reducible rfl)
                simp only [Act.put, List.setIfInBounds_toArray, List.set_cons_zero, List.set_cons_succ]
                refine wpAnyH_take (i := 9) (oi := { dst := some 42, op := Op.move (Operand.tmp 0), type := 24, pos := "l08_fdb.go:55", after := #[{ on := 8, ground := Ground.guard }], guard := some (8, false) }) (v := ?_) rfl (by kernel_rfl) (by kernel_rfl) (by kernel_rfl) (fun _ _ _ h => h) (Or.inl ⟨by rfl, ?_⟩) (by assumption) ?_
                rotate_left
                · (intro wY hSw; (try dsimp only at hSw); go_simp; try with_reducible rfl)
                simp only [Act.put, List.setIfInBounds_toArray, List.set_cons_zero, List.set_cons_succ]
                refine wpAnyH_take (i := 10) (oi := { dst := some 43, op := Op.move (Operand.tmp 7), type := 3, pos := "l08_fdb.go:55", after := #[{ on := 8, ground := Ground.guard }], guard := some (8, false) }) (v := ?_) rfl (by kernel_rfl) (by kernel_rfl) (by kernel_rfl) (fun _ _ _ h => h) (Or.inl ⟨by rfl, ?_⟩) (by assumption) ?_
                rotate_left
                · (intro wY hSw; (try dsimp only at hSw); go_simp; try with_reducible rfl)
                simp only [Act.put, List.setIfInBounds_toArray, List.set_cons_zero, List.set_cons_succ]
                refine wpAnyH_take (i := 11) (oi := { dst := some 44, op := Op.indexAddr 24 (Operand.tmp 42) (Operand.tmp 43), type := 0, pos := "l08_fdb.go:55", after := #[{ on := 9, ground := Ground.data }, { on := 10, ground := Ground.data }, { on := 8, ground := Ground.guard }], guard := some (8, false) }) (v := ?_) rfl (by kernel_rfl) (by kernel_rfl) (by kernel_rfl) (fun _ _ _ h => h) (Or.inl ⟨by rfl, ?_⟩) (by assumption) ?_
                rotate_left
                · (intro wY hSw; (try dsimp only at hSw); go_simp; try with_reducible rfl)
                simp only [Act.put, List.setIfInBounds_toArray, List.set_cons_zero, List.set_cons_succ]
                refine wpAnyH_take (i := 12) (oi := { dst := some 45, op := Op.fieldAddr 30 (Operand.tmp 44) 1, type := 0, pos := "l08_fdb.go:55", after := #[{ on := 11, ground := Ground.data }, { on := 8, ground := Ground.guard }], guard := some (8, false) }) (v := ?_) rfl (by kernel_rfl) (by kernel_rfl) (by kernel_rfl) (fun _ _ _ h => h) (Or.inl ⟨by rfl, ?_⟩) (by assumption) ?_
                rotate_left
                · (intro wY hSw; (try dsimp only at hSw); go_simp; try with_reducible rfl)
                simp only [Act.put, List.setIfInBounds_toArray, List.set_cons_zero, List.set_cons_succ]
                refine wpAnyH_take (i := 13) (oi := { dst := some 46, op := Op.load 3 (Operand.tmp 45), type := 3, pos := "l08_fdb.go:55", after := #[{ on := 12, ground := Ground.data }, { on := 8, ground := Ground.guard }], guard := some (8, false) }) (v := ?_) rfl (by kernel_rfl) (by kernel_rfl) (by kernel_rfl) (fun _ _ _ h => h) (Or.inl ⟨by rfl, ?_⟩) (by assumption) ?_
                rotate_left
                · (intro wY hSw; (try dsimp only at hSw); go_simp; try with_reducible rfl)
                simp only [Act.put, List.setIfInBounds_toArray, List.set_cons_zero, List.set_cons_succ]
                refine wpAnyH_take (i := 14) (oi := { dst := some 47, op := Op.fieldAddr 30 (Operand.tmp 3) 1, type := 0, pos := "l08_fdb.go:55", after := #[{ on := 8, ground := Ground.guard }], guard := some (8, false) }) (v := ?_) rfl (by kernel_rfl) (by kernel_rfl) (by kernel_rfl) (fun _ _ _ h => h) (Or.inl ⟨by rfl, ?_⟩) (by assumption) ?_
                rotate_left
                · (intro wY hSw; (try dsimp only at hSw); go_simp; try with_reducible rfl)
                simp only [Act.put, List.setIfInBounds_toArray, List.set_cons_zero, List.set_cons_succ]
                refine wpAnyH_take (i := 15) (oi := { dst := some 48, op := Op.load 3 (Operand.tmp 47), type := 3, pos := "l08_fdb.go:55", after := #[{ on := 14, ground := Ground.data }, { on := 8, ground := Ground.guard }], guard := some (8, false) }) (v := ?_) rfl (by kernel_rfl) (by kernel_rfl) (by kernel_rfl) (fun _ _ _ h => h) (Or.inl ⟨by rfl, ?_⟩) (by assumption) ?_
                rotate_left
                · (intro wY hSw; (try dsimp only at hSw); go_simp; try with_reducible rfl)
                simp only [Act.put, List.setIfInBounds_toArray, List.set_cons_zero, List.set_cons_succ]
                refine wpAnyH_take (i := 16) (oi := { dst := some 49, op := Op.binOp BinOp.neq 3 (Operand.tmp 46) (Operand.tmp 48) 3, type := 4, pos := "l08_fdb.go:55", after := #[{ on := 13, ground := Ground.data }, { on := 15, ground := Ground.data }, { on := 8, ground := Ground.guard }], guard := some (8, false) }) (v := ?_) rfl (by kernel_rfl) (by kernel_rfl) (by kernel_rfl) (fun _ _ _ h => h) (Or.inl ⟨by rfl, ?_⟩) (by assumption) ?_
                rotate_left
                · (intro wY hSw; (try dsimp only at hSw); go_simp; try with_reducible rfl)
                simp only [Act.put, List.setIfInBounds_toArray, List.set_cons_zero, List.set_cons_succ]
                refine wpAnyH_take (i := 17) (oi := { dst := some 50, op := Op.pick (Operand.tmp 41) (Operand.const (Value.bool true)) (Operand.tmp 49), type := 4, pos := "l08_fdb.go:55", after := #[{ on := 8, ground := Ground.data }, { on := 16, ground := Ground.data }], guard := none }) (v := ?_) rfl (by kernel_rfl) (by kernel_rfl) (by kernel_rfl) (fun _ _ _ h => h) (Or.inl ⟨by rfl, ?_⟩) (by assumption) ?_
                rotate_left
                · (intro wY hSw; (try dsimp only at hSw); go_simp; try with_reducible rfl)
                simp only [Act.put, List.setIfInBounds_toArray, List.set_cons_zero, List.set_cons_succ]
                refine wpAnyH_done (by kernel_rfl) ?_ _
                have HQ := hide (show zq ++ putGo e false (l.drop (k + 1)) = putGo e false l from (putGo_drop (.inr HA.out) hbo).trans (by rw [← drop_at hx]; exact hz))
                have HO := hide (gown_below oq vv)
                have HB9 := hide (gr_trans bq vv)
                have HK9 := hide (kept_block kq vv)
                clear oq bq kq vv hr
                go_wp2
                go_roundw
                case rel => exact ⟨k + 1, false, zq, aq, cq, nq, by omega, by go_num, rfl, rfl, hzq, by omega, HO.out, HQ.out, HB9.out, HK9.out⟩
                case measure => simp [intOf]; omega
              · have hbo : both x e.t e.m = false := by simp at t1 t2; exact both_not.2 (fun h => t2 h.2)
                go_wp2_with fail
                refine wp_region_held_drew (S := (fun W => (W.cell? ⟨b, off + k * 5, none⟩ = some (.int .i64 x.t) ∧ W.cell? ⟨b, off + k * 5 + 1, none⟩ = some (.int .i64 x.m) ∧ W.cell? ⟨b, off + k * 5 + 2, none⟩ = some (.int .i64 x.p) ∧ W.cell? ⟨b, off + k * 5 + 3, none⟩ = some (.int .i64 x.a) ∧ W.cell? ⟨b, off + k * 5 + 4, none⟩ = some (.bool x.s)) ∧ (W.cell? ⟨w.heap.size, 0, none⟩ = some (.int .i64 e.t) ∧ W.cell? ⟨w.heap.size, 1, none⟩ = some (.int .i64 e.m) ∧ W.cell? ⟨w.heap.size, 2, none⟩ = some (.int .i64 e.p) ∧ W.cell? ⟨w.heap.size, 3, none⟩ = some (.int .i64 e.a) ∧ W.cell? ⟨w.heap.size, 4, none⟩ = some (.bool e.s)))) (by kernel_rfl) (⟨(at5 hr vv).2 k x hx, (cells5 (kept_block kq vv)).1⟩) (fun hHeld => ?_)
                refine wpAnyH_take (i := 0) (oi := { dst := some 33, op := Op.move (Operand.tmp 0), type := 24, pos := "l08_fdb.go:55", after := #[], guard := none }) (v := ?_) rfl (by kernel_rfl) (by kernel_rfl) (by kernel_rfl) (fun _ _ _ h => h) (Or.inl ⟨by rfl, ?_⟩) (by assumption) ?_
                rotate_left
                · (intro wY hSw; (try dsimp only at hSw); go_simp; try with_reducible rfl)
                simp only [Act.put, List.setIfInBounds_toArray, List.set_cons_zero, List.set_cons_succ]
                refine wpAnyH_take (i := 1) (oi := { dst := some 34, op := Op.move (Operand.tmp 7), type := 3, pos := "l08_fdb.go:55", after := #[], guard := none }) (v := ?_) rfl (by kernel_rfl) (by kernel_rfl) (by kernel_rfl) (fun _ _ _ h => h) (Or.inl ⟨by rfl, ?_⟩) (by assumption) ?_
                rotate_left
                · (intro wY hSw; (try dsimp only at hSw); go_simp; try with_reducible rfl)
                simp only [Act.put, List.setIfInBounds_toArray, List.set_cons_zero, List.set_cons_succ]
                refine wpAnyH_take (i := 2) (oi := { dst := some 35, op := Op.indexAddr 24 (Operand.tmp 33) (Operand.tmp 34), type := 0, pos := "l08_fdb.go:55", after := #[{ on := 0, ground := Ground.data }, { on := 1, ground := Ground.data }], guard := none }) (v := ?_) rfl (by kernel_rfl) (by kernel_rfl) (by kernel_rfl) (fun _ _ _ h => h) (Or.inl ⟨by rfl, ?_⟩) (by assumption) ?_
                rotate_left
                · (intro wY hSw; (try dsimp only at hSw); go_simp; try with_reducible rfl)
                simp only [Act.put, List.setIfInBounds_toArray, List.set_cons_zero, List.set_cons_succ]
                refine wpAnyH_take (i := 3) (oi := { dst := some 36, op := Op.fieldAddr 30 (Operand.tmp 35) 0, type := 0, pos := "l08_fdb.go:55", after := #[{ on := 2, ground := Ground.data }], guard := none }) (v := ?_) rfl (by kernel_rfl) (by kernel_rfl) (by kernel_rfl) (fun _ _ _ h => h) (Or.inl ⟨by rfl, ?_⟩) (by assumption) ?_
                rotate_left
                · (intro wY hSw; (try dsimp only at hSw); go_simp; try with_reducible rfl)
                simp only [Act.put, List.setIfInBounds_toArray, List.set_cons_zero, List.set_cons_succ]
                refine wpAnyH_take (i := 4) (oi := { dst := some 37, op := Op.load 3 (Operand.tmp 36), type := 3, pos := "l08_fdb.go:55", after := #[{ on := 3, ground := Ground.data }], guard := none }) (v := ?_) rfl (by kernel_rfl) (by kernel_rfl) (by kernel_rfl) (fun _ _ _ h => h) (Or.inl ⟨by rfl, ?_⟩) (by assumption) ?_
                rotate_left
                · (intro wY hSw; (try dsimp only at hSw); go_simp; try with_reducible rfl)
                simp only [Act.put, List.setIfInBounds_toArray, List.set_cons_zero, List.set_cons_succ]
                refine wpAnyH_take (i := 5) (oi := { dst := some 38, op := Op.fieldAddr 30 (Operand.tmp 3) 0, type := 0, pos := "l08_fdb.go:55", after := #[], guard := none }) (v := ?_) rfl (by kernel_rfl) (by kernel_rfl) (by kernel_rfl) (fun _ _ _ h => h) (Or.inl ⟨by rfl, ?_⟩) (by assumption) ?_
                rotate_left
                · (intro wY hSw; (try dsimp only at hSw); go_simp; try with_reducible rfl)
                simp only [Act.put, List.setIfInBounds_toArray, List.set_cons_zero, List.set_cons_succ]
                refine wpAnyH_take (i := 6) (oi := { dst := some 39, op := Op.load 3 (Operand.tmp 38), type := 3, pos := "l08_fdb.go:55", after := #[{ on := 5, ground := Ground.data }], guard := none }) (v := ?_) rfl (by kernel_rfl) (by kernel_rfl) (by kernel_rfl) (fun _ _ _ h => h) (Or.inl ⟨by rfl, ?_⟩) (by assumption) ?_
                rotate_left
                · (intro wY hSw; (try dsimp only at hSw); go_simp; try with_reducible rfl)
                simp only [Act.put, List.setIfInBounds_toArray, List.set_cons_zero, List.set_cons_succ]
                refine wpAnyH_take (i := 7) (oi := { dst := some 40, op := Op.binOp BinOp.neq 3 (Operand.tmp 37) (Operand.tmp 39) 3, type := 4, pos := "l08_fdb.go:55", after := #[{ on := 4, ground := Ground.data }, { on := 6, ground := Ground.data }], guard := none }) (v := ?_) rfl (by kernel_rfl) (by kernel_rfl) (by kernel_rfl) (fun _ _ _ h => h) (Or.inl ⟨by rfl, ?_⟩) (by assumption) ?_
                rotate_left
                · (intro wY hSw; (try dsimp only at hSw); go_simp; try with_reducible rfl)
                simp only [Act.put, List.setIfInBounds_toArray, List.set_cons_zero, List.set_cons_succ]
                refine wpAnyH_take (i := 8) (oi := { dst := some 41, op := Op.move (Operand.tmp 40), type := 4, pos := "l08_fdb.go:55", after := #[{ on := 7, ground := Ground.data }], guard := none }) (v := ?_) rfl (by kernel_rfl) (by kernel_rfl) (by kernel_rfl) (fun _ _ _ h => h) (Or.inl ⟨by rfl, ?_⟩) (by assumption) ?_
                rotate_left
                · (intro wY hSw; (try dsimp only at hSw); go_simp; try with_reducible rfl)
                simp only [Act.put, List.setIfInBounds_toArray, List.set_cons_zero, List.set_cons_succ]
                refine wpAnyH_take (i := 9) (oi := { dst := some 42, op := Op.move (Operand.tmp 0), type := 24, pos := "l08_fdb.go:55", after := #[{ on := 8, ground := Ground.guard }], guard := some (8, false) }) (v := ?_) rfl (by kernel_rfl) (by kernel_rfl) (by kernel_rfl) (fun _ _ _ h => h) (Or.inl ⟨by rfl, ?_⟩) (by assumption) ?_
                rotate_left
                · (intro wY hSw; (try dsimp only at hSw); go_simp; try with_reducible rfl)
                simp only [Act.put, List.setIfInBounds_toArray, List.set_cons_zero, List.set_cons_succ]
                refine wpAnyH_take (i := 10) (oi := { dst := some 43, op := Op.move (Operand.tmp 7), type := 3, pos := "l08_fdb.go:55", after := #[{ on := 8, ground := Ground.guard }], guard := some (8, false) }) (v := ?_) rfl (by kernel_rfl) (by kernel_rfl) (by kernel_rfl) (fun _ _ _ h => h) (Or.inl ⟨by rfl, ?_⟩) (by assumption) ?_
                rotate_left
                · (intro wY hSw; (try dsimp only at hSw); go_simp; try with_reducible rfl)
                simp only [Act.put, List.setIfInBounds_toArray, List.set_cons_zero, List.set_cons_succ]
                refine wpAnyH_take (i := 11) (oi := { dst := some 44, op := Op.indexAddr 24 (Operand.tmp 42) (Operand.tmp 43), type := 0, pos := "l08_fdb.go:55", after := #[{ on := 9, ground := Ground.data }, { on := 10, ground := Ground.data }, { on := 8, ground := Ground.guard }], guard := some (8, false) }) (v := ?_) rfl (by kernel_rfl) (by kernel_rfl) (by kernel_rfl) (fun _ _ _ h => h) (Or.inl ⟨by rfl, ?_⟩) (by assumption) ?_
                rotate_left
                · (intro wY hSw; (try dsimp only at hSw); go_simp; try with_reducible rfl)
                simp only [Act.put, List.setIfInBounds_toArray, List.set_cons_zero, List.set_cons_succ]
                refine wpAnyH_take (i := 12) (oi := { dst := some 45, op := Op.fieldAddr 30 (Operand.tmp 44) 1, type := 0, pos := "l08_fdb.go:55", after := #[{ on := 11, ground := Ground.data }, { on := 8, ground := Ground.guard }], guard := some (8, false) }) (v := ?_) rfl (by kernel_rfl) (by kernel_rfl) (by kernel_rfl) (fun _ _ _ h => h) (Or.inl ⟨by rfl, ?_⟩) (by assumption) ?_
                rotate_left
                · (intro wY hSw; (try dsimp only at hSw); go_simp; try with_reducible rfl)
                simp only [Act.put, List.setIfInBounds_toArray, List.set_cons_zero, List.set_cons_succ]
                refine wpAnyH_take (i := 13) (oi := { dst := some 46, op := Op.load 3 (Operand.tmp 45), type := 3, pos := "l08_fdb.go:55", after := #[{ on := 12, ground := Ground.data }, { on := 8, ground := Ground.guard }], guard := some (8, false) }) (v := ?_) rfl (by kernel_rfl) (by kernel_rfl) (by kernel_rfl) (fun _ _ _ h => h) (Or.inl ⟨by rfl, ?_⟩) (by assumption) ?_
                rotate_left
                · (intro wY hSw; (try dsimp only at hSw); go_simp; try with_reducible rfl)
                simp only [Act.put, List.setIfInBounds_toArray, List.set_cons_zero, List.set_cons_succ]
                refine wpAnyH_take (i := 14) (oi := { dst := some 47, op := Op.fieldAddr 30 (Operand.tmp 3) 1, type := 0, pos := "l08_fdb.go:55", after := #[{ on := 8, ground := Ground.guard }], guard := some (8, false) }) (v := ?_) rfl (by kernel_rfl) (by kernel_rfl) (by kernel_rfl) (fun _ _ _ h => h) (Or.inl ⟨by rfl, ?_⟩) (by assumption) ?_
                rotate_left
                · (intro wY hSw; (try dsimp only at hSw); go_simp; try with_reducible rfl)
                simp only [Act.put, List.setIfInBounds_toArray, List.set_cons_zero, List.set_cons_succ]
                refine wpAnyH_take (i := 15) (oi := { dst := some 48, op := Op.load 3 (Operand.tmp 47), type := 3, pos := "l08_fdb.go:55", after := #[{ on := 14, ground := Ground.data }, { on := 8, ground := Ground.guard }], guard := some (8, false) }) (v := ?_) rfl (by kernel_rfl) (by kernel_rfl) (by kernel_rfl) (fun _ _ _ h => h) (Or.inl ⟨by rfl, ?_⟩) (by assumption) ?_
                rotate_left
                · (intro wY hSw; (try dsimp only at hSw); go_simp; try with_reducible rfl)
                simp only [Act.put, List.setIfInBounds_toArray, List.set_cons_zero, List.set_cons_succ]
                refine wpAnyH_take (i := 16) (oi := { dst := some 49, op := Op.binOp BinOp.neq 3 (Operand.tmp 46) (Operand.tmp 48) 3, type := 4, pos := "l08_fdb.go:55", after := #[{ on := 13, ground := Ground.data }, { on := 15, ground := Ground.data }, { on := 8, ground := Ground.guard }], guard := some (8, false) }) (v := ?_) rfl (by kernel_rfl) (by kernel_rfl) (by kernel_rfl) (fun _ _ _ h => h) (Or.inl ⟨by rfl, ?_⟩) (by assumption) ?_
                rotate_left
                · (intro wY hSw; (try dsimp only at hSw); go_simp; try with_reducible rfl)
                simp only [Act.put, List.setIfInBounds_toArray, List.set_cons_zero, List.set_cons_succ]
                refine wpAnyH_take (i := 17) (oi := { dst := some 50, op := Op.pick (Operand.tmp 41) (Operand.const (Value.bool true)) (Operand.tmp 49), type := 4, pos := "l08_fdb.go:55", after := #[{ on := 8, ground := Ground.data }, { on := 16, ground := Ground.data }], guard := none }) (v := ?_) rfl (by kernel_rfl) (by kernel_rfl) (by kernel_rfl) (fun _ _ _ h => h) (Or.inl ⟨by rfl, ?_⟩) (by assumption) ?_
                rotate_left
                · (intro wY hSw; (try dsimp only at hSw); go_simp; try with_reducible rfl)
                simp only [Act.put, List.setIfInBounds_toArray, List.set_cons_zero, List.set_cons_succ]
                refine wpAnyH_done (by kernel_rfl) ?_ _
                obtain ⟨y0, y1, y2, y3, y4⟩ := (at5 hr vv).2 k x hx
                have hl1 : (zq ++ [x]).length = nq + 1 := by simp [hzq]
                have kd := kept_block kq vv
                have od := gown_below oq vv
                have bd := gr_trans bq vv
                clear vv hHeld
                generalize hwd : wq.drew = wd at *
                clear hwd
                have kq1 := kept_block kd (below_one wd (.cells #[.int .i64 x.t, .int .i64 x.m, .int .i64 x.p, .int .i64 x.a, .bool x.s] 30))
                have oq1 := gown_below od (below_one wd (.cells #[.int .i64 x.t, .int .i64 x.m, .int .i64 x.p, .int .i64 x.a, .bool x.s] 30))
                have HQ := hide (show zq ++ [x] ++ putGo e false (l.drop (k + 1)) = putGo e false l from (putGo_keep (.inr HA.out) hbo).trans (by rw [← drop_at hx]; exact hz))
                have HBQ := hide (gr_trans bd (below_one wd (.cells #[.int .i64 x.t, .int .i64 x.m, .int .i64 x.p, .int .i64 x.a, .bool x.s] 30)))
                have hbase9 := (Array.getElem?_eq_some_iff.1 kq1).1
                go_wp2_with (at_builtin; refine fent_append _ rfl _ _ rfl (w.heap.size + 1) _ nq zq rfl oq1 _ 1 1 [x] rfl (grow_one fentF _ x _ _ rfl) (by omega) hbase9 ?_)
                intro ao9 cap9 w9 how9 hr9 hgr9 hb9
                have kq9 := kept_base kq1 hb9 (by omega)
                have b9 : Below w.heap.size w w9 := HBQ.out.trans (hb9.mono (by omega))
                have HO := hide how9
                have HB9 := hide b9
                have HK9 := hide kq9
                have HL := hide hl1
                clear how9 hr9 hgr9 hb9 kq9 b9 oq1 kq1 kq oq bq hr hl1 HBQ kd od bd
                go_wp2
                go_roundw
                case rel => exact ⟨k + 1, false, zq ++ [x], ao9, cap9, nq + 1, by omega, by go_num, rfl, rfl, HL.out, by omega, HO.out, HQ.out, HB9.out, HK9.out⟩
                case measure => simp [intOf]; omega
            · have hbo : both x e.t e.m = false := by simp at t1; exact both_not.2 (fun h => t1 h.1)
              go_wp2_with fail
              refine wp_region_held_drew (S := (fun W => (W.cell? ⟨b, off + k * 5, none⟩ = some (.int .i64 x.t) ∧ W.cell? ⟨b, off + k * 5 + 1, none⟩ = some (.int .i64 x.m) ∧ W.cell? ⟨b, off + k * 5 + 2, none⟩ = some (.int .i64 x.p) ∧ W.cell? ⟨b, off + k * 5 + 3, none⟩ = some (.int .i64 x.a) ∧ W.cell? ⟨b, off + k * 5 + 4, none⟩ = some (.bool x.s)) ∧ (W.cell? ⟨w.heap.size, 0, none⟩ = some (.int .i64 e.t) ∧ W.cell? ⟨w.heap.size, 1, none⟩ = some (.int .i64 e.m) ∧ W.cell? ⟨w.heap.size, 2, none⟩ = some (.int .i64 e.p) ∧ W.cell? ⟨w.heap.size, 3, none⟩ = some (.int .i64 e.a) ∧ W.cell? ⟨w.heap.size, 4, none⟩ = some (.bool e.s)))) (by kernel_rfl) (⟨(at5 hr vv).2 k x hx, (cells5 (kept_block kq vv)).1⟩) (fun hHeld => ?_)
              refine wpAnyH_take (i := 0) (oi := { dst := some 33, op := Op.move (Operand.tmp 0), type := 24, pos := "l08_fdb.go:55", after := #[], guard := none }) (v := ?_) rfl (by kernel_rfl) (by kernel_rfl) (by kernel_rfl) (fun _ _ _ h => h) (Or.inl ⟨by rfl, ?_⟩) (by assumption) ?_
              rotate_left
              · (intro wY hSw; (try dsimp only at hSw); go_simp; try with_reducible rfl)
              simp only [Act.put, List.setIfInBounds_toArray, List.set_cons_zero, List.set_cons_succ]
              refine wpAnyH_take (i := 1) (oi := { dst := some 34, op := Op.move (Operand.tmp 7), type := 3, pos := "l08_fdb.go:55", after := #[], guard := none }) (v := ?_) rfl (by kernel_rfl) (by kernel_rfl) (by kernel_rfl) (fun _ _ _ h => h) (Or.inl ⟨by rfl, ?_⟩) (by assumption) ?_
              rotate_left
              · (intro wY hSw; (try dsimp only at hSw); go_simp; try with_reducible rfl)
              simp only [Act.put, List.setIfInBounds_toArray, List.set_cons_zero, List.set_cons_succ]
              refine wpAnyH_take (i := 2) (oi := { dst := some 35, op := Op.indexAddr 24 (Operand.tmp 33) (Operand.tmp 34), type := 0, pos := "l08_fdb.go:55", after := #[{ on := 0, ground := Ground.data }, { on := 1, ground := Ground.data }], guard := none }) (v := ?_) rfl (by kernel_rfl) (by kernel_rfl) (by kernel_rfl) (fun _ _ _ h => h) (Or.inl ⟨by rfl, ?_⟩) (by assumption) ?_
              rotate_left
              · (intro wY hSw; (try dsimp only at hSw); go_simp; try with_reducible rfl)
              simp only [Act.put, List.setIfInBounds_toArray, List.set_cons_zero, List.set_cons_succ]
              refine wpAnyH_take (i := 3) (oi := { dst := some 36, op := Op.fieldAddr 30 (Operand.tmp 35) 0, type := 0, pos := "l08_fdb.go:55", after := #[{ on := 2, ground := Ground.data }], guard := none }) (v := ?_) rfl (by kernel_rfl) (by kernel_rfl) (by kernel_rfl) (fun _ _ _ h => h) (Or.inl ⟨by rfl, ?_⟩) (by assumption) ?_
              rotate_left
              · (intro wY hSw; (try dsimp only at hSw); go_simp; try with_reducible rfl)
              simp only [Act.put, List.setIfInBounds_toArray, List.set_cons_zero, List.set_cons_succ]
              refine wpAnyH_take (i := 4) (oi := { dst := some 37, op := Op.load 3 (Operand.tmp 36), type := 3, pos := "l08_fdb.go:55", after := #[{ on := 3, ground := Ground.data }], guard := none }) (v := ?_) rfl (by kernel_rfl) (by kernel_rfl) (by kernel_rfl) (fun _ _ _ h => h) (Or.inl ⟨by rfl, ?_⟩) (by assumption) ?_
              rotate_left
              · (intro wY hSw; (try dsimp only at hSw); go_simp; try with_reducible rfl)
              simp only [Act.put, List.setIfInBounds_toArray, List.set_cons_zero, List.set_cons_succ]
              refine wpAnyH_take (i := 5) (oi := { dst := some 38, op := Op.fieldAddr 30 (Operand.tmp 3) 0, type := 0, pos := "l08_fdb.go:55", after := #[], guard := none }) (v := ?_) rfl (by kernel_rfl) (by kernel_rfl) (by kernel_rfl) (fun _ _ _ h => h) (Or.inl ⟨by rfl, ?_⟩) (by assumption) ?_
              rotate_left
              · (intro wY hSw; (try dsimp only at hSw); go_simp; try with_reducible rfl)
              simp only [Act.put, List.setIfInBounds_toArray, List.set_cons_zero, List.set_cons_succ]
              refine wpAnyH_take (i := 6) (oi := { dst := some 39, op := Op.load 3 (Operand.tmp 38), type := 3, pos := "l08_fdb.go:55", after := #[{ on := 5, ground := Ground.data }], guard := none }) (v := ?_) rfl (by kernel_rfl) (by kernel_rfl) (by kernel_rfl) (fun _ _ _ h => h) (Or.inl ⟨by rfl, ?_⟩) (by assumption) ?_
              rotate_left
              · (intro wY hSw; (try dsimp only at hSw); go_simp; try with_reducible rfl)
              simp only [Act.put, List.setIfInBounds_toArray, List.set_cons_zero, List.set_cons_succ]
              refine wpAnyH_take (i := 7) (oi := { dst := some 40, op := Op.binOp BinOp.neq 3 (Operand.tmp 37) (Operand.tmp 39) 3, type := 4, pos := "l08_fdb.go:55", after := #[{ on := 4, ground := Ground.data }, { on := 6, ground := Ground.data }], guard := none }) (v := ?_) rfl (by kernel_rfl) (by kernel_rfl) (by kernel_rfl) (fun _ _ _ h => h) (Or.inl ⟨by rfl, ?_⟩) (by assumption) ?_
              rotate_left
              · (intro wY hSw; (try dsimp only at hSw); go_simp; try with_reducible rfl)
              simp only [Act.put, List.setIfInBounds_toArray, List.set_cons_zero, List.set_cons_succ]
              refine wpAnyH_take (i := 8) (oi := { dst := some 41, op := Op.move (Operand.tmp 40), type := 4, pos := "l08_fdb.go:55", after := #[{ on := 7, ground := Ground.data }], guard := none }) (v := ?_) rfl (by kernel_rfl) (by kernel_rfl) (by kernel_rfl) (fun _ _ _ h => h) (Or.inl ⟨by rfl, ?_⟩) (by assumption) ?_
              rotate_left
              · (intro wY hSw; (try dsimp only at hSw); go_simp; try with_reducible rfl)
              simp only [Act.put, List.setIfInBounds_toArray, List.set_cons_zero, List.set_cons_succ]
              refine wpAnyH_take (i := 9) (oi := { dst := some 42, op := Op.move (Operand.tmp 0), type := 24, pos := "l08_fdb.go:55", after := #[{ on := 8, ground := Ground.guard }], guard := some (8, false) }) (v := undef) rfl (by kernel_rfl) (by kernel_rfl) (by kernel_rfl) (fun _ _ _ h => h) (Or.inr ⟨by rfl, rfl⟩) (by assumption) ?_
              simp only [Act.put, List.setIfInBounds_toArray, List.set_cons_zero, List.set_cons_succ]
              refine wpAnyH_take (i := 10) (oi := { dst := some 43, op := Op.move (Operand.tmp 7), type := 3, pos := "l08_fdb.go:55", after := #[{ on := 8, ground := Ground.guard }], guard := some (8, false) }) (v := undef) rfl (by kernel_rfl) (by kernel_rfl) (by kernel_rfl) (fun _ _ _ h => h) (Or.inr ⟨by rfl, rfl⟩) (by assumption) ?_
              simp only [Act.put, List.setIfInBounds_toArray, List.set_cons_zero, List.set_cons_succ]
              refine wpAnyH_take (i := 11) (oi := { dst := some 44, op := Op.indexAddr 24 (Operand.tmp 42) (Operand.tmp 43), type := 0, pos := "l08_fdb.go:55", after := #[{ on := 9, ground := Ground.data }, { on := 10, ground := Ground.data }, { on := 8, ground := Ground.guard }], guard := some (8, false) }) (v := undef) rfl (by kernel_rfl) (by kernel_rfl) (by kernel_rfl) (fun _ _ _ h => h) (Or.inr ⟨by rfl, rfl⟩) (by assumption) ?_
              simp only [Act.put, List.setIfInBounds_toArray, List.set_cons_zero, List.set_cons_succ]
              refine wpAnyH_take (i := 12) (oi := { dst := some 45, op := Op.fieldAddr 30 (Operand.tmp 44) 1, type := 0, pos := "l08_fdb.go:55", after := #[{ on := 11, ground := Ground.data }, { on := 8, ground := Ground.guard }], guard := some (8, false) }) (v := undef) rfl (by kernel_rfl) (by kernel_rfl) (by kernel_rfl) (fun _ _ _ h => h) (Or.inr ⟨by rfl, rfl⟩) (by assumption) ?_
              simp only [Act.put, List.setIfInBounds_toArray, List.set_cons_zero, List.set_cons_succ]
              refine wpAnyH_take (i := 13) (oi := { dst := some 46, op := Op.load 3 (Operand.tmp 45), type := 3, pos := "l08_fdb.go:55", after := #[{ on := 12, ground := Ground.data }, { on := 8, ground := Ground.guard }], guard := some (8, false) }) (v := undef) rfl (by kernel_rfl) (by kernel_rfl) (by kernel_rfl) (fun _ _ _ h => h) (Or.inr ⟨by rfl, rfl⟩) (by assumption) ?_
              simp only [Act.put, List.setIfInBounds_toArray, List.set_cons_zero, List.set_cons_succ]
              refine wpAnyH_take (i := 14) (oi := { dst := some 47, op := Op.fieldAddr 30 (Operand.tmp 3) 1, type := 0, pos := "l08_fdb.go:55", after := #[{ on := 8, ground := Ground.guard }], guard := some (8, false) }) (v := undef) rfl (by kernel_rfl) (by kernel_rfl) (by kernel_rfl) (fun _ _ _ h => h) (Or.inr ⟨by rfl, rfl⟩) (by assumption) ?_
              simp only [Act.put, List.setIfInBounds_toArray, List.set_cons_zero, List.set_cons_succ]
              refine wpAnyH_take (i := 15) (oi := { dst := some 48, op := Op.load 3 (Operand.tmp 47), type := 3, pos := "l08_fdb.go:55", after := #[{ on := 14, ground := Ground.data }, { on := 8, ground := Ground.guard }], guard := some (8, false) }) (v := undef) rfl (by kernel_rfl) (by kernel_rfl) (by kernel_rfl) (fun _ _ _ h => h) (Or.inr ⟨by rfl, rfl⟩) (by assumption) ?_
              simp only [Act.put, List.setIfInBounds_toArray, List.set_cons_zero, List.set_cons_succ]
              refine wpAnyH_take (i := 16) (oi := { dst := some 49, op := Op.binOp BinOp.neq 3 (Operand.tmp 46) (Operand.tmp 48) 3, type := 4, pos := "l08_fdb.go:55", after := #[{ on := 13, ground := Ground.data }, { on := 15, ground := Ground.data }, { on := 8, ground := Ground.guard }], guard := some (8, false) }) (v := undef) rfl (by kernel_rfl) (by kernel_rfl) (by kernel_rfl) (fun _ _ _ h => h) (Or.inr ⟨by rfl, rfl⟩) (by assumption) ?_
              simp only [Act.put, List.setIfInBounds_toArray, List.set_cons_zero, List.set_cons_succ]
              refine wpAnyH_take (i := 17) (oi := { dst := some 50, op := Op.pick (Operand.tmp 41) (Operand.const (Value.bool true)) (Operand.tmp 49), type := 4, pos := "l08_fdb.go:55", after := #[{ on := 8, ground := Ground.data }, { on := 16, ground := Ground.data }], guard := none }) (v := ?_) rfl (by kernel_rfl) (by kernel_rfl) (by kernel_rfl) (fun _ _ _ h => h) (Or.inl ⟨by rfl, ?_⟩) (by assumption) ?_
              rotate_left
              · (intro wY hSw; (try dsimp only at hSw); go_simp; try with_reducible rfl)
              simp only [Act.put, List.setIfInBounds_toArray, List.set_cons_zero, List.set_cons_succ]
              refine wpAnyH_done (by kernel_rfl) ?_ _
              obtain ⟨y0, y1, y2, y3, y4⟩ := (at5 hr vv).2 k x hx
              have hl1 : (zq ++ [x]).length = nq + 1 := by simp [hzq]
              have kd := kept_block kq vv
              have od := gown_below oq vv
              have bd := gr_trans bq vv
              clear vv hHeld
              generalize hwd : wq.drew = wd at *
              clear hwd
              have kq1 := kept_block kd (below_one wd (.cells #[.int .i64 x.t, .int .i64 x.m, .int .i64 x.p, .int .i64 x.a, .bool x.s] 30))
              have oq1 := gown_below od (below_one wd (.cells #[.int .i64 x.t, .int .i64 x.m, .int .i64 x.p, .int .i64 x.a, .bool x.s] 30))
              have HQ := hide (show zq ++ [x] ++ putGo e false (l.drop (k + 1)) = putGo e false l from (putGo_keep (.inr HA.out) hbo).trans (by rw [← drop_at hx]; exact hz))
              have HBQ := hide (gr_trans bd (below_one wd (.cells #[.int .i64 x.t, .int .i64 x.m, .int .i64 x.p, .int .i64 x.a, .bool x.s] 30)))
              have hbase9 := (Array.getElem?_eq_some_iff.1 kq1).1
              go_wp2_with (at_builtin; refine fent_append _ rfl _ _ rfl (w.heap.size + 1) _ nq zq rfl oq1 _ 1 1 [x] rfl (grow_one fentF _ x _ _ rfl) (by omega) hbase9 ?_)
              intro ao9 cap9 w9 how9 hr9 hgr9 hb9
              have kq9 := kept_base kq1 hb9 (by omega)
              have b9 : Below w.heap.size w w9 := HBQ.out.trans (hb9.mono (by omega))
              have HO := hide how9
              have HB9 := hide b9
              have HK9 := hide kq9
              have HL := hide hl1
              clear how9 hr9 hgr9 hb9 kq9 b9 oq1 kq1 kq oq bq hr hl1 HBQ kd od bd
              go_wp2
              go_roundw
              case rel => exact ⟨k + 1, false, zq ++ [x], ao9, cap9, nq + 1, by omega, by go_num, rfl, rfl, HL.out, by omega, HO.out, HQ.out, HB9.out, HK9.out⟩
              case measure => simp [intOf]; omega
          exact AllReadyH.nil
      · go_wp2_with fail
        refine wp_region_held_drew (S := (fun _ => True)) (by kernel_rfl) (trivial) (fun hHeld => ?_)
        refine wpAnyH_take (i := 0) (oi := { dst := some 15, op := Op.move (Operand.tmp 6), type := 4, pos := "l08_fdb.go:51", after := #[], guard := none }) (v := ?_) rfl (by kernel_rfl) (by kernel_rfl) (by kernel_rfl) (fun _ _ _ h => h) (Or.inl ⟨by rfl, ?_⟩) (by assumption) ?_
        rotate_left
        · (intro wY hSw; (try dsimp only at hSw); go_simp; try with_reducible rfl)
        simp only [Act.put, List.setIfInBounds_toArray, List.set_cons_zero, List.set_cons_succ]
        refine wpAnyH_take (i := 1) (oi := { dst := some 16, op := Op.unOp UnOp.not 4 (Operand.tmp 15), type := 4, pos := "l08_fdb.go:51", after := #[{ on := 0, ground := Ground.data }], guard := none }) (v := ?_) rfl (by kernel_rfl) (by kernel_rfl) (by kernel_rfl) (fun _ _ _ h => h) (Or.inl ⟨by rfl, ?_⟩) (by assumption) ?_
        rotate_left
        · (intro wY hSw; (try dsimp only at hSw); go_simp; try with_reducible rfl)
        simp only [Act.put, List.setIfInBounds_toArray, List.set_cons_zero, List.set_cons_succ]
        refine wpAnyH_take (i := 2) (oi := { dst := some 17, op := Op.move (Operand.tmp 16), type := 4, pos := "l08_fdb.go:51", after := #[{ on := 1, ground := Ground.data }], guard := none }) (v := ?_) rfl (by kernel_rfl) (by kernel_rfl) (by kernel_rfl) (fun _ _ _ h => h) (Or.inl ⟨by rfl, ?_⟩) (by assumption) ?_
        rotate_left
        · (intro wY hSw; (try dsimp only at hSw); go_simp; try with_reducible rfl)
        simp only [Act.put, List.setIfInBounds_toArray, List.set_cons_zero, List.set_cons_succ]
        refine wpAnyH_take (i := 3) (oi := { dst := some 18, op := Op.move (Operand.tmp 0), type := 24, pos := "l08_fdb.go:51", after := #[{ on := 2, ground := Ground.guard }], guard := some (2, true) }) (v := undef) rfl (by kernel_rfl) (by kernel_rfl) (by kernel_rfl) (fun _ _ _ h => h) (Or.inr ⟨by rfl, rfl⟩) (by assumption) ?_
        simp only [Act.put, List.setIfInBounds_toArray, List.set_cons_zero, List.set_cons_succ]
        refine wpAnyH_take (i := 4) (oi := { dst := some 19, op := Op.move (Operand.tmp 7), type := 3, pos := "l08_fdb.go:51", after := #[{ on := 2, ground := Ground.guard }], guard := some (2, true) }) (v := undef) rfl (by kernel_rfl) (by kernel_rfl) (by kernel_rfl) (fun _ _ _ h => h) (Or.inr ⟨by rfl, rfl⟩) (by assumption) ?_
        simp only [Act.put, List.setIfInBounds_toArray, List.set_cons_zero, List.set_cons_succ]
        refine wpAnyH_take (i := 5) (oi := { dst := some 20, op := Op.indexAddr 24 (Operand.tmp 18) (Operand.tmp 19), type := 0, pos := "l08_fdb.go:51", after := #[{ on := 3, ground := Ground.data }, { on := 4, ground := Ground.data }, { on := 2, ground := Ground.guard }], guard := some (2, true) }) (v := undef) rfl (by kernel_rfl) (by kernel_rfl) (by kernel_rfl) (fun _ _ _ h => h) (Or.inr ⟨by rfl, rfl⟩) (by assumption) ?_
        simp only [Act.put, List.setIfInBounds_toArray, List.set_cons_zero, List.set_cons_succ]
        refine wpAnyH_take (i := 6) (oi := { dst := some 21, op := Op.load 30 (Operand.tmp 20), type := 30, pos := "l08_fdb.go:51", after := #[{ on := 5, ground := Ground.data }, { on := 2, ground := Ground.guard }], guard := some (2, true) }) (v := undef) rfl (by kernel_rfl) (by kernel_rfl) (by kernel_rfl) (fun _ _ _ h => h) (Or.inr ⟨by rfl, rfl⟩) (by assumption) ?_
        simp only [Act.put, List.setIfInBounds_toArray, List.set_cons_zero, List.set_cons_succ]
        refine wpAnyH_take (i := 7) (oi := { dst := some 22, op := Op.fieldAddr 30 (Operand.tmp 3) 0, type := 0, pos := "l08_fdb.go:51", after := #[{ on := 2, ground := Ground.guard }], guard := some (2, true) }) (v := undef) rfl (by kernel_rfl) (by kernel_rfl) (by kernel_rfl) (fun _ _ _ h => h) (Or.inr ⟨by rfl, rfl⟩) (by assumption) ?_
        simp only [Act.put, List.setIfInBounds_toArray, List.set_cons_zero, List.set_cons_succ]
        refine wpAnyH_take (i := 8) (oi := { dst := some 23, op := Op.load 3 (Operand.tmp 22), type := 3, pos := "l08_fdb.go:51", after := #[{ on := 7, ground := Ground.data }, { on := 2, ground := Ground.guard }], guard := some (2, true) }) (v := undef) rfl (by kernel_rfl) (by kernel_rfl) (by kernel_rfl) (fun _ _ _ h => h) (Or.inr ⟨by rfl, rfl⟩) (by assumption) ?_
        simp only [Act.put, List.setIfInBounds_toArray, List.set_cons_zero, List.set_cons_succ]
        refine wpAnyH_take (i := 9) (oi := { dst := some 24, op := Op.fieldAddr 30 (Operand.tmp 3) 1, type := 0, pos := "l08_fdb.go:51", after := #[{ on := 2, ground := Ground.guard }], guard := some (2, true) }) (v := undef) rfl (by kernel_rfl) (by kernel_rfl) (by kernel_rfl) (fun _ _ _ h => h) (Or.inr ⟨by rfl, rfl⟩) (by assumption) ?_
        simp only [Act.put, List.setIfInBounds_toArray, List.set_cons_zero, List.set_cons_succ]
        refine wpAnyH_take (i := 10) (oi := { dst := some 25, op := Op.load 3 (Operand.tmp 24), type := 3, pos := "l08_fdb.go:51", after := #[{ on := 9, ground := Ground.data }, { on := 2, ground := Ground.guard }], guard := some (2, true) }) (v := undef) rfl (by kernel_rfl) (by kernel_rfl) (by kernel_rfl) (fun _ _ _ h => h) (Or.inr ⟨by rfl, rfl⟩) (by assumption) ?_
        simp only [Act.put, List.setIfInBounds_toArray, List.set_cons_zero, List.set_cons_succ]
        refine wpAnyH_take (i := 11) (oi := { dst := some 26, op := Op.call { callee := Callee.value (Operand.func 55), args := #[Operand.tmp 21, Operand.tmp 23, Operand.tmp 25], argTypes := #[30, 3, 3] }, type := 4, pos := "l08_fdb.go:51", after := #[{ on := 6, ground := Ground.data }, { on := 8, ground := Ground.data }, { on := 10, ground := Ground.data }, { on := 2, ground := Ground.chain }, { on := 2, ground := Ground.guard }], guard := some (2, true) }) (v := undef) rfl (by kernel_rfl) (by kernel_rfl) (by kernel_rfl) (fun _ _ _ h => h) (Or.inr ⟨by rfl, rfl⟩) (by assumption) ?_
        simp only [Act.put, List.setIfInBounds_toArray, List.set_cons_zero, List.set_cons_succ]
        refine wpAnyH_take (i := 12) (oi := { dst := some 27, op := Op.unOp UnOp.not 4 (Operand.tmp 26), type := 4, pos := "l08_fdb.go:51", after := #[{ on := 11, ground := Ground.data }, { on := 2, ground := Ground.guard }], guard := some (2, true) }) (v := undef) rfl (by kernel_rfl) (by kernel_rfl) (by kernel_rfl) (fun _ _ _ h => h) (Or.inr ⟨by rfl, rfl⟩) (by assumption) ?_
        simp only [Act.put, List.setIfInBounds_toArray, List.set_cons_zero, List.set_cons_succ]
        refine wpAnyH_take (i := 13) (oi := { dst := some 28, op := Op.pick (Operand.tmp 17) (Operand.tmp 27) (Operand.const (Value.bool false)), type := 4, pos := "l08_fdb.go:51", after := #[{ on := 2, ground := Ground.data }, { on := 12, ground := Ground.data }], guard := none }) (v := ?_) rfl (by kernel_rfl) (by kernel_rfl) (by kernel_rfl) (fun _ _ _ h => h) (Or.inl ⟨by rfl, ?_⟩) (by assumption) ?_
        rotate_left
        · (intro wY hSw; (try dsimp only at hSw); go_simp; try with_reducible rfl)
        simp only [Act.put, List.setIfInBounds_toArray, List.set_cons_zero, List.set_cons_succ]
        refine wpAnyH_done (by kernel_rfl) ?_ _
        have vv : Below wr.heap.size wr wr.drew := gr_drew (Below.refl _ _)
        have bq := gr_trans hb vv
        have kq := kept_block hbox vv
        have oq := gown_below how vv
        clear vv hb hbox how
        generalize hwq : wr.drew = wq at *
        clear hwq
        generalize hzz : zs = zq at *
        clear hzz
        generalize az = aq at *
        generalize cz = cq at *
        generalize nz = nq at *
        have hzq := hzs
        have hr := h.below bq
        have vv : Below wq.heap.size wq wq.drew := gr_drew (Below.refl _ _)
        cases t1 : (x.t != e.t)
        · cases t2 : (x.m != e.m)
          · have hbo : both x e.t e.m = true := by simp at t1 t2; exact both_iff.2 ⟨t1, t2⟩
            go_wp2_with fail
            refine wp_region_held_drew (S := (fun W => (W.cell? ⟨b, off + k * 5, none⟩ = some (.int .i64 x.t) ∧ W.cell? ⟨b, off + k * 5 + 1, none⟩ = some (.int .i64 x.m) ∧ W.cell? ⟨b, off + k * 5 + 2, none⟩ = some (.int .i64 x.p) ∧ W.cell? ⟨b, off + k * 5 + 3, none⟩ = some (.int .i64 x.a) ∧ W.cell? ⟨b, off + k * 5 + 4, none⟩ = some (.bool x.s)) ∧ (W.cell? ⟨w.heap.size, 0, none⟩ = some (.int .i64 e.t) ∧ W.cell? ⟨w.heap.size, 1, none⟩ = some (.int .i64 e.m) ∧ W.cell? ⟨w.heap.size, 2, none⟩ = some (.int .i64 e.p) ∧ W.cell? ⟨w.heap.size, 3, none⟩ = some (.int .i64 e.a) ∧ W.cell? ⟨w.heap.size, 4, none⟩ = some (.bool e.s)))) (by kernel_rfl) (⟨(at5 hr vv).2 k x hx, (cells5 (kept_block kq vv)).1⟩) (fun hHeld => ?_)
            refine wpAnyH_take (i := 0) (oi := { dst := some 33, op := Op.move (Operand.tmp 0), type := 24, pos := "l08_fdb.go:55", after := #[], guard := none }) (v := ?_) rfl (by kernel_rfl) (by kernel_rfl) (by kernel_rfl) (fun _ _ _ h => h) (Or.inl ⟨by rfl, ?_⟩) (by assumption) ?_
            rotate_left
            · (intro wY hSw; (try dsimp only at hSw); go_simp; try with_reducible rfl)
            simp only [Act.put, List.setIfInBounds_toArray, List.set_cons_zero, List.set_cons_succ]
            refine wpAnyH_take (i := 1) (oi := { dst := some 34, op := Op.move (Operand.tmp 7), type := 3, pos := "l08_fdb.go:55", after := #[], guard := none }) (v := ?_) rfl (by kernel_rfl) (by kernel_rfl) (by kernel_rfl) (fun _ _ _ h => h) (Or.inl ⟨by rfl, ?_⟩) (by assumption) ?_
            rotate_left
            · (intro wY hSw; (try dsimp only at hSw); go_simp; try with_reducible rfl)
            simp only [Act.put, List.setIfInBounds_toArray, List.set_cons_zero, List.set_cons_succ]
            refine wpAnyH_take (i := 2) (oi := { dst := some 35, op := Op.indexAddr 24 (Operand.tmp 33) (Operand.tmp 34), type := 0, pos := "l08_fdb.go:55", after := #[{ on := 0, ground := Ground.data }, { on := 1, ground := Ground.data }], guard := none }) (v := ?_) rfl (by kernel_rfl) (by kernel_rfl) (by kernel_rfl) (fun _ _ _ h => h) (Or.inl ⟨by rfl, ?_⟩) (by assumption) ?_
            rotate_left
            · (intro wY hSw; (try dsimp only at hSw); go_simp; try with_reducible rfl)
            simp only [Act.put, List.setIfInBounds_toArray, List.set_cons_zero, List.set_cons_succ]
            refine wpAnyH_take (i := 3) (oi := { dst := some 36, op := Op.fieldAddr 30 (Operand.tmp 35) 0, type := 0, pos := "l08_fdb.go:55", after := #[{ on := 2, ground := Ground.data }], guard := none }) (v := ?_) rfl (by kernel_rfl) (by kernel_rfl) (by kernel_rfl) (fun _ _ _ h => h) (Or.inl ⟨by rfl, ?_⟩) (by assumption) ?_
            rotate_left
            · (intro wY hSw; (try dsimp only at hSw); go_simp; try with_reducible rfl)
            simp only [Act.put, List.setIfInBounds_toArray, List.set_cons_zero, List.set_cons_succ]
            refine wpAnyH_take (i := 4) (oi := { dst := some 37, op := Op.load 3 (Operand.tmp 36), type := 3, pos := "l08_fdb.go:55", after := #[{ on := 3, ground := Ground.data }], guard := none }) (v := ?_) rfl (by kernel_rfl) (by kernel_rfl) (by kernel_rfl) (fun _ _ _ h => h) (Or.inl ⟨by rfl, ?_⟩) (by assumption) ?_
            rotate_left
            · (intro wY hSw; (try dsimp only at hSw); go_simp; try with_reducible rfl)
            simp only [Act.put, List.setIfInBounds_toArray, List.set_cons_zero, List.set_cons_succ]
            refine wpAnyH_take (i := 5) (oi := { dst := some 38, op := Op.fieldAddr 30 (Operand.tmp 3) 0, type := 0, pos := "l08_fdb.go:55", after := #[], guard := none }) (v := ?_) rfl (by kernel_rfl) (by kernel_rfl) (by kernel_rfl) (fun _ _ _ h => h) (Or.inl ⟨by rfl, ?_⟩) (by assumption) ?_
            rotate_left
            · (intro wY hSw; (try dsimp only at hSw); go_simp; try with_reducible rfl)
            simp only [Act.put, List.setIfInBounds_toArray, List.set_cons_zero, List.set_cons_succ]
            refine wpAnyH_take (i := 6) (oi := { dst := some 39, op := Op.load 3 (Operand.tmp 38), type := 3, pos := "l08_fdb.go:55", after := #[{ on := 5, ground := Ground.data }], guard := none }) (v := ?_) rfl (by kernel_rfl) (by kernel_rfl) (by kernel_rfl) (fun _ _ _ h => h) (Or.inl ⟨by rfl, ?_⟩) (by assumption) ?_
            rotate_left
            · (intro wY hSw; (try dsimp only at hSw); go_simp; try with_reducible rfl)
            simp only [Act.put, List.setIfInBounds_toArray, List.set_cons_zero, List.set_cons_succ]
            refine wpAnyH_take (i := 7) (oi := { dst := some 40, op := Op.binOp BinOp.neq 3 (Operand.tmp 37) (Operand.tmp 39) 3, type := 4, pos := "l08_fdb.go:55", after := #[{ on := 4, ground := Ground.data }, { on := 6, ground := Ground.data }], guard := none }) (v := ?_) rfl (by kernel_rfl) (by kernel_rfl) (by kernel_rfl) (fun _ _ _ h => h) (Or.inl ⟨by rfl, ?_⟩) (by assumption) ?_
            rotate_left
            · (intro wY hSw; (try dsimp only at hSw); go_simp; try with_reducible rfl)
            simp only [Act.put, List.setIfInBounds_toArray, List.set_cons_zero, List.set_cons_succ]
            refine wpAnyH_take (i := 8) (oi := { dst := some 41, op := Op.move (Operand.tmp 40), type := 4, pos := "l08_fdb.go:55", after := #[{ on := 7, ground := Ground.data }], guard := none }) (v := ?_) rfl (by kernel_rfl) (by kernel_rfl) (by kernel_rfl) (fun _ _ _ h => h) (Or.inl ⟨by rfl, ?_⟩) (by assumption) ?_
            rotate_left
            · (intro wY hSw; (try dsimp only at hSw); go_simp; try with_reducible rfl)
            simp only [Act.put, List.setIfInBounds_toArray, List.set_cons_zero, List.set_cons_succ]
            refine wpAnyH_take (i := 9) (oi := { dst := some 42, op := Op.move (Operand.tmp 0), type := 24, pos := "l08_fdb.go:55", after := #[{ on := 8, ground := Ground.guard }], guard := some (8, false) }) (v := ?_) rfl (by kernel_rfl) (by kernel_rfl) (by kernel_rfl) (fun _ _ _ h => h) (Or.inl ⟨by rfl, ?_⟩) (by assumption) ?_
            rotate_left
            · (intro wY hSw; (try dsimp only at hSw); go_simp; try with_reducible rfl)
            simp only [Act.put, List.setIfInBounds_toArray, List.set_cons_zero, List.set_cons_succ]
            refine wpAnyH_take (i := 10) (oi := { dst := some 43, op := Op.move (Operand.tmp 7), type := 3, pos := "l08_fdb.go:55", after := #[{ on := 8, ground := Ground.guard }], guard := some (8, false) }) (v := ?_) rfl (by kernel_rfl) (by kernel_rfl) (by kernel_rfl) (fun _ _ _ h => h) (Or.inl ⟨by rfl, ?_⟩) (by assumption) ?_
            rotate_left
            · (intro wY hSw; (try dsimp only at hSw); go_simp; try with_reducible rfl)
            simp only [Act.put, List.setIfInBounds_toArray, List.set_cons_zero, List.set_cons_succ]
            refine wpAnyH_take (i := 11) (oi := { dst := some 44, op := Op.indexAddr 24 (Operand.tmp 42) (Operand.tmp 43), type := 0, pos := "l08_fdb.go:55", after := #[{ on := 9, ground := Ground.data }, { on := 10, ground := Ground.data }, { on := 8, ground := Ground.guard }], guard := some (8, false) }) (v := ?_) rfl (by kernel_rfl) (by kernel_rfl) (by kernel_rfl) (fun _ _ _ h => h) (Or.inl ⟨by rfl, ?_⟩) (by assumption) ?_
            rotate_left
            · (intro wY hSw; (try dsimp only at hSw); go_simp; try with_reducible rfl)
            simp only [Act.put, List.setIfInBounds_toArray, List.set_cons_zero, List.set_cons_succ]
            refine wpAnyH_take (i := 12) (oi := { dst := some 45, op := Op.fieldAddr 30 (Operand.tmp 44) 1, type := 0, pos := "l08_fdb.go:55", after := #[{ on := 11, ground := Ground.data }, { on := 8, ground := Ground.guard }], guard := some (8, false) }) (v := ?_) rfl (by kernel_rfl) (by kernel_rfl) (by kernel_rfl) (fun _ _ _ h => h) (Or.inl ⟨by rfl, ?_⟩) (by assumption) ?_
            rotate_left
            · (intro wY hSw; (try dsimp only at hSw); go_simp; try with_reducible rfl)
            simp only [Act.put, List.setIfInBounds_toArray, List.set_cons_zero, List.set_cons_succ]
            refine wpAnyH_take (i := 13) (oi := { dst := some 46, op := Op.load 3 (Operand.tmp 45), type := 3, pos := "l08_fdb.go:55", after := #[{ on := 12, ground := Ground.data }, { on := 8, ground := Ground.guard }], guard := some (8, false) }) (v := ?_) rfl (by kernel_rfl) (by kernel_rfl) (by kernel_rfl) (fun _ _ _ h => h) (Or.inl ⟨by rfl, ?_⟩) (by assumption) ?_
            rotate_left
            · (intro wY hSw; (try dsimp only at hSw); go_simp; try with_reducible rfl)
            simp only [Act.put, List.setIfInBounds_toArray, List.set_cons_zero, List.set_cons_succ]
            refine wpAnyH_take (i := 14) (oi := { dst := some 47, op := Op.fieldAddr 30 (Operand.tmp 3) 1, type := 0, pos := "l08_fdb.go:55", after := #[{ on := 8, ground := Ground.guard }], guard := some (8, false) }) (v := ?_) rfl (by kernel_rfl) (by kernel_rfl) (by kernel_rfl) (fun _ _ _ h => h) (Or.inl ⟨by rfl, ?_⟩) (by assumption) ?_
            rotate_left
            · (intro wY hSw; (try dsimp only at hSw); go_simp; try with_reducible rfl)
            simp only [Act.put, List.setIfInBounds_toArray, List.set_cons_zero, List.set_cons_succ]
            refine wpAnyH_take (i := 15) (oi := { dst := some 48, op := Op.load 3 (Operand.tmp 47), type := 3, pos := "l08_fdb.go:55", after := #[{ on := 14, ground := Ground.data }, { on := 8, ground := Ground.guard }], guard := some (8, false) }) (v := ?_) rfl (by kernel_rfl) (by kernel_rfl) (by kernel_rfl) (fun _ _ _ h => h) (Or.inl ⟨by rfl, ?_⟩) (by assumption) ?_
            rotate_left
            · (intro wY hSw; (try dsimp only at hSw); go_simp; try with_reducible rfl)
            simp only [Act.put, List.setIfInBounds_toArray, List.set_cons_zero, List.set_cons_succ]
            refine wpAnyH_take (i := 16) (oi := { dst := some 49, op := Op.binOp BinOp.neq 3 (Operand.tmp 46) (Operand.tmp 48) 3, type := 4, pos := "l08_fdb.go:55", after := #[{ on := 13, ground := Ground.data }, { on := 15, ground := Ground.data }, { on := 8, ground := Ground.guard }], guard := some (8, false) }) (v := ?_) rfl (by kernel_rfl) (by kernel_rfl) (by kernel_rfl) (fun _ _ _ h => h) (Or.inl ⟨by rfl, ?_⟩) (by assumption) ?_
            rotate_left
            · (intro wY hSw; (try dsimp only at hSw); go_simp; try with_reducible rfl)
            simp only [Act.put, List.setIfInBounds_toArray, List.set_cons_zero, List.set_cons_succ]
            refine wpAnyH_take (i := 17) (oi := { dst := some 50, op := Op.pick (Operand.tmp 41) (Operand.const (Value.bool true)) (Operand.tmp 49), type := 4, pos := "l08_fdb.go:55", after := #[{ on := 8, ground := Ground.data }, { on := 16, ground := Ground.data }], guard := none }) (v := ?_) rfl (by kernel_rfl) (by kernel_rfl) (by kernel_rfl) (fun _ _ _ h => h) (Or.inl ⟨by rfl, ?_⟩) (by assumption) ?_
            rotate_left
            · (intro wY hSw; (try dsimp only at hSw); go_simp; try with_reducible rfl)
            simp only [Act.put, List.setIfInBounds_toArray, List.set_cons_zero, List.set_cons_succ]
            refine wpAnyH_done (by kernel_rfl) ?_ _
            have HQ := hide (show zq ++ putGo e true (l.drop (k + 1)) = putGo e false l from (putGo_drop (.inl rfl) hbo).trans (by rw [← drop_at hx]; exact hz))
            have HO := hide (gown_below oq vv)
            have HB9 := hide (gr_trans bq vv)
            have HK9 := hide (kept_block kq vv)
            clear oq bq kq vv hr
            go_wp2
            go_roundw
            case rel => exact ⟨k + 1, true, zq, aq, cq, nq, by omega, by go_num, rfl, rfl, hzq, by omega, HO.out, HQ.out, HB9.out, HK9.out⟩
            case measure => simp [intOf]; omega
          · have hbo : both x e.t e.m = false := by simp at t1 t2; exact both_not.2 (fun h => t2 h.2)
            go_wp2_with fail
            refine wp_region_held_drew (S := (fun W => (W.cell? ⟨b, off + k * 5, none⟩ = some (.int .i64 x.t) ∧ W.cell? ⟨b, off + k * 5 + 1, none⟩ = some (.int .i64 x.m) ∧ W.cell? ⟨b, off + k * 5 + 2, none⟩ = some (.int .i64 x.p) ∧ W.cell? ⟨b, off + k * 5 + 3, none⟩ = some (.int .i64 x.a) ∧ W.cell? ⟨b, off + k * 5 + 4, none⟩ = some (.bool x.s)) ∧ (W.cell? ⟨w.heap.size, 0, none⟩ = some (.int .i64 e.t) ∧ W.cell? ⟨w.heap.size, 1, none⟩ = some (.int .i64 e.m) ∧ W.cell? ⟨w.heap.size, 2, none⟩ = some (.int .i64 e.p) ∧ W.cell? ⟨w.heap.size, 3, none⟩ = some (.int .i64 e.a) ∧ W.cell? ⟨w.heap.size, 4, none⟩ = some (.bool e.s)))) (by kernel_rfl) (⟨(at5 hr vv).2 k x hx, (cells5 (kept_block kq vv)).1⟩) (fun hHeld => ?_)
            refine wpAnyH_take (i := 0) (oi := { dst := some 33, op := Op.move (Operand.tmp 0), type := 24, pos := "l08_fdb.go:55", after := #[], guard := none }) (v := ?_) rfl (by kernel_rfl) (by kernel_rfl) (by kernel_rfl) (fun _ _ _ h => h) (Or.inl ⟨by rfl, ?_⟩) (by assumption) ?_
            rotate_left
            · (intro wY hSw; (try dsimp only at hSw); go_simp; try with_reducible rfl)
            simp only [Act.put, List.setIfInBounds_toArray, List.set_cons_zero, List.set_cons_succ]
            refine wpAnyH_take (i := 1) (oi := { dst := some 34, op := Op.move (Operand.tmp 7), type := 3, pos := "l08_fdb.go:55", after := #[], guard := none }) (v := ?_) rfl (by kernel_rfl) (by kernel_rfl) (by kernel_rfl) (fun _ _ _ h => h) (Or.inl ⟨by rfl, ?_⟩) (by assumption) ?_
            rotate_left
            · (intro wY hSw; (try dsimp only at hSw); go_simp; try with_reducible rfl)
            simp only [Act.put, List.setIfInBounds_toArray, List.set_cons_zero, List.set_cons_succ]
            refine wpAnyH_take (i := 2) (oi := { dst := some 35, op := Op.indexAddr 24 (Operand.tmp 33) (Operand.tmp 34), type := 0, pos := "l08_fdb.go:55", after := #[{ on := 0, ground := Ground.data }, { on := 1, ground := Ground.data }], guard := none }) (v := ?_) rfl (by kernel_rfl) (by kernel_rfl) (by kernel_rfl) (fun _ _ _ h => h) (Or.inl ⟨by rfl, ?_⟩) (by assumption) ?_
            rotate_left
            · (intro wY hSw; (try dsimp only at hSw); go_simp; try with_reducible rfl)
            simp only [Act.put, List.setIfInBounds_toArray, List.set_cons_zero, List.set_cons_succ]
            refine wpAnyH_take (i := 3) (oi := { dst := some 36, op := Op.fieldAddr 30 (Operand.tmp 35) 0, type := 0, pos := "l08_fdb.go:55", after := #[{ on := 2, ground := Ground.data }], guard := none }) (v := ?_) rfl (by kernel_rfl) (by kernel_rfl) (by kernel_rfl) (fun _ _ _ h => h) (Or.inl ⟨by rfl, ?_⟩) (by assumption) ?_
            rotate_left
            · (intro wY hSw; (try dsimp only at hSw); go_simp; try with_reducible rfl)
            simp only [Act.put, List.setIfInBounds_toArray, List.set_cons_zero, List.set_cons_succ]
            refine wpAnyH_take (i := 4) (oi := { dst := some 37, op := Op.load 3 (Operand.tmp 36), type := 3, pos := "l08_fdb.go:55", after := #[{ on := 3, ground := Ground.data }], guard := none }) (v := ?_) rfl (by kernel_rfl) (by kernel_rfl) (by kernel_rfl) (fun _ _ _ h => h) (Or.inl ⟨by rfl, ?_⟩) (by assumption) ?_
            rotate_left
            · (intro wY hSw; (try dsimp only at hSw); go_simp; try with_reducible rfl)
            simp only [Act.put, List.setIfInBounds_toArray, List.set_cons_zero, List.set_cons_succ]
            refine wpAnyH_take (i := 5) (oi := { dst := some 38, op := Op.fieldAddr 30 (Operand.tmp 3) 0, type := 0, pos := "l08_fdb.go:55", after := #[], guard := none }) (v := ?_) rfl (by kernel_rfl) (by kernel_rfl) (by kernel_rfl) (fun _ _ _ h => h) (Or.inl ⟨by rfl, ?_⟩) (by assumption) ?_
            rotate_left
            · (intro wY hSw; (try dsimp only at hSw); go_simp; try with_reducible rfl)
            simp only [Act.put, List.setIfInBounds_toArray, List.set_cons_zero, List.set_cons_succ]
            refine wpAnyH_take (i := 6) (oi := { dst := some 39, op := Op.load 3 (Operand.tmp 38), type := 3, pos := "l08_fdb.go:55", after := #[{ on := 5, ground := Ground.data }], guard := none }) (v := ?_) rfl (by kernel_rfl) (by kernel_rfl) (by kernel_rfl) (fun _ _ _ h => h) (Or.inl ⟨by rfl, ?_⟩) (by assumption) ?_
            rotate_left
            · (intro wY hSw; (try dsimp only at hSw); go_simp; try with_reducible rfl)
            simp only [Act.put, List.setIfInBounds_toArray, List.set_cons_zero, List.set_cons_succ]
            refine wpAnyH_take (i := 7) (oi := { dst := some 40, op := Op.binOp BinOp.neq 3 (Operand.tmp 37) (Operand.tmp 39) 3, type := 4, pos := "l08_fdb.go:55", after := #[{ on := 4, ground := Ground.data }, { on := 6, ground := Ground.data }], guard := none }) (v := ?_) rfl (by kernel_rfl) (by kernel_rfl) (by kernel_rfl) (fun _ _ _ h => h) (Or.inl ⟨by rfl, ?_⟩) (by assumption) ?_
            rotate_left
            · (intro wY hSw; (try dsimp only at hSw); go_simp; try with_reducible rfl)
            simp only [Act.put, List.setIfInBounds_toArray, List.set_cons_zero, List.set_cons_succ]
            refine wpAnyH_take (i := 8) (oi := { dst := some 41, op := Op.move (Operand.tmp 40), type := 4, pos := "l08_fdb.go:55", after := #[{ on := 7, ground := Ground.data }], guard := none }) (v := ?_) rfl (by kernel_rfl) (by kernel_rfl) (by kernel_rfl) (fun _ _ _ h => h) (Or.inl ⟨by rfl, ?_⟩) (by assumption) ?_
            rotate_left
            · (intro wY hSw; (try dsimp only at hSw); go_simp; try with_reducible rfl)
            simp only [Act.put, List.setIfInBounds_toArray, List.set_cons_zero, List.set_cons_succ]
            refine wpAnyH_take (i := 9) (oi := { dst := some 42, op := Op.move (Operand.tmp 0), type := 24, pos := "l08_fdb.go:55", after := #[{ on := 8, ground := Ground.guard }], guard := some (8, false) }) (v := ?_) rfl (by kernel_rfl) (by kernel_rfl) (by kernel_rfl) (fun _ _ _ h => h) (Or.inl ⟨by rfl, ?_⟩) (by assumption) ?_
            rotate_left
            · (intro wY hSw; (try dsimp only at hSw); go_simp; try with_reducible rfl)
            simp only [Act.put, List.setIfInBounds_toArray, List.set_cons_zero, List.set_cons_succ]
            refine wpAnyH_take (i := 10) (oi := { dst := some 43, op := Op.move (Operand.tmp 7), type := 3, pos := "l08_fdb.go:55", after := #[{ on := 8, ground := Ground.guard }], guard := some (8, false) }) (v := ?_) rfl (by kernel_rfl) (by kernel_rfl) (by kernel_rfl) (fun _ _ _ h => h) (Or.inl ⟨by rfl, ?_⟩) (by assumption) ?_
            rotate_left
            · (intro wY hSw; (try dsimp only at hSw); go_simp; try with_reducible rfl)
            simp only [Act.put, List.setIfInBounds_toArray, List.set_cons_zero, List.set_cons_succ]
            refine wpAnyH_take (i := 11) (oi := { dst := some 44, op := Op.indexAddr 24 (Operand.tmp 42) (Operand.tmp 43), type := 0, pos := "l08_fdb.go:55", after := #[{ on := 9, ground := Ground.data }, { on := 10, ground := Ground.data }, { on := 8, ground := Ground.guard }], guard := some (8, false) }) (v := ?_) rfl (by kernel_rfl) (by kernel_rfl) (by kernel_rfl) (fun _ _ _ h => h) (Or.inl ⟨by rfl, ?_⟩) (by assumption) ?_
            rotate_left
            · (intro wY hSw; (try dsimp only at hSw); go_simp; try with_reducible rfl)
            simp only [Act.put, List.setIfInBounds_toArray, List.set_cons_zero, List.set_cons_succ]
            refine wpAnyH_take (i := 12) (oi := { dst := some 45, op := Op.fieldAddr 30 (Operand.tmp 44) 1, type := 0, pos := "l08_fdb.go:55", after := #[{ on := 11, ground := Ground.data }, { on := 8, ground := Ground.guard }], guard := some (8, false) }) (v := ?_) rfl (by kernel_rfl) (by kernel_rfl) (by kernel_rfl) (fun _ _ _ h => h) (Or.inl ⟨by rfl, ?_⟩) (by assumption) ?_
            rotate_left
            · (intro wY hSw; (try dsimp only at hSw); go_simp; try with_reducible rfl)
            simp only [Act.put, List.setIfInBounds_toArray, List.set_cons_zero, List.set_cons_succ]
            refine wpAnyH_take (i := 13) (oi := { dst := some 46, op := Op.load 3 (Operand.tmp 45), type := 3, pos := "l08_fdb.go:55", after := #[{ on := 12, ground := Ground.data }, { on := 8, ground := Ground.guard }], guard := some (8, false) }) (v := ?_) rfl (by kernel_rfl) (by kernel_rfl) (by kernel_rfl) (fun _ _ _ h => h) (Or.inl ⟨by rfl, ?_⟩) (by assumption) ?_
            rotate_left
            · (intro wY hSw; (try dsimp only at hSw); go_simp; try with_reducible rfl)
            simp only [Act.put, List.setIfInBounds_toArray, List.set_cons_zero, List.set_cons_succ]
            refine wpAnyH_take (i := 14) (oi := { dst := some 47, op := Op.fieldAddr 30 (Operand.tmp 3) 1, type := 0, pos := "l08_fdb.go:55", after := #[{ on := 8, ground := Ground.guard }], guard := some (8, false) }) (v := ?_) rfl (by kernel_rfl) (by kernel_rfl) (by kernel_rfl) (fun _ _ _ h => h) (Or.inl ⟨by rfl, ?_⟩) (by assumption) ?_
            rotate_left
            · (intro wY hSw; (try dsimp only at hSw); go_simp; try with_reducible rfl)
            simp only [Act.put, List.setIfInBounds_toArray, List.set_cons_zero, List.set_cons_succ]
            refine wpAnyH_take (i := 15) (oi := { dst := some 48, op := Op.load 3 (Operand.tmp 47), type := 3, pos := "l08_fdb.go:55", after := #[{ on := 14, ground := Ground.data }, { on := 8, ground := Ground.guard }], guard := some (8, false) }) (v := ?_) rfl (by kernel_rfl) (by kernel_rfl) (by kernel_rfl) (fun _ _ _ h => h) (Or.inl ⟨by rfl, ?_⟩) (by assumption) ?_
            rotate_left
            · (intro wY hSw; (try dsimp only at hSw); go_simp; try with_reducible rfl)
            simp only [Act.put, List.setIfInBounds_toArray, List.set_cons_zero, List.set_cons_succ]
            refine wpAnyH_take (i := 16) (oi := { dst := some 49, op := Op.binOp BinOp.neq 3 (Operand.tmp 46) (Operand.tmp 48) 3, type := 4, pos := "l08_fdb.go:55", after := #[{ on := 13, ground := Ground.data }, { on := 15, ground := Ground.data }, { on := 8, ground := Ground.guard }], guard := some (8, false) }) (v := ?_) rfl (by kernel_rfl) (by kernel_rfl) (by kernel_rfl) (fun _ _ _ h => h) (Or.inl ⟨by rfl, ?_⟩) (by assumption) ?_
            rotate_left
            · (intro wY hSw; (try dsimp only at hSw); go_simp; try with_reducible rfl)
            simp only [Act.put, List.setIfInBounds_toArray, List.set_cons_zero, List.set_cons_succ]
            refine wpAnyH_take (i := 17) (oi := { dst := some 50, op := Op.pick (Operand.tmp 41) (Operand.const (Value.bool true)) (Operand.tmp 49), type := 4, pos := "l08_fdb.go:55", after := #[{ on := 8, ground := Ground.data }, { on := 16, ground := Ground.data }], guard := none }) (v := ?_) rfl (by kernel_rfl) (by kernel_rfl) (by kernel_rfl) (fun _ _ _ h => h) (Or.inl ⟨by rfl, ?_⟩) (by assumption) ?_
            rotate_left
            · (intro wY hSw; (try dsimp only at hSw); go_simp; try with_reducible rfl)
            simp only [Act.put, List.setIfInBounds_toArray, List.set_cons_zero, List.set_cons_succ]
            refine wpAnyH_done (by kernel_rfl) ?_ _
            obtain ⟨y0, y1, y2, y3, y4⟩ := (at5 hr vv).2 k x hx
            have hl1 : (zq ++ [x]).length = nq + 1 := by simp [hzq]
            have kd := kept_block kq vv
            have od := gown_below oq vv
            have bd := gr_trans bq vv
            clear vv hHeld
            generalize hwd : wq.drew = wd at *
            clear hwd
            have kq1 := kept_block kd (below_one wd (.cells #[.int .i64 x.t, .int .i64 x.m, .int .i64 x.p, .int .i64 x.a, .bool x.s] 30))
            have oq1 := gown_below od (below_one wd (.cells #[.int .i64 x.t, .int .i64 x.m, .int .i64 x.p, .int .i64 x.a, .bool x.s] 30))
            have HQ := hide (show zq ++ [x] ++ putGo e true (l.drop (k + 1)) = putGo e false l from (putGo_keep (.inl rfl) hbo).trans (by rw [← drop_at hx]; exact hz))
            have HBQ := hide (gr_trans bd (below_one wd (.cells #[.int .i64 x.t, .int .i64 x.m, .int .i64 x.p, .int .i64 x.a, .bool x.s] 30)))
            have hbase9 := (Array.getElem?_eq_some_iff.1 kq1).1
            go_wp2_with (at_builtin; refine fent_append _ rfl _ _ rfl (w.heap.size + 1) _ nq zq rfl oq1 _ 1 1 [x] rfl (grow_one fentF _ x _ _ rfl) (by omega) hbase9 ?_)
            intro ao9 cap9 w9 how9 hr9 hgr9 hb9
            have kq9 := kept_base kq1 hb9 (by omega)
            have b9 : Below w.heap.size w w9 := HBQ.out.trans (hb9.mono (by omega))
            have HO := hide how9
            have HB9 := hide b9
            have HK9 := hide kq9
            have HL := hide hl1
            clear how9 hr9 hgr9 hb9 kq9 b9 oq1 kq1 kq oq bq hr hl1 HBQ kd od bd
            go_wp2
            go_roundw
            case rel => exact ⟨k + 1, true, zq ++ [x], ao9, cap9, nq + 1, by omega, by go_num, rfl, rfl, HL.out, by omega, HO.out, HQ.out, HB9.out, HK9.out⟩
            case measure => simp [intOf]; omega
        · have hbo : both x e.t e.m = false := by simp at t1; exact both_not.2 (fun h => t1 h.1)
          go_wp2_with fail
          refine wp_region_held_drew (S := (fun W => (W.cell? ⟨b, off + k * 5, none⟩ = some (.int .i64 x.t) ∧ W.cell? ⟨b, off + k * 5 + 1, none⟩ = some (.int .i64 x.m) ∧ W.cell? ⟨b, off + k * 5 + 2, none⟩ = some (.int .i64 x.p) ∧ W.cell? ⟨b, off + k * 5 + 3, none⟩ = some (.int .i64 x.a) ∧ W.cell? ⟨b, off + k * 5 + 4, none⟩ = some (.bool x.s)) ∧ (W.cell? ⟨w.heap.size, 0, none⟩ = some (.int .i64 e.t) ∧ W.cell? ⟨w.heap.size, 1, none⟩ = some (.int .i64 e.m) ∧ W.cell? ⟨w.heap.size, 2, none⟩ = some (.int .i64 e.p) ∧ W.cell? ⟨w.heap.size, 3, none⟩ = some (.int .i64 e.a) ∧ W.cell? ⟨w.heap.size, 4, none⟩ = some (.bool e.s)))) (by kernel_rfl) (⟨(at5 hr vv).2 k x hx, (cells5 (kept_block kq vv)).1⟩) (fun hHeld => ?_)
          refine wpAnyH_take (i := 0) (oi := { dst := some 33, op := Op.move (Operand.tmp 0), type := 24, pos := "l08_fdb.go:55", after := #[], guard := none }) (v := ?_) rfl (by kernel_rfl) (by kernel_rfl) (by kernel_rfl) (fun _ _ _ h => h) (Or.inl ⟨by rfl, ?_⟩) (by assumption) ?_
          rotate_left
          · (intro wY hSw; (try dsimp only at hSw); go_simp; try with_reducible rfl)
          simp only [Act.put, List.setIfInBounds_toArray, List.set_cons_zero, List.set_cons_succ]
          refine wpAnyH_take (i := 1) (oi := { dst := some 34, op := Op.move (Operand.tmp 7), type := 3, pos := "l08_fdb.go:55", after := #[], guard := none }) (v := ?_) rfl (by kernel_rfl) (by kernel_rfl) (by kernel_rfl) (fun _ _ _ h => h) (Or.inl ⟨by rfl, ?_⟩) (by assumption) ?_
          rotate_left
          · (intro wY hSw; (try dsimp only at hSw); go_simp; try with_reducible rfl)
          simp only [Act.put, List.setIfInBounds_toArray, List.set_cons_zero, List.set_cons_succ]
          refine wpAnyH_take (i := 2) (oi := { dst := some 35, op := Op.indexAddr 24 (Operand.tmp 33) (Operand.tmp 34), type := 0, pos := "l08_fdb.go:55", after := #[{ on := 0, ground := Ground.data }, { on := 1, ground := Ground.data }], guard := none }) (v := ?_) rfl (by kernel_rfl) (by kernel_rfl) (by kernel_rfl) (fun _ _ _ h => h) (Or.inl ⟨by rfl, ?_⟩) (by assumption) ?_
          rotate_left
          · (intro wY hSw; (try dsimp only at hSw); go_simp; try with_reducible rfl)
          simp only [Act.put, List.setIfInBounds_toArray, List.set_cons_zero, List.set_cons_succ]
          refine wpAnyH_take (i := 3) (oi := { dst := some 36, op := Op.fieldAddr 30 (Operand.tmp 35) 0, type := 0, pos := "l08_fdb.go:55", after := #[{ on := 2, ground := Ground.data }], guard := none }) (v := ?_) rfl (by kernel_rfl) (by kernel_rfl) (by kernel_rfl) (fun _ _ _ h => h) (Or.inl ⟨by rfl, ?_⟩) (by assumption) ?_
          rotate_left
          · (intro wY hSw; (try dsimp only at hSw); go_simp; try with_reducible rfl)
          simp only [Act.put, List.setIfInBounds_toArray, List.set_cons_zero, List.set_cons_succ]
          refine wpAnyH_take (i := 4) (oi := { dst := some 37, op := Op.load 3 (Operand.tmp 36), type := 3, pos := "l08_fdb.go:55", after := #[{ on := 3, ground := Ground.data }], guard := none }) (v := ?_) rfl (by kernel_rfl) (by kernel_rfl) (by kernel_rfl) (fun _ _ _ h => h) (Or.inl ⟨by rfl, ?_⟩) (by assumption) ?_
          rotate_left
          · (intro wY hSw; (try dsimp only at hSw); go_simp; try with_reducible rfl)
          simp only [Act.put, List.setIfInBounds_toArray, List.set_cons_zero, List.set_cons_succ]
          refine wpAnyH_take (i := 5) (oi := { dst := some 38, op := Op.fieldAddr 30 (Operand.tmp 3) 0, type := 0, pos := "l08_fdb.go:55", after := #[], guard := none }) (v := ?_) rfl (by kernel_rfl) (by kernel_rfl) (by kernel_rfl) (fun _ _ _ h => h) (Or.inl ⟨by rfl, ?_⟩) (by assumption) ?_
          rotate_left
          · (intro wY hSw; (try dsimp only at hSw); go_simp; try with_reducible rfl)
          simp only [Act.put, List.setIfInBounds_toArray, List.set_cons_zero, List.set_cons_succ]
          refine wpAnyH_take (i := 6) (oi := { dst := some 39, op := Op.load 3 (Operand.tmp 38), type := 3, pos := "l08_fdb.go:55", after := #[{ on := 5, ground := Ground.data }], guard := none }) (v := ?_) rfl (by kernel_rfl) (by kernel_rfl) (by kernel_rfl) (fun _ _ _ h => h) (Or.inl ⟨by rfl, ?_⟩) (by assumption) ?_
          rotate_left
          · (intro wY hSw; (try dsimp only at hSw); go_simp; try with_reducible rfl)
          simp only [Act.put, List.setIfInBounds_toArray, List.set_cons_zero, List.set_cons_succ]
          refine wpAnyH_take (i := 7) (oi := { dst := some 40, op := Op.binOp BinOp.neq 3 (Operand.tmp 37) (Operand.tmp 39) 3, type := 4, pos := "l08_fdb.go:55", after := #[{ on := 4, ground := Ground.data }, { on := 6, ground := Ground.data }], guard := none }) (v := ?_) rfl (by kernel_rfl) (by kernel_rfl) (by kernel_rfl) (fun _ _ _ h => h) (Or.inl ⟨by rfl, ?_⟩) (by assumption) ?_
          rotate_left
          · (intro wY hSw; (try dsimp only at hSw); go_simp; try with_reducible rfl)
          simp only [Act.put, List.setIfInBounds_toArray, List.set_cons_zero, List.set_cons_succ]
          refine wpAnyH_take (i := 8) (oi := { dst := some 41, op := Op.move (Operand.tmp 40), type := 4, pos := "l08_fdb.go:55", after := #[{ on := 7, ground := Ground.data }], guard := none }) (v := ?_) rfl (by kernel_rfl) (by kernel_rfl) (by kernel_rfl) (fun _ _ _ h => h) (Or.inl ⟨by rfl, ?_⟩) (by assumption) ?_
          rotate_left
          · (intro wY hSw; (try dsimp only at hSw); go_simp; try with_reducible rfl)
          simp only [Act.put, List.setIfInBounds_toArray, List.set_cons_zero, List.set_cons_succ]
          refine wpAnyH_take (i := 9) (oi := { dst := some 42, op := Op.move (Operand.tmp 0), type := 24, pos := "l08_fdb.go:55", after := #[{ on := 8, ground := Ground.guard }], guard := some (8, false) }) (v := undef) rfl (by kernel_rfl) (by kernel_rfl) (by kernel_rfl) (fun _ _ _ h => h) (Or.inr ⟨by rfl, rfl⟩) (by assumption) ?_
          simp only [Act.put, List.setIfInBounds_toArray, List.set_cons_zero, List.set_cons_succ]
          refine wpAnyH_take (i := 10) (oi := { dst := some 43, op := Op.move (Operand.tmp 7), type := 3, pos := "l08_fdb.go:55", after := #[{ on := 8, ground := Ground.guard }], guard := some (8, false) }) (v := undef) rfl (by kernel_rfl) (by kernel_rfl) (by kernel_rfl) (fun _ _ _ h => h) (Or.inr ⟨by rfl, rfl⟩) (by assumption) ?_
          simp only [Act.put, List.setIfInBounds_toArray, List.set_cons_zero, List.set_cons_succ]
          refine wpAnyH_take (i := 11) (oi := { dst := some 44, op := Op.indexAddr 24 (Operand.tmp 42) (Operand.tmp 43), type := 0, pos := "l08_fdb.go:55", after := #[{ on := 9, ground := Ground.data }, { on := 10, ground := Ground.data }, { on := 8, ground := Ground.guard }], guard := some (8, false) }) (v := undef) rfl (by kernel_rfl) (by kernel_rfl) (by kernel_rfl) (fun _ _ _ h => h) (Or.inr ⟨by rfl, rfl⟩) (by assumption) ?_
          simp only [Act.put, List.setIfInBounds_toArray, List.set_cons_zero, List.set_cons_succ]
          refine wpAnyH_take (i := 12) (oi := { dst := some 45, op := Op.fieldAddr 30 (Operand.tmp 44) 1, type := 0, pos := "l08_fdb.go:55", after := #[{ on := 11, ground := Ground.data }, { on := 8, ground := Ground.guard }], guard := some (8, false) }) (v := undef) rfl (by kernel_rfl) (by kernel_rfl) (by kernel_rfl) (fun _ _ _ h => h) (Or.inr ⟨by rfl, rfl⟩) (by assumption) ?_
          simp only [Act.put, List.setIfInBounds_toArray, List.set_cons_zero, List.set_cons_succ]
          refine wpAnyH_take (i := 13) (oi := { dst := some 46, op := Op.load 3 (Operand.tmp 45), type := 3, pos := "l08_fdb.go:55", after := #[{ on := 12, ground := Ground.data }, { on := 8, ground := Ground.guard }], guard := some (8, false) }) (v := undef) rfl (by kernel_rfl) (by kernel_rfl) (by kernel_rfl) (fun _ _ _ h => h) (Or.inr ⟨by rfl, rfl⟩) (by assumption) ?_
          simp only [Act.put, List.setIfInBounds_toArray, List.set_cons_zero, List.set_cons_succ]
          refine wpAnyH_take (i := 14) (oi := { dst := some 47, op := Op.fieldAddr 30 (Operand.tmp 3) 1, type := 0, pos := "l08_fdb.go:55", after := #[{ on := 8, ground := Ground.guard }], guard := some (8, false) }) (v := undef) rfl (by kernel_rfl) (by kernel_rfl) (by kernel_rfl) (fun _ _ _ h => h) (Or.inr ⟨by rfl, rfl⟩) (by assumption) ?_
          simp only [Act.put, List.setIfInBounds_toArray, List.set_cons_zero, List.set_cons_succ]
          refine wpAnyH_take (i := 15) (oi := { dst := some 48, op := Op.load 3 (Operand.tmp 47), type := 3, pos := "l08_fdb.go:55", after := #[{ on := 14, ground := Ground.data }, { on := 8, ground := Ground.guard }], guard := some (8, false) }) (v := undef) rfl (by kernel_rfl) (by kernel_rfl) (by kernel_rfl) (fun _ _ _ h => h) (Or.inr ⟨by rfl, rfl⟩) (by assumption) ?_
          simp only [Act.put, List.setIfInBounds_toArray, List.set_cons_zero, List.set_cons_succ]
          refine wpAnyH_take (i := 16) (oi := { dst := some 49, op := Op.binOp BinOp.neq 3 (Operand.tmp 46) (Operand.tmp 48) 3, type := 4, pos := "l08_fdb.go:55", after := #[{ on := 13, ground := Ground.data }, { on := 15, ground := Ground.data }, { on := 8, ground := Ground.guard }], guard := some (8, false) }) (v := undef) rfl (by kernel_rfl) (by kernel_rfl) (by kernel_rfl) (fun _ _ _ h => h) (Or.inr ⟨by rfl, rfl⟩) (by assumption) ?_
          simp only [Act.put, List.setIfInBounds_toArray, List.set_cons_zero, List.set_cons_succ]
          refine wpAnyH_take (i := 17) (oi := { dst := some 50, op := Op.pick (Operand.tmp 41) (Operand.const (Value.bool true)) (Operand.tmp 49), type := 4, pos := "l08_fdb.go:55", after := #[{ on := 8, ground := Ground.data }, { on := 16, ground := Ground.data }], guard := none }) (v := ?_) rfl (by kernel_rfl) (by kernel_rfl) (by kernel_rfl) (fun _ _ _ h => h) (Or.inl ⟨by rfl, ?_⟩) (by assumption) ?_
          rotate_left
          · (intro wY hSw; (try dsimp only at hSw); go_simp; try with_reducible rfl)
          simp only [Act.put, List.setIfInBounds_toArray, List.set_cons_zero, List.set_cons_succ]
          refine wpAnyH_done (by kernel_rfl) ?_ _
          obtain ⟨y0, y1, y2, y3, y4⟩ := (at5 hr vv).2 k x hx
          have hl1 : (zq ++ [x]).length = nq + 1 := by simp [hzq]
          have kd := kept_block kq vv
          have od := gown_below oq vv
          have bd := gr_trans bq vv
          clear vv hHeld
          generalize hwd : wq.drew = wd at *
          clear hwd
          have kq1 := kept_block kd (below_one wd (.cells #[.int .i64 x.t, .int .i64 x.m, .int .i64 x.p, .int .i64 x.a, .bool x.s] 30))
          have oq1 := gown_below od (below_one wd (.cells #[.int .i64 x.t, .int .i64 x.m, .int .i64 x.p, .int .i64 x.a, .bool x.s] 30))
          have HQ := hide (show zq ++ [x] ++ putGo e true (l.drop (k + 1)) = putGo e false l from (putGo_keep (.inl rfl) hbo).trans (by rw [← drop_at hx]; exact hz))
          have HBQ := hide (gr_trans bd (below_one wd (.cells #[.int .i64 x.t, .int .i64 x.m, .int .i64 x.p, .int .i64 x.a, .bool x.s] 30)))
          have hbase9 := (Array.getElem?_eq_some_iff.1 kq1).1
          go_wp2_with (at_builtin; refine fent_append _ rfl _ _ rfl (w.heap.size + 1) _ nq zq rfl oq1 _ 1 1 [x] rfl (grow_one fentF _ x _ _ rfl) (by omega) hbase9 ?_)
          intro ao9 cap9 w9 how9 hr9 hgr9 hb9
          have kq9 := kept_base kq1 hb9 (by omega)
          have b9 : Below w.heap.size w w9 := HBQ.out.trans (hb9.mono (by omega))
          have HO := hide how9
          have HB9 := hide b9
          have HK9 := hide kq9
          have HL := hide hl1
          clear how9 hr9 hgr9 hb9 kq9 b9 oq1 kq1 kq oq bq hr hl1 HBQ kd od bd
          go_wp2
          go_roundw
          case rel => exact ⟨k + 1, true, zq ++ [x], ao9, cap9, nq + 1, by omega, by go_num, rfl, rfl, HL.out, by omega, HO.out, HQ.out, HB9.out, HK9.out⟩
          case measure => simp [intOf]; omega
    · have hkn : k = n := by omega
      subst hkn
      rw [List.drop_eq_nil_of_le (by omega)] at hz
      cases dd
      · obtain ⟨⟨x0, x1, x2, x3, x4⟩, -⟩ := cells5 hbox
        have hbs := (Array.getElem?_eq_some_iff.1 hbox).1
        have hP : zs ++ [e] = putF8 e l := by simpa [putGo, putF8] using hz
        have how1 := gown_below how (below_one wr (.cells #[.int .i64 e.t, .int .i64 e.m, .int .i64 e.p, .int .i64 e.a, .bool e.s] 30))
        have HBR := hide (gr_trans hb (below_one wr (.cells #[.int .i64 e.t, .int .i64 e.m, .int .i64 e.p, .int .i64 e.a, .bool e.s] 30)))
        have hbase9 := (Array.getElem?_eq_some_iff.1 (kept_block hbox (below_one wr (.cells #[.int .i64 e.t, .int .i64 e.m, .int .i64 e.p, .int .i64 e.a, .bool e.s] 30)))).1
        go_wp2_with (at_builtin; refine fent_append _ rfl _ _ rfl (w.heap.size + 1) _ nz zs rfl how1 _ 1 1 [e] rfl (grow_one fentF _ e _ _ rfl) (by omega) hbase9 ?_)
        intro ao9 cap9 w9 how9 hr9 hgr9 hb9
        have hl : nz + 1 = (putF8 e l).length := by rw [← hP]; simp [hzs]
        have HL := hide hl
        have how9 := gown_lt how9 (base' := w.heap.size) (by omega)
        have HO : Hid (w9.ownsRow w.heap.size 30 5 (.slice ao9 (putF8 e l).length cap9) (putF8 e l).length (fentF.all (putF8 e l))) := by rw [← hl]; exact how9
        have HR : Hid (GRow fentF w9 ao9 (putF8 e l).length cap9 (putF8 e l)) := by rw [← hl]; exact hr9
        clear hl
        have HB9 := hide (HBR.out.trans (hb9.mono (by omega)))
        clear how9 hr9 hgr9 hb9 how1 x0 x1 x2 x3 x4
        go_wp2
        go_ret
        exact ⟨_, _, (by rw [← HL.out]; rfl), HO.out, HR.out, HB9.out⟩
      · have hP : zs = putF8 e l := by simpa [putGo, putF8] using hz
        have hl : nz = (putF8 e l).length := by rw [← hP]; exact hzs.symm
        rw [hP] at how
        subst hl
        have HO := hide (gown_lt how (base' := w.heap.size) (by omega))
        have HR := hide (grow_own how)
        have HB := hide hb
        clear how hb hbox
        go_wp2
        go_ret
        exact ⟨_, _, rfl, HO.out, HR.out, HB.out⟩

end Go.Proofs.Ytmcikcpkggonfaa
