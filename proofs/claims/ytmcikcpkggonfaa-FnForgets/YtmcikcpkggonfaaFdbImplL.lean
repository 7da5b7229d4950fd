/-
  Who is learned, who is set: the program's own.
-/
import Derived.Test.YtmcikcpkggonfaaFdbPut
import Derived.Test.YtmcikcpkggonfaaFdbEnt
namespace Go.Proofs.Ytmcikcpkggonfaa
open Go.RowKit

set_option maxRecDepth 100000 in
set_option maxHeartbeats 1000000 in
theorem clone_any (ao : Option Addr) (n cap : Nat) (l : List FE) (w : World) (h : GRow fentF w ao n cap l) (hn : n ≤ 16777216) :
    Calls Try.prog 40 #[.slice ao n cap] w fun r w' => ∃ ao' cap', r = .returned (.slice ao' n cap') ∧ w'.ownsRow w.heap.size 30 5 (.slice ao' n cap') n (fentF.all l) ∧ GRow fentF w' ao' n cap' l ∧ Below w.heap.size w w' := by
  cases ao with
  | none =>
    have hc0 := h.nil rfl
    have hn0 : n = 0 := by have := h.le; omega
    subst hc0 hn0
    have hl : l = [] := List.eq_nil_of_length_eq_zero h.size
    subst hl
    have heq : ∀ W, (binOp .eql 24 (.slice none 0 0) (.slice none 0 0)).run Try.prog W = .ok (.bool true) W := fun _ => by kernel_rfl
    go_enter Try.func40, Try.ntmps40
    go_wp2
    go_ret
    exact ⟨none, 0, rfl, World.ownsRow_nil _ _ _ _, grow_nil _ _, Below.refl _ _⟩
  | some a =>
    have heq : ∀ W, (binOp .eql 24 (.slice (some a) n cap) (.slice none 0 0)).run Try.prog W = .ok (.bool false) W := fun _ => by kernel_rfl
    go_enter Try.func40, Try.ntmps40
    go_wp2_with (at_builtin; refine fent_append _ rfl _ _ rfl w.heap.size _ 0 [] rfl (flat_nil fentF w _ 30 w.heap.size (block_last w _) (Nat.le_refl _)) (some a) n cap l rfl (h.below (below_one _ _)) (by omega) (by simp) ?_)
    intro ao' cap' w' how hr hgr hb
    have how : w'.ownsRow w.heap.size 30 5 (.slice ao' n cap') n (fentF.all l) := by simpa using how
    have hr : GRow fentF w' ao' n cap' l := by simpa using hr
    have HO := hide how
    have HB := hide ((below_one w _).trans hb)
    clear how hgr hb
    go_wp2
    go_ret
    exact ⟨ao', cap', (by simp), HO.out, hr, HB.out⟩

theorem ents_look {l : List FE} (h : Sorted l) (t m : Int) : entsOf l (t, m, 0) = lookE l t m := by
  cases hk : lookE l t m with
  | none =>
    refine ents_none l (fun hm => ?_)
    rw [keys_rise h] at hm
    obtain ⟨x, hx, hxe⟩ := List.mem_map.1 hm
    unfold key0 at hxe
    simp at hxe
    exact look_none.1 hk x hx hxe
  | some x =>
    obtain ⟨hx, rfl, rfl⟩ := look_some hk
    obtain ⟨i, hi⟩ := List.getElem?_of_mem hx
    have hki : (keysOf l)[i]? = some (key0 x) := by rw [keys_rise h, List.getElem?_map, hi]; rfl
    obtain ⟨e, he, hge⟩ := keys_at hki
    rw [hi] at he
    cases he
    exact hge

set_option maxRecDepth 100000 in
set_option maxHeartbeats 16000000 in
theorem implLearn_made (ao : Option Addr) (n cap : Nat) (l : List FE) (t m p : Int) (w : World) (h : GRow fentF w ao n cap l) (hn : n ≤ 16777216) (hR : ∀ x ∈ l, x.Rng) :
    Calls Try.prog 11 #[.slice ao n cap, .int .i64 t, .int .i64 m, .int .i64 p] w fun r w' => ∃ ao' cap', r = .returned (.slice ao' (learnF l t m p).length cap') ∧ w'.ownsRow w.heap.size 30 5 (.slice ao' (learnF l t m p).length cap') (learnF l t m p).length (fentF.all (learnF l t m p)) ∧ GRow fentF w' ao' (learnF l t m p).length cap' (learnF l t m p) ∧ Below w.heap.size w w' := by
  have q0 := below_one w (.cells #[.int .i64 t, .int .i64 m, .int .i64 p, .int .i64 0, .bool false] 30)
  have k0 := block_last w (.cells #[.int .i64 t, .int .i64 m, .int .i64 p, .int .i64 0, .bool false] 30)
  obtain rfl := h.size
  cases h1 : fdbOk l
  · rw [show learnF l t m p = l by unfold learnF canLearn; rw [h1]; rfl]
    have H1 := hide h1
    clear h1
    go_enter Try.func11, Try.ntmps11
    go_wp2_with fail
    refine (implFdbOk_all _ _ _ l _ (h.below q0) hn).mono ?_
    rintro r wy ⟨rfl, hby⟩
    rw [H1.out]
    have bx := gr_trans q0 hby
    clear hby
    go_wp2_with fail
    refine (clone_any _ _ _ l _ (h.below bx) hn).mono ?_
    rintro r w9 ⟨ao9, cap9, rfl, ho9, hr9, hb9⟩
    have HO := hide (gown_lt ho9 (base' := w.heap.size) bx.size)
    have HR := hide hr9
    have HB := hide (gr_trans bx hb9)
    clear ho9 hr9 hb9 bx
    go_wp2
    go_ret
    exact ⟨_, _, rfl, HO.out, HR.out, HB.out⟩
  · cases h2 : entOk (⟨t, m, p, 0, false⟩ : FE)
    · rw [show learnF l t m p = l by unfold learnF canLearn; rw [h1, h2]; rfl]
      have H1 := hide h1
      have H2 := hide h2
      clear h1 h2
      go_enter Try.func11, Try.ntmps11
      go_wp2_with fail
      refine (implFdbOk_all _ _ _ l _ (h.below q0) hn).mono ?_
      rintro r wy ⟨rfl, hby⟩
      rw [H1.out]
      obtain ⟨⟨x0, x1, x2, x3, x4⟩, -⟩ := cells5 (kept_block k0 hby)
      go_wp2_with fail
      refine (implEnt_any (⟨t, m, p, 0, false⟩ : FE) _).mono ?_
      rintro r wx ⟨rfl, hbx⟩
      rw [H2.out]
      have bx := gr_trans q0 (gr_trans hby hbx)
      have kx := kept_block k0 (gr_trans hby hbx)
      clear hby hbx x0 x1 x2 x3 x4
      go_wp2_with fail
      refine (clone_any _ _ _ l _ (h.below bx) hn).mono ?_
      rintro r w9 ⟨ao9, cap9, rfl, ho9, hr9, hb9⟩
      have HO := hide (gown_lt ho9 (base' := w.heap.size) bx.size)
      have HR := hide hr9
      have HB := hide (gr_trans bx hb9)
      clear ho9 hr9 hb9 bx
      go_wp2
      go_ret
      exact ⟨_, _, rfl, HO.out, HR.out, HB.out⟩
    · obtain ⟨hsl, h12⟩ := (fdbOk_iff l).1 h1
      have hrng := ent_rng h2
      have hok0 : FKok (t, m, 0) := ⟨hrng.1, hrng.2.1, by simp only; omega⟩
      have hfld : ∀ W v0 v1 v2 v3 v4, (Instr.field 30 (.agg #[v0, v1, v2, v3, .bool v4]) 4).run Try.prog W = .ok (.bool v4) W := fun _ _ _ _ _ _ => by kernel_rfl
      have H1 := hide h1
      have H2 := hide h2
      cases hlk : lookE l t m with
      | some x =>
        have HLK := hide hlk
        cases hxs : x.s
        · have hL : learnF l t m p = insF (⟨t, m, p, 0, false⟩ : FE) l := by
            unfold learnF canLearn
            rw [h1, h2, hlk]
            simp only [hxs, Bool.not_false, Bool.and_self, if_true]
            exact putF8_sorted hsl
          rw [hL]
          have HPK : Hid (((lookE l t m).isSome || decide (l.length < 12)) = true) := by rw [HLK.out]; rfl
          clear h1 h2 hlk hL
          go_enter Try.func11, Try.ntmps11
          go_wp2_with fail
          refine (implFdbOk_all _ _ _ l _ (h.below q0) hn).mono ?_
          rintro r wy ⟨rfl, hby⟩
          rw [H1.out]
          obtain ⟨⟨x0, x1, x2, x3, x4⟩, -⟩ := cells5 (kept_block k0 hby)
          go_wp2_with fail
          refine (implEnt_any (⟨t, m, p, 0, false⟩ : FE) _).mono ?_
          rintro r wx ⟨rfl, hbx⟩
          rw [H2.out]
          have bx := gr_trans q0 (gr_trans hby hbx)
          have kx := kept_block k0 (gr_trans hby hbx)
          clear hby hbx x0 x1 x2 x3 x4
          go_wp2_with fail
          refine (tableOf_any _ _ _ l _ (h.below bx) hn hR).mono ?_
          rintro r wt ⟨q, bm, rfl, tab, hbt⟩
          have bt := gr_trans bx hbt
          have hbase := hbt.size
          have kt := kept_block kx hbt
          obtain ⟨aq, cq, hbox, -⟩ := tab.box
          have hmap := tab.map
          have hS : ∀ W, Below wt.heap.size wt W → (W.cell? ⟨q, 1, none⟩ = some (.map (some bm)) ∧ (W.cell? ⟨w.heap.size, 0, none⟩ = some (.int .i64 t) ∧ W.cell? ⟨w.heap.size, 1, none⟩ = some (.int .i64 m) ∧ W.cell? ⟨w.heap.size, 2, none⟩ = some (.int .i64 p) ∧ W.cell? ⟨w.heap.size, 3, none⟩ = some (.int .i64 0) ∧ W.cell? ⟨w.heap.size, 4, none⟩ = some (.bool false)) ∧ (Instr.lookup 56 (.map (some bm)) (.agg #[.int .i64 t, .int .i64 m, .int .i64 0]) false).run Try.prog W = .ok (.agg #[.int .i64 x.t, .int .i64 x.m, .int .i64 x.p, .int .i64 x.a, .bool false]) W) := by
            intro W hW
            refine ⟨(cells2 (kept_block hbox hW)).1.2, (cells5 (kept_block kt hW)).1, ?_⟩
            have := (hmap.kept hW).look false hok0
            rw [ents_look hsl] at this
            rw [HLK.out] at this
            refine this.trans ?_
            show Result.ok (feV x) _ = _
            unfold feV
            rw [hxs]
          have HSS := hide hS
          have vv : Below wt.heap.size wt wt.drew := gr_drew (Below.refl _ _)
          clear hS hbox hmap
          go_wp2_with fail
          refine wp_region_held_drew (S := (fun W => W.cell? ⟨q, 1, none⟩ = some (.map (some bm)) ∧ (W.cell? ⟨w.heap.size, 0, none⟩ = some (.int .i64 t) ∧ W.cell? ⟨w.heap.size, 1, none⟩ = some (.int .i64 m) ∧ W.cell? ⟨w.heap.size, 2, none⟩ = some (.int .i64 p) ∧ W.cell? ⟨w.heap.size, 3, none⟩ = some (.int .i64 0) ∧ W.cell? ⟨w.heap.size, 4, none⟩ = some (.bool false)) ∧ (Instr.lookup 56 (.map (some bm)) (.agg #[.int .i64 t, .int .i64 m, .int .i64 0]) false).run Try.prog W = .ok (.agg #[.int .i64 x.t, .int .i64 x.m, .int .i64 x.p, .int .i64 x.a, .bool false]) W)) (by kernel_rfl) (HSS.out _ vv) (fun hHeld => ?_)
          refine wpAnyH_take (i := 0) (oi := { dst := some 27, op := Op.move (Operand.tmp 10), type := 53, pos := "l08_fdb.go:50", after := #[], guard := none }) (v := ?_) rfl (by kernel_rfl) (by kernel_rfl) (by kernel_rfl) (fun _ _ _ h => h) (Or.inl ⟨by rfl, ?_⟩) (by assumption) ?_
          rotate_left
          · (intro wY hSw; (try dsimp only at hSw); go_simp; try with_reducible rfl)
          simp only [Act.put, List.setIfInBounds_toArray, List.set_cons_zero, List.set_cons_succ]
          refine wpAnyH_take (i := 1) (oi := { dst := some 28, op := Op.nilCheck (Operand.tmp 27), type := 0, pos := "l08_fdb.go:50", after := #[{ on := 0, ground := Ground.data }], guard := none }) (v := ?_) rfl (by kernel_rfl) (by kernel_rfl) (by kernel_rfl) (fun _ _ _ h => h) (Or.inl ⟨by rfl, ?_⟩) (by assumption) ?_
          rotate_left
          · (intro wY hSw; (try dsimp only at hSw); go_simp; try with_reducible rfl)
          simp only [Act.put, List.setIfInBounds_toArray, List.set_cons_zero, List.set_cons_succ]
          refine wpAnyH_take (i := 2) (oi := { dst := some 29, op := Op.fieldAddr 58 (Operand.tmp 28) 1, type := 0, pos := "l08_fdb.go:50", after := #[{ on := 1, ground := Ground.data }], guard := none }) (v := ?_) rfl (by kernel_rfl) (by kernel_rfl) (by kernel_rfl) (fun _ _ _ h => h) (Or.inl ⟨by rfl, ?_⟩) (by assumption) ?_
          rotate_left
          · (intro wY hSw; (try dsimp only at hSw); go_simp; try with_reducible rfl)
          simp only [Act.put, List.setIfInBounds_toArray, List.set_cons_zero, List.set_cons_succ]
          refine wpAnyH_take (i := 3) (oi := { dst := some 30, op := Op.load 56 (Operand.tmp 29), type := 56, pos := "l08_fdb.go:50", after := #[{ on := 2, ground := Ground.data }], guard := none }) (v := ?_) rfl (by kernel_rfl) (by kernel_rfl) (by kernel_rfl) (fun _ _ _ h => h) (Or.inl ⟨by rfl, ?_⟩) (by assumption) ?_
          rotate_left
          · (intro wY hSw; (try dsimp only at hSw); go_simp; try with_reducible rfl)
          simp only [Act.put, List.setIfInBounds_toArray, List.set_cons_zero, List.set_cons_succ]
          refine wpAnyH_take (i := 4) (oi := { dst := some 31, op := Op.load 30 (Operand.tmp 9), type := 30, pos := "l08_fdb.go:50", after := #[], guard := none }) (v := ?_) rfl (by kernel_rfl) (by kernel_rfl) (by kernel_rfl) (fun _ _ _ h => h) (Or.inl ⟨by rfl, ?_⟩) (by assumption) ?_
          rotate_left
          · (intro wY hSw; (try dsimp only at hSw); go_simp; try with_reducible rfl)
          simp only [Act.put, List.setIfInBounds_toArray, List.set_cons_zero, List.set_cons_succ]
          refine wpAnyH_ready (rs := [5]) (by kernel_rfl) (by simp) ?_
          refine AllReadyH.cons (o := { dst := some 32, op := Op.call { callee := Callee.value (Operand.func 42), args := #[Operand.tmp 31], argTypes := #[30] }, type := 60, pos := "l08_fdb.go:50", after := #[{ on := 4, ground := Ground.data }], guard := none }) rfl (fun K hK => ?_) ?_
          · go_simp
            refine (firstKey_any (⟨t, m, p, 0, false⟩ : FE) _).mono ?_
            rintro r wz ⟨rfl, hbz⟩
            have vv := gr_trans vv hbz
            go_wp2_with fail
            refine hK.out _ _ (HSS.out _ vv) (fun hHeld => ?_)
            clear hK K
            try simp only [Act.put, List.setIfInBounds_toArray, List.set_cons_zero, List.set_cons_succ]
            refine wpAnyH_take (i := 6) (oi := { dst := some 33, op := Op.lookup 56 (Operand.tmp 30) (Operand.tmp 32) false, type := 30, pos := "l08_fdb.go:50", after := #[{ on := 3, ground := Ground.data }, { on := 5, ground := Ground.data }], guard := none }) (v := ?_) rfl (by kernel_rfl) (by kernel_rfl) (by kernel_rfl) (fun _ _ _ h => h) (Or.inl ⟨by rfl, ?_⟩) (by assumption) ?_
            rotate_left
            · (intro wY hSw; (try dsimp only at hSw); go_simp; try with_reducible rfl)
            simp only [Act.put, List.setIfInBounds_toArray, List.set_cons_zero, List.set_cons_succ]
            refine wpAnyH_take (i := 7) (oi := { dst := some 34, op := Op.field 30 (Operand.tmp 33) 4, type := 4, pos := "l08_fdb.go:50", after := #[{ on := 6, ground := Ground.data }], guard := none }) (v := ?_) rfl (by kernel_rfl) (by kernel_rfl) (by kernel_rfl) (fun _ _ _ h => h) (Or.inl ⟨by rfl, ?_⟩) (by assumption) ?_
            rotate_left
            · (intro wY hSw; (try dsimp only at hSw); go_simp; try with_reducible rfl)
            simp only [Act.put, List.setIfInBounds_toArray, List.set_cons_zero, List.set_cons_succ]
            refine wpAnyH_take (i := 8) (oi := { dst := some 35, op := Op.unOp UnOp.not 4 (Operand.tmp 34), type := 4, pos := "l08_fdb.go:50", after := #[{ on := 7, ground := Ground.data }], guard := none }) (v := ?_) rfl (by kernel_rfl) (by kernel_rfl) (by kernel_rfl) (fun _ _ _ h => h) (Or.inl ⟨by rfl, ?_⟩) (by assumption) ?_
            rotate_left
            · (intro wY hSw; (try dsimp only at hSw); go_simp; try with_reducible rfl)
            simp only [Act.put, List.setIfInBounds_toArray, List.set_cons_zero, List.set_cons_succ]
            refine wpAnyH_done (by kernel_rfl) ?_ _
            clear HSS hHeld
            have tabP := tab.below vv
            have kp := kept_block kt vv
            obtain ⟨⟨y0, y1, y2, y3, y4⟩, -⟩ := cells5 kp
            have bp := gr_trans bt vv
            have hbp := Nat.le_trans hbase vv.size
            clear vv tab kt
            go_wp2_with fail
            refine (put_any _ _ q bm l (⟨t, m, p, 0, false⟩ : FE) tabP hsl (by omega) hrng hbp).mono ?_
            rintro r wu ⟨ok, ks', g', rfl, hokv, tabL, hout, hbu⟩
            rw [HPK.out] at hokv
            subst hokv
            rw [if_pos rfl] at hout
            have BL := hide (bp.trans (hbu.mono bx.size))
            have HOUT := hide hout
            clear hout hbu tabP y0 y1 y2 y3 y4
            go_wp2_with fail
            refine (list_any _ _ q bm _ _ tabL).mono ?_
            rintro r w9 ⟨ao9, cap9, rfl, ho9, hr9, hb9⟩
            rw [HOUT.out] at *
            have HO := hide (gown_lt ho9 (base' := w.heap.size) BL.out.size)
            have HR := hide hr9
            have HB := hide (gr_trans BL.out hb9)
            clear ho9 hr9 hb9 tabL
            go_wp2
            go_ret
            exact ⟨_, _, rfl, HO.out, HR.out, HB.out⟩
          exact AllReadyH.nil
        · have hL : learnF l t m p = l := learn_static (by unfold staticF; rw [hlk]; exact hxs)
          rw [hL]
          clear h1 h2 hlk hL
          go_enter Try.func11, Try.ntmps11
          go_wp2_with fail
          refine (implFdbOk_all _ _ _ l _ (h.below q0) hn).mono ?_
          rintro r wy ⟨rfl, hby⟩
          rw [H1.out]
          obtain ⟨⟨x0, x1, x2, x3, x4⟩, -⟩ := cells5 (kept_block k0 hby)
          go_wp2_with fail
          refine (implEnt_any (⟨t, m, p, 0, false⟩ : FE) _).mono ?_
          rintro r wx ⟨rfl, hbx⟩
          rw [H2.out]
          have bx := gr_trans q0 (gr_trans hby hbx)
          have kx := kept_block k0 (gr_trans hby hbx)
          clear hby hbx x0 x1 x2 x3 x4
          go_wp2_with fail
          refine (tableOf_any _ _ _ l _ (h.below bx) hn hR).mono ?_
          rintro r wt ⟨q, bm, rfl, tab, hbt⟩
          have bt := gr_trans bx hbt
          have hbase := hbt.size
          have kt := kept_block kx hbt
          obtain ⟨aq, cq, hbox, -⟩ := tab.box
          have hmap := tab.map
          have hS : ∀ W, Below wt.heap.size wt W → (W.cell? ⟨q, 1, none⟩ = some (.map (some bm)) ∧ (W.cell? ⟨w.heap.size, 0, none⟩ = some (.int .i64 t) ∧ W.cell? ⟨w.heap.size, 1, none⟩ = some (.int .i64 m) ∧ W.cell? ⟨w.heap.size, 2, none⟩ = some (.int .i64 p) ∧ W.cell? ⟨w.heap.size, 3, none⟩ = some (.int .i64 0) ∧ W.cell? ⟨w.heap.size, 4, none⟩ = some (.bool false)) ∧ (Instr.lookup 56 (.map (some bm)) (.agg #[.int .i64 t, .int .i64 m, .int .i64 0]) false).run Try.prog W = .ok (.agg #[.int .i64 x.t, .int .i64 x.m, .int .i64 x.p, .int .i64 x.a, .bool true]) W) := by
            intro W hW
            refine ⟨(cells2 (kept_block hbox hW)).1.2, (cells5 (kept_block kt hW)).1, ?_⟩
            have := (hmap.kept hW).look false hok0
            rw [ents_look hsl] at this
            rw [HLK.out] at this
            refine this.trans ?_
            show Result.ok (feV x) _ = _
            unfold feV
            rw [hxs]
          have HSS := hide hS
          have vv : Below wt.heap.size wt wt.drew := gr_drew (Below.refl _ _)
          clear hS hbox hmap
          go_wp2_with fail
          refine wp_region_held_drew (S := (fun W => W.cell? ⟨q, 1, none⟩ = some (.map (some bm)) ∧ (W.cell? ⟨w.heap.size, 0, none⟩ = some (.int .i64 t) ∧ W.cell? ⟨w.heap.size, 1, none⟩ = some (.int .i64 m) ∧ W.cell? ⟨w.heap.size, 2, none⟩ = some (.int .i64 p) ∧ W.cell? ⟨w.heap.size, 3, none⟩ = some (.int .i64 0) ∧ W.cell? ⟨w.heap.size, 4, none⟩ = some (.bool false)) ∧ (Instr.lookup 56 (.map (some bm)) (.agg #[.int .i64 t, .int .i64 m, .int .i64 0]) false).run Try.prog W = .ok (.agg #[.int .i64 x.t, .int .i64 x.m, .int .i64 x.p, .int .i64 x.a, .bool true]) W)) (by kernel_rfl) (HSS.out _ vv) (fun hHeld => ?_)
          refine wpAnyH_take (i := 0) (oi := { dst := some 27, op := Op.move (Operand.tmp 10), type := 53, pos := "l08_fdb.go:50", after := #[], guard := none }) (v := ?_) rfl (by kernel_rfl) (by kernel_rfl) (by kernel_rfl) (fun _ _ _ h => h) (Or.inl ⟨by rfl, ?_⟩) (by assumption) ?_
          rotate_left
          · (intro wY hSw; (try dsimp only at hSw); go_simp; try with_reducible rfl)
          simp only [Act.put, List.setIfInBounds_toArray, List.set_cons_zero, List.set_cons_succ]
          refine wpAnyH_take (i := 1) (oi := { dst := some 28, op := Op.nilCheck (Operand.tmp 27), type := 0, pos := "l08_fdb.go:50", after := #[{ on := 0, ground := Ground.data }], guard := none }) (v := ?_) rfl (by kernel_rfl) (by kernel_rfl) (by kernel_rfl) (fun _ _ _ h => h) (Or.inl ⟨by rfl, ?_⟩) (by assumption) ?_
          rotate_left
          · (intro wY hSw; (try dsimp only at hSw); go_simp; try with_reducible rfl)
          simp only [Act.put, List.setIfInBounds_toArray, List.set_cons_zero, List.set_cons_succ]
          refine wpAnyH_take (i := 2) (oi := { dst := some 29, op := Op.fieldAddr 58 (Operand.tmp 28) 1, type := 0, pos := "l08_fdb.go:50", after := #[{ on := 1, ground := Ground.data }], guard := none }) (v := ?_) rfl (by kernel_rfl) (by kernel_rfl) (by kernel_rfl) (fun _ _ _ h => h) (Or.inl ⟨by rfl, ?_⟩) (by assumption) ?_
          rotate_left
          · (intro wY hSw; (try dsimp only at hSw); go_simp; try with_reducible rfl)
          simp only [Act.put, List.setIfInBounds_toArray, List.set_cons_zero, List.set_cons_succ]
          refine wpAnyH_take (i := 3) (oi := { dst := some 30, op := Op.load 56 (Operand.tmp 29), type := 56, pos := "l08_fdb.go:50", after := #[{ on := 2, ground := Ground.data }], guard := none }) (v := ?_) rfl (by kernel_rfl) (by kernel_rfl) (by kernel_rfl) (fun _ _ _ h => h) (Or.inl ⟨by rfl, ?_⟩) (by assumption) ?_
          rotate_left
          · (intro wY hSw; (try dsimp only at hSw); go_simp; try with_reducible rfl)
          simp only [Act.put, List.setIfInBounds_toArray, List.set_cons_zero, List.set_cons_succ]
          refine wpAnyH_take (i := 4) (oi := { dst := some 31, op := Op.load 30 (Operand.tmp 9), type := 30, pos := "l08_fdb.go:50", after := #[], guard := none }) (v := ?_) rfl (by kernel_rfl) (by kernel_rfl) (by kernel_rfl) (fun _ _ _ h => h) (Or.inl ⟨by rfl, ?_⟩) (by assumption) ?_
          rotate_left
          · (intro wY hSw; (try dsimp only at hSw); go_simp; try with_reducible rfl)
          simp only [Act.put, List.setIfInBounds_toArray, List.set_cons_zero, List.set_cons_succ]
          refine wpAnyH_ready (rs := [5]) (by kernel_rfl) (by simp) ?_
          refine AllReadyH.cons (o := { dst := some 32, op := Op.call { callee := Callee.value (Operand.func 42), args := #[Operand.tmp 31], argTypes := #[30] }, type := 60, pos := "l08_fdb.go:50", after := #[{ on := 4, ground := Ground.data }], guard := none }) rfl (fun K hK => ?_) ?_
          · go_simp
            refine (firstKey_any (⟨t, m, p, 0, false⟩ : FE) _).mono ?_
            rintro r wz ⟨rfl, hbz⟩
            have vv := gr_trans vv hbz
            go_wp2_with fail
            refine hK.out _ _ (HSS.out _ vv) (fun hHeld => ?_)
            clear hK K
            try simp only [Act.put, List.setIfInBounds_toArray, List.set_cons_zero, List.set_cons_succ]
            refine wpAnyH_take (i := 6) (oi := { dst := some 33, op := Op.lookup 56 (Operand.tmp 30) (Operand.tmp 32) false, type := 30, pos := "l08_fdb.go:50", after := #[{ on := 3, ground := Ground.data }, { on := 5, ground := Ground.data }], guard := none }) (v := ?_) rfl (by kernel_rfl) (by kernel_rfl) (by kernel_rfl) (fun _ _ _ h => h) (Or.inl ⟨by rfl, ?_⟩) (by assumption) ?_
            rotate_left
            · (intro wY hSw; (try dsimp only at hSw); go_simp; try with_reducible rfl)
            simp only [Act.put, List.setIfInBounds_toArray, List.set_cons_zero, List.set_cons_succ]
            refine wpAnyH_take (i := 7) (oi := { dst := some 34, op := Op.field 30 (Operand.tmp 33) 4, type := 4, pos := "l08_fdb.go:50", after := #[{ on := 6, ground := Ground.data }], guard := none }) (v := ?_) rfl (by kernel_rfl) (by kernel_rfl) (by kernel_rfl) (fun _ _ _ h => h) (Or.inl ⟨by rfl, ?_⟩) (by assumption) ?_
            rotate_left
            · (intro wY hSw; (try dsimp only at hSw); go_simp; try with_reducible rfl)
            simp only [Act.put, List.setIfInBounds_toArray, List.set_cons_zero, List.set_cons_succ]
            refine wpAnyH_take (i := 8) (oi := { dst := some 35, op := Op.unOp UnOp.not 4 (Operand.tmp 34), type := 4, pos := "l08_fdb.go:50", after := #[{ on := 7, ground := Ground.data }], guard := none }) (v := ?_) rfl (by kernel_rfl) (by kernel_rfl) (by kernel_rfl) (fun _ _ _ h => h) (Or.inl ⟨by rfl, ?_⟩) (by assumption) ?_
            rotate_left
            · (intro wY hSw; (try dsimp only at hSw); go_simp; try with_reducible rfl)
            simp only [Act.put, List.setIfInBounds_toArray, List.set_cons_zero, List.set_cons_succ]
            refine wpAnyH_done (by kernel_rfl) ?_ _
            clear HSS hHeld
            have tabL := tab.below vv
            have BL := hide (gr_trans bt vv)
            have HOUT := hide (out_all (ents_map l))
            clear vv tab
            go_wp2_with fail
            refine (list_any _ _ q bm _ _ tabL).mono ?_
            rintro r w9 ⟨ao9, cap9, rfl, ho9, hr9, hb9⟩
            rw [HOUT.out] at *
            have HO := hide (gown_lt ho9 (base' := w.heap.size) BL.out.size)
            have HR := hide hr9
            have HB := hide (gr_trans BL.out hb9)
            clear ho9 hr9 hb9 tabL
            go_wp2
            go_ret
            exact ⟨_, _, rfl, HO.out, HR.out, HB.out⟩
          exact AllReadyH.nil
      | none =>
        have HLK := hide hlk
        by_cases hf : l.length < 12
        · have hL : learnF l t m p = insF (⟨t, m, p, 0, false⟩ : FE) l := by
            unfold learnF canLearn
            rw [h1, h2, hlk]
            simp only [decide_eq_true hf, Bool.and_self, if_true]
            exact putF8_sorted hsl
          rw [hL]
          have HPK : Hid (((lookE l t m).isSome || decide (l.length < 12)) = true) := by rw [HLK.out, decide_eq_true hf]; rfl
          clear h1 h2 hlk hL
          go_enter Try.func11, Try.ntmps11
          go_wp2_with fail
          refine (implFdbOk_all _ _ _ l _ (h.below q0) hn).mono ?_
          rintro r wy ⟨rfl, hby⟩
          rw [H1.out]
          obtain ⟨⟨x0, x1, x2, x3, x4⟩, -⟩ := cells5 (kept_block k0 hby)
          go_wp2_with fail
          refine (implEnt_any (⟨t, m, p, 0, false⟩ : FE) _).mono ?_
          rintro r wx ⟨rfl, hbx⟩
          rw [H2.out]
          have bx := gr_trans q0 (gr_trans hby hbx)
          have kx := kept_block k0 (gr_trans hby hbx)
          clear hby hbx x0 x1 x2 x3 x4
          go_wp2_with fail
          refine (tableOf_any _ _ _ l _ (h.below bx) hn hR).mono ?_
          rintro r wt ⟨q, bm, rfl, tab, hbt⟩
          have bt := gr_trans bx hbt
          have hbase := hbt.size
          have kt := kept_block kx hbt
          obtain ⟨aq, cq, hbox, -⟩ := tab.box
          have hmap := tab.map
          have hS : ∀ W, Below wt.heap.size wt W → (W.cell? ⟨q, 1, none⟩ = some (.map (some bm)) ∧ (W.cell? ⟨w.heap.size, 0, none⟩ = some (.int .i64 t) ∧ W.cell? ⟨w.heap.size, 1, none⟩ = some (.int .i64 m) ∧ W.cell? ⟨w.heap.size, 2, none⟩ = some (.int .i64 p) ∧ W.cell? ⟨w.heap.size, 3, none⟩ = some (.int .i64 0) ∧ W.cell? ⟨w.heap.size, 4, none⟩ = some (.bool false)) ∧ (Instr.lookup 56 (.map (some bm)) (.agg #[.int .i64 t, .int .i64 m, .int .i64 0]) false).run Try.prog W = .ok (.agg #[.int .i64 0, .int .i64 0, .int .i64 0, .int .i64 0, .bool false]) W) := by
            intro W hW
            refine ⟨(cells2 (kept_block hbox hW)).1.2, (cells5 (kept_block kt hW)).1, ?_⟩
            have := (hmap.kept hW).look false hok0
            rw [ents_look hsl] at this
            rw [HLK.out] at this
            exact this
          have HSS := hide hS
          have vv : Below wt.heap.size wt wt.drew := gr_drew (Below.refl _ _)
          clear hS hbox hmap
          go_wp2_with fail
          refine wp_region_held_drew (S := (fun W => W.cell? ⟨q, 1, none⟩ = some (.map (some bm)) ∧ (W.cell? ⟨w.heap.size, 0, none⟩ = some (.int .i64 t) ∧ W.cell? ⟨w.heap.size, 1, none⟩ = some (.int .i64 m) ∧ W.cell? ⟨w.heap.size, 2, none⟩ = some (.int .i64 p) ∧ W.cell? ⟨w.heap.size, 3, none⟩ = some (.int .i64 0) ∧ W.cell? ⟨w.heap.size, 4, none⟩ = some (.bool false)) ∧ (Instr.lookup 56 (.map (some bm)) (.agg #[.int .i64 t, .int .i64 m, .int .i64 0]) false).run Try.prog W = .ok (.agg #[.int .i64 0, .int .i64 0, .int .i64 0, .int .i64 0, .bool false]) W)) (by kernel_rfl) (HSS.out _ vv) (fun hHeld => ?_)
          refine wpAnyH_take (i := 0) (oi := { dst := some 27, op := Op.move (Operand.tmp 10), type := 53, pos := "l08_fdb.go:50", after := #[], guard := none }) (v := ?_) rfl (by kernel_rfl) (by kernel_rfl) (by kernel_rfl) (fun _ _ _ h => h) (Or.inl ⟨by rfl, ?_⟩) (by assumption) ?_
          rotate_left
          · (intro wY hSw; (try dsimp only at hSw); go_simp; try with_reducible rfl)
          simp only [Act.put, List.setIfInBounds_toArray, List.set_cons_zero, List.set_cons_succ]
          refine wpAnyH_take (i := 1) (oi := { dst := some 28, op := Op.nilCheck (Operand.tmp 27), type := 0, pos := "l08_fdb.go:50", after := #[{ on := 0, ground := Ground.data }], guard := none }) (v := ?_) rfl (by kernel_rfl) (by kernel_rfl) (by kernel_rfl) (fun _ _ _ h => h) (Or.inl ⟨by rfl, ?_⟩) (by assumption) ?_
          rotate_left
          · (intro wY hSw; (try dsimp only at hSw); go_simp; try with_reducible rfl)
          simp only [Act.put, List.setIfInBounds_toArray, List.set_cons_zero, List.set_cons_succ]
          refine wpAnyH_take (i := 2) (oi := { dst := some 29, op := Op.fieldAddr 58 (Operand.tmp 28) 1, type := 0, pos := "l08_fdb.go:50", after := #[{ on := 1, ground := Ground.data }], guard := none }) (v := ?_) rfl (by kernel_rfl) (by kernel_rfl) (by kernel_rfl) (fun _ _ _ h => h) (Or.inl ⟨by rfl, ?_⟩) (by assumption) ?_
          rotate_left
          · (intro wY hSw; (try dsimp only at hSw); go_simp; try with_reducible rfl)
          simp only [Act.put, List.setIfInBounds_toArray, List.set_cons_zero, List.set_cons_succ]
          refine wpAnyH_take (i := 3) (oi := { dst := some 30, op := Op.load 56 (Operand.tmp 29), type := 56, pos := "l08_fdb.go:50", after := #[{ on := 2, ground := Ground.data }], guard := none }) (v := ?_) rfl (by kernel_rfl) (by kernel_rfl) (by kernel_rfl) (fun _ _ _ h => h) (Or.inl ⟨by rfl, ?_⟩) (by assumption) ?_
          rotate_left
          · (intro wY hSw; (try dsimp only at hSw); go_simp; try with_reducible rfl)
          simp only [Act.put, List.setIfInBounds_toArray, List.set_cons_zero, List.set_cons_succ]
          refine wpAnyH_take (i := 4) (oi := { dst := some 31, op := Op.load 30 (Operand.tmp 9), type := 30, pos := "l08_fdb.go:50", after := #[], guard := none }) (v := ?_) rfl (by kernel_rfl) (by kernel_rfl) (by kernel_rfl) (fun _ _ _ h => h) (Or.inl ⟨by rfl, ?_⟩) (by assumption) ?_
          rotate_left
          · (intro wY hSw; (try dsimp only at hSw); go_simp; try with_reducible rfl)
          simp only [Act.put, List.setIfInBounds_toArray, List.set_cons_zero, List.set_cons_succ]
          refine wpAnyH_ready (rs := [5]) (by kernel_rfl) (by simp) ?_
          refine AllReadyH.cons (o := { dst := some 32, op := Op.call { callee := Callee.value (Operand.func 42), args := #[Operand.tmp 31], argTypes := #[30] }, type := 60, pos := "l08_fdb.go:50", after := #[{ on := 4, ground := Ground.data }], guard := none }) rfl (fun K hK => ?_) ?_
          · go_simp
            refine (firstKey_any (⟨t, m, p, 0, false⟩ : FE) _).mono ?_
            rintro r wz ⟨rfl, hbz⟩
            have vv := gr_trans vv hbz
            go_wp2_with fail
            refine hK.out _ _ (HSS.out _ vv) (fun hHeld => ?_)
            clear hK K
            try simp only [Act.put, List.setIfInBounds_toArray, List.set_cons_zero, List.set_cons_succ]
            refine wpAnyH_take (i := 6) (oi := { dst := some 33, op := Op.lookup 56 (Operand.tmp 30) (Operand.tmp 32) false, type := 30, pos := "l08_fdb.go:50", after := #[{ on := 3, ground := Ground.data }, { on := 5, ground := Ground.data }], guard := none }) (v := ?_) rfl (by kernel_rfl) (by kernel_rfl) (by kernel_rfl) (fun _ _ _ h => h) (Or.inl ⟨by rfl, ?_⟩) (by assumption) ?_
            rotate_left
            · (intro wY hSw; (try dsimp only at hSw); go_simp; try with_reducible rfl)
            simp only [Act.put, List.setIfInBounds_toArray, List.set_cons_zero, List.set_cons_succ]
            refine wpAnyH_take (i := 7) (oi := { dst := some 34, op := Op.field 30 (Operand.tmp 33) 4, type := 4, pos := "l08_fdb.go:50", after := #[{ on := 6, ground := Ground.data }], guard := none }) (v := ?_) rfl (by kernel_rfl) (by kernel_rfl) (by kernel_rfl) (fun _ _ _ h => h) (Or.inl ⟨by rfl, ?_⟩) (by assumption) ?_
            rotate_left
            · (intro wY hSw; (try dsimp only at hSw); go_simp; try with_reducible rfl)
            simp only [Act.put, List.setIfInBounds_toArray, List.set_cons_zero, List.set_cons_succ]
            refine wpAnyH_take (i := 8) (oi := { dst := some 35, op := Op.unOp UnOp.not 4 (Operand.tmp 34), type := 4, pos := "l08_fdb.go:50", after := #[{ on := 7, ground := Ground.data }], guard := none }) (v := ?_) rfl (by kernel_rfl) (by kernel_rfl) (by kernel_rfl) (fun _ _ _ h => h) (Or.inl ⟨by rfl, ?_⟩) (by assumption) ?_
            rotate_left
            · (intro wY hSw; (try dsimp only at hSw); go_simp; try with_reducible rfl)
            simp only [Act.put, List.setIfInBounds_toArray, List.set_cons_zero, List.set_cons_succ]
            refine wpAnyH_done (by kernel_rfl) ?_ _
            clear HSS hHeld
            have tabP := tab.below vv
            have kp := kept_block kt vv
            obtain ⟨⟨y0, y1, y2, y3, y4⟩, -⟩ := cells5 kp
            have bp := gr_trans bt vv
            have hbp := Nat.le_trans hbase vv.size
            clear vv tab kt
            go_wp2_with fail
            refine (put_any _ _ q bm l (⟨t, m, p, 0, false⟩ : FE) tabP hsl (by omega) hrng hbp).mono ?_
            rintro r wu ⟨ok, ks', g', rfl, hokv, tabL, hout, hbu⟩
            rw [HPK.out] at hokv
            subst hokv
            rw [if_pos rfl] at hout
            have BL := hide (bp.trans (hbu.mono bx.size))
            have HOUT := hide hout
            clear hout hbu tabP y0 y1 y2 y3 y4
            go_wp2_with fail
            refine (list_any _ _ q bm _ _ tabL).mono ?_
            rintro r w9 ⟨ao9, cap9, rfl, ho9, hr9, hb9⟩
            rw [HOUT.out] at *
            have HO := hide (gown_lt ho9 (base' := w.heap.size) BL.out.size)
            have HR := hide hr9
            have HB := hide (gr_trans BL.out hb9)
            clear ho9 hr9 hb9 tabL
            go_wp2
            go_ret
            exact ⟨_, _, rfl, HO.out, HR.out, HB.out⟩
          exact AllReadyH.nil
        · have hL : learnF l t m p = l := by
            unfold learnF canLearn
            rw [h1, h2, hlk, decide_eq_false hf]
            rfl
          rw [hL]
          have HPK : Hid (((lookE l t m).isSome || decide (l.length < 12)) = false) := by rw [HLK.out, decide_eq_false hf]; rfl
          clear h1 h2 hlk hL
          go_enter Try.func11, Try.ntmps11
          go_wp2_with fail
          refine (implFdbOk_all _ _ _ l _ (h.below q0) hn).mono ?_
          rintro r wy ⟨rfl, hby⟩
          rw [H1.out]
          obtain ⟨⟨x0, x1, x2, x3, x4⟩, -⟩ := cells5 (kept_block k0 hby)
          go_wp2_with fail
          refine (implEnt_any (⟨t, m, p, 0, false⟩ : FE) _).mono ?_
          rintro r wx ⟨rfl, hbx⟩
          rw [H2.out]
          have bx := gr_trans q0 (gr_trans hby hbx)
          have kx := kept_block k0 (gr_trans hby hbx)
          clear hby hbx x0 x1 x2 x3 x4
          go_wp2_with fail
          refine (tableOf_any _ _ _ l _ (h.below bx) hn hR).mono ?_
          rintro r wt ⟨q, bm, rfl, tab, hbt⟩
          have bt := gr_trans bx hbt
          have hbase := hbt.size
          have kt := kept_block kx hbt
          obtain ⟨aq, cq, hbox, -⟩ := tab.box
          have hmap := tab.map
          have hS : ∀ W, Below wt.heap.size wt W → (W.cell? ⟨q, 1, none⟩ = some (.map (some bm)) ∧ (W.cell? ⟨w.heap.size, 0, none⟩ = some (.int .i64 t) ∧ W.cell? ⟨w.heap.size, 1, none⟩ = some (.int .i64 m) ∧ W.cell? ⟨w.heap.size, 2, none⟩ = some (.int .i64 p) ∧ W.cell? ⟨w.heap.size, 3, none⟩ = some (.int .i64 0) ∧ W.cell? ⟨w.heap.size, 4, none⟩ = some (.bool false)) ∧ (Instr.lookup 56 (.map (some bm)) (.agg #[.int .i64 t, .int .i64 m, .int .i64 0]) false).run Try.prog W = .ok (.agg #[.int .i64 0, .int .i64 0, .int .i64 0, .int .i64 0, .bool false]) W) := by
            intro W hW
            refine ⟨(cells2 (kept_block hbox hW)).1.2, (cells5 (kept_block kt hW)).1, ?_⟩
            have := (hmap.kept hW).look false hok0
            rw [ents_look hsl] at this
            rw [HLK.out] at this
            exact this
          have HSS := hide hS
          have vv : Below wt.heap.size wt wt.drew := gr_drew (Below.refl _ _)
          clear hS hbox hmap
          go_wp2_with fail
          refine wp_region_held_drew (S := (fun W => W.cell? ⟨q, 1, none⟩ = some (.map (some bm)) ∧ (W.cell? ⟨w.heap.size, 0, none⟩ = some (.int .i64 t) ∧ W.cell? ⟨w.heap.size, 1, none⟩ = some (.int .i64 m) ∧ W.cell? ⟨w.heap.size, 2, none⟩ = some (.int .i64 p) ∧ W.cell? ⟨w.heap.size, 3, none⟩ = some (.int .i64 0) ∧ W.cell? ⟨w.heap.size, 4, none⟩ = some (.bool false)) ∧ (Instr.lookup 56 (.map (some bm)) (.agg #[.int .i64 t, .int .i64 m, .int .i64 0]) false).run Try.prog W = .ok (.agg #[.int .i64 0, .int .i64 0, .int .i64 0, .int .i64 0, .bool false]) W)) (by kernel_rfl) (HSS.out _ vv) (fun hHeld => ?_)
          refine wpAnyH_take (i := 0) (oi := { dst := some 27, op := Op.move (Operand.tmp 10), type := 53, pos := "l08_fdb.go:50", after := #[], guard := none }) (v := ?_) rfl (by kernel_rfl) (by kernel_rfl) (by kernel_rfl) (fun _ _ _ h => h) (Or.inl ⟨by rfl, ?_⟩) (by assumption) ?_
          rotate_left
          · (intro wY hSw; (try dsimp only at hSw); go_simp; try with_reducible rfl)
          simp only [Act.put, List.setIfInBounds_toArray, List.set_cons_zero, List.set_cons_succ]
          refine wpAnyH_take (i := 1) (oi := { dst := some 28, op := Op.nilCheck (Operand.tmp 27), type := 0, pos := "l08_fdb.go:50", after := #[{ on := 0, ground := Ground.data }], guard := none }) (v := ?_) rfl (by kernel_rfl) (by kernel_rfl) (by kernel_rfl) (fun _ _ _ h => h) (Or.inl ⟨by rfl, ?_⟩) (by assumption) ?_
          rotate_left
          · (intro wY hSw; (try dsimp only at hSw); go_simp; try with_reducible rfl)
          simp only [Act.put, List.setIfInBounds_toArray, List.set_cons_zero, List.set_cons_succ]
          refine wpAnyH_take (i := 2) (oi := { dst := some 29, op := Op.fieldAddr 58 (Operand.tmp 28) 1, type := 0, pos := "l08_fdb.go:50", after := #[{ on := 1, ground := Ground.data }], guard := none }) (v := ?_) rfl (by kernel_rfl) (by kernel_rfl) (by kernel_rfl) (fun _ _ _ h => h) (Or.inl ⟨by rfl, ?_⟩) (by assumption) ?_
          rotate_left
          · (intro wY hSw; (try dsimp only at hSw); go_simp; try with_reducible rfl)
          simp only [Act.put, List.setIfInBounds_toArray, List.set_cons_zero, List.set_cons_succ]
          refine wpAnyH_take (i := 3) (oi := { dst := some 30, op := Op.load 56 (Operand.tmp 29), type := 56, pos := "l08_fdb.go:50", after := #[{ on := 2, ground := Ground.data }], guard := none }) (v := ?_) rfl (by kernel_rfl) (by kernel_rfl) (by kernel_rfl) (fun _ _ _ h => h) (Or.inl ⟨by rfl, ?_⟩) (by assumption) ?_
          rotate_left
          · (intro wY hSw; (try dsimp only at hSw); go_simp; try with_reducible rfl)
          simp only [Act.put, List.setIfInBounds_toArray, List.set_cons_zero, List.set_cons_succ]
          refine wpAnyH_take (i := 4) (oi := { dst := some 31, op := Op.load 30 (Operand.tmp 9), type := 30, pos := "l08_fdb.go:50", after := #[], guard := none }) (v := ?_) rfl (by kernel_rfl) (by kernel_rfl) (by kernel_rfl) (fun _ _ _ h => h) (Or.inl ⟨by rfl, ?_⟩) (by assumption) ?_
          rotate_left
          · (intro wY hSw; (try dsimp only at hSw); go_simp; try with_reducible rfl)
          simp only [Act.put, List.setIfInBounds_toArray, List.set_cons_zero, List.set_cons_succ]
          refine wpAnyH_ready (rs := [5]) (by kernel_rfl) (by simp) ?_
          refine AllReadyH.cons (o := { dst := some 32, op := Op.call { callee := Callee.value (Operand.func 42), args := #[Operand.tmp 31], argTypes := #[30] }, type := 60, pos := "l08_fdb.go:50", after := #[{ on := 4, ground := Ground.data }], guard := none }) rfl (fun K hK => ?_) ?_
          · go_simp
            refine (firstKey_any (⟨t, m, p, 0, false⟩ : FE) _).mono ?_
            rintro r wz ⟨rfl, hbz⟩
            have vv := gr_trans vv hbz
            go_wp2_with fail
            refine hK.out _ _ (HSS.out _ vv) (fun hHeld => ?_)
            clear hK K
            try simp only [Act.put, List.setIfInBounds_toArray, List.set_cons_zero, List.set_cons_succ]
            refine wpAnyH_take (i := 6) (oi := { dst := some 33, op := Op.lookup 56 (Operand.tmp 30) (Operand.tmp 32) false, type := 30, pos := "l08_fdb.go:50", after := #[{ on := 3, ground := Ground.data }, { on := 5, ground := Ground.data }], guard := none }) (v := ?_) rfl (by kernel_rfl) (by kernel_rfl) (by kernel_rfl) (fun _ _ _ h => h) (Or.inl ⟨by rfl, ?_⟩) (by assumption) ?_
            rotate_left
            · (intro wY hSw; (try dsimp only at hSw); go_simp; try with_reducible rfl)
            simp only [Act.put, List.setIfInBounds_toArray, List.set_cons_zero, List.set_cons_succ]
            refine wpAnyH_take (i := 7) (oi := { dst := some 34, op := Op.field 30 (Operand.tmp 33) 4, type := 4, pos := "l08_fdb.go:50", after := #[{ on := 6, ground := Ground.data }], guard := none }) (v := ?_) rfl (by kernel_rfl) (by kernel_rfl) (by kernel_rfl) (fun _ _ _ h => h) (Or.inl ⟨by rfl, ?_⟩) (by assumption) ?_
            rotate_left
            · (intro wY hSw; (try dsimp only at hSw); go_simp; try with_reducible rfl)
            simp only [Act.put, List.setIfInBounds_toArray, List.set_cons_zero, List.set_cons_succ]
            refine wpAnyH_take (i := 8) (oi := { dst := some 35, op := Op.unOp UnOp.not 4 (Operand.tmp 34), type := 4, pos := "l08_fdb.go:50", after := #[{ on := 7, ground := Ground.data }], guard := none }) (v := ?_) rfl (by kernel_rfl) (by kernel_rfl) (by kernel_rfl) (fun _ _ _ h => h) (Or.inl ⟨by rfl, ?_⟩) (by assumption) ?_
            rotate_left
            · (intro wY hSw; (try dsimp only at hSw); go_simp; try with_reducible rfl)
            simp only [Act.put, List.setIfInBounds_toArray, List.set_cons_zero, List.set_cons_succ]
            refine wpAnyH_done (by kernel_rfl) ?_ _
            clear HSS hHeld
            have tabP := tab.below vv
            have kp := kept_block kt vv
            obtain ⟨⟨y0, y1, y2, y3, y4⟩, -⟩ := cells5 kp
            have bp := gr_trans bt vv
            have hbp := Nat.le_trans hbase vv.size
            clear vv tab kt
            go_wp2_with fail
            refine (put_any _ _ q bm l (⟨t, m, p, 0, false⟩ : FE) tabP hsl (by omega) hrng hbp).mono ?_
            rintro r wu ⟨ok, ks', g', rfl, hokv, tabL, hout, hbu⟩
            rw [HPK.out] at hokv
            subst hokv
            rw [if_neg Bool.false_ne_true] at hout
            have BL := hide (bp.trans (hbu.mono bx.size))
            have HOUT := hide hout
            clear hout hbu tabP y0 y1 y2 y3 y4
            go_wp2_with fail
            refine (list_any _ _ q bm _ _ tabL).mono ?_
            rintro r w9 ⟨ao9, cap9, rfl, ho9, hr9, hb9⟩
            rw [HOUT.out] at *
            have HO := hide (gown_lt ho9 (base' := w.heap.size) BL.out.size)
            have HR := hide hr9
            have HB := hide (gr_trans BL.out hb9)
            clear ho9 hr9 hb9 tabL
            go_wp2
            go_ret
            exact ⟨_, _, rfl, HO.out, HR.out, HB.out⟩
          exact AllReadyH.nil

set_option maxRecDepth 100000 in
set_option maxHeartbeats 16000000 in
theorem implSet_made (ao : Option Addr) (n cap : Nat) (l : List FE) (t m p : Int) (w : World) (h : GRow fentF w ao n cap l) (hn : n ≤ 16777216) (hR : ∀ x ∈ l, x.Rng) :
    Calls Try.prog 19 #[.slice ao n cap, .int .i64 t, .int .i64 m, .int .i64 p] w fun r w' => ∃ ao' cap', r = .returned (.tuple #[.slice ao' (setF l t m p).length cap', .bool (canSet l t m p)]) ∧ w'.ownsRow w.heap.size 30 5 (.slice ao' (setF l t m p).length cap') (setF l t m p).length (fentF.all (setF l t m p)) ∧ GRow fentF w' ao' (setF l t m p).length cap' (setF l t m p) ∧ Below w.heap.size w w' := by
  have q0 := below_one w (.cells #[.int .i64 t, .int .i64 m, .int .i64 p, .int .i64 0, .bool true] 30)
  have k0 := block_last w (.cells #[.int .i64 t, .int .i64 m, .int .i64 p, .int .i64 0, .bool true] 30)
  obtain rfl := h.size
  cases h1 : fdbOk l
  · have hC : canSet l t m p = false := by unfold canSet; rw [h1]; rfl
    rw [show setF l t m p = l by unfold setF; rw [hC]; rfl, hC]
    have H1 := hide h1
    clear h1 hC
    go_enter Try.func19, Try.ntmps19
    go_wp2_with fail
    refine (implFdbOk_all _ _ _ l _ (h.below q0) hn).mono ?_
    rintro r wy ⟨rfl, hby⟩
    rw [H1.out]
    have bx := gr_trans q0 hby
    clear hby
    go_wp2_with fail
    refine (clone_any _ _ _ l _ (h.below bx) hn).mono ?_
    rintro r w9 ⟨ao9, cap9, rfl, ho9, hr9, hb9⟩
    have HO := hide (gown_lt ho9 (base' := w.heap.size) bx.size)
    have HR := hide hr9
    have HB := hide (gr_trans bx hb9)
    clear ho9 hr9 hb9 bx
    go_wp2
    exact bodyPost_ret (v := .tuple #[.slice ao9 l.length cap9, .bool false]) (by simp [results, Try.results19, go_sem, *]) rfl ⟨_, _, rfl, HO.out, HR.out, HB.out⟩
  · cases h2 : entOk (⟨t, m, p, 0, true⟩ : FE)
    · have hC : canSet l t m p = false := by unfold canSet; rw [h1, h2]; rfl
      rw [show setF l t m p = l by unfold setF; rw [hC]; rfl, hC]
      have H1 := hide h1
      have H2 := hide h2
      clear h1 h2 hC
      go_enter Try.func19, Try.ntmps19
      go_wp2_with fail
      refine (implFdbOk_all _ _ _ l _ (h.below q0) hn).mono ?_
      rintro r wy ⟨rfl, hby⟩
      rw [H1.out]
      obtain ⟨⟨x0, x1, x2, x3, x4⟩, -⟩ := cells5 (kept_block k0 hby)
      go_wp2_with fail
      refine (implEnt_any (⟨t, m, p, 0, true⟩ : FE) _).mono ?_
      rintro r wx ⟨rfl, hbx⟩
      rw [H2.out]
      have bx := gr_trans q0 (gr_trans hby hbx)
      have kx := kept_block k0 (gr_trans hby hbx)
      clear hby hbx x0 x1 x2 x3 x4
      go_wp2_with fail
      refine (clone_any _ _ _ l _ (h.below bx) hn).mono ?_
      rintro r w9 ⟨ao9, cap9, rfl, ho9, hr9, hb9⟩
      have HO := hide (gown_lt ho9 (base' := w.heap.size) bx.size)
      have HR := hide hr9
      have HB := hide (gr_trans bx hb9)
      clear ho9 hr9 hb9 bx
      go_wp2
      exact bodyPost_ret (v := .tuple #[.slice ao9 l.length cap9, .bool false]) (by simp [results, Try.results19, go_sem, *]) rfl ⟨_, _, rfl, HO.out, HR.out, HB.out⟩
    · obtain ⟨hsl, h12⟩ := (fdbOk_iff l).1 h1
      have hrng := ent_rng h2
      have H1 := hide h1
      have H2 := hide h2
      cases hC : canSet l t m p
      · rw [show setF l t m p = l by unfold setF; rw [hC]; rfl]
        have HPK : Hid (((lookE l t m).isSome || decide (l.length < 12)) = false) := by unfold canSet at hC; rw [h1, h2, Bool.true_and, Bool.true_and] at hC; exact hC
        clear h1 h2 hC
        go_enter Try.func19, Try.ntmps19
        go_wp2_with fail
        refine (implFdbOk_all _ _ _ l _ (h.below q0) hn).mono ?_
        rintro r wy ⟨rfl, hby⟩
        rw [H1.out]
        obtain ⟨⟨x0, x1, x2, x3, x4⟩, -⟩ := cells5 (kept_block k0 hby)
        go_wp2_with fail
        refine (implEnt_any (⟨t, m, p, 0, true⟩ : FE) _).mono ?_
        rintro r wx ⟨rfl, hbx⟩
        rw [H2.out]
        have bx := gr_trans q0 (gr_trans hby hbx)
        have kx := kept_block k0 (gr_trans hby hbx)
        clear hby hbx x0 x1 x2 x3 x4
        go_wp2_with fail
        refine (tableOf_any _ _ _ l _ (h.below bx) hn hR).mono ?_
        rintro r wt ⟨q, bm, rfl, tab, hbt⟩
        have bt := gr_trans bx hbt
        have hbase := hbt.size
        have kt := kept_block kx hbt
        obtain ⟨⟨y0, y1, y2, y3, y4⟩, -⟩ := cells5 kt
        go_wp2_with fail
        refine (put_any _ _ q bm l (⟨t, m, p, 0, true⟩ : FE) tab hsl (by omega) hrng hbase).mono ?_
        rintro r wu ⟨ok, ks', g', rfl, hokv, tabL, hout, hbu⟩
        rw [HPK.out] at hokv
        subst hokv
        rw [if_neg Bool.false_ne_true] at hout
        have BL := hide (bt.trans (hbu.mono bx.size))
        have HOUT := hide hout
        clear hout hbu tab y0 y1 y2 y3 y4 kt kx
        go_wp2_with fail
        refine (list_any _ _ q bm _ _ tabL).mono ?_
        rintro r w9 ⟨ao9, cap9, rfl, ho9, hr9, hb9⟩
        rw [HOUT.out] at *
        have HO := hide (gown_lt ho9 (base' := w.heap.size) BL.out.size)
        have HR := hide hr9
        have HB := hide (gr_trans BL.out hb9)
        clear ho9 hr9 hb9 tabL
        go_wp2
        exact bodyPost_ret (v := .tuple #[.slice ao9 (l).length cap9, .bool false]) (by simp [results, Try.results19, go_sem, *]) rfl ⟨_, _, rfl, HO.out, HR.out, HB.out⟩
      · have hL : setF l t m p = insF (⟨t, m, p, 0, true⟩ : FE) l := by
          unfold setF
          rw [hC, if_pos rfl]
          exact putF8_sorted hsl
        rw [hL]
        have HPK : Hid (((lookE l t m).isSome || decide (l.length < 12)) = true) := by unfold canSet at hC; rw [h1, h2, Bool.true_and, Bool.true_and] at hC; exact hC
        clear h1 h2 hC hL
        go_enter Try.func19, Try.ntmps19
        go_wp2_with fail
        refine (implFdbOk_all _ _ _ l _ (h.below q0) hn).mono ?_
        rintro r wy ⟨rfl, hby⟩
        rw [H1.out]
        obtain ⟨⟨x0, x1, x2, x3, x4⟩, -⟩ := cells5 (kept_block k0 hby)
        go_wp2_with fail
        refine (implEnt_any (⟨t, m, p, 0, true⟩ : FE) _).mono ?_
        rintro r wx ⟨rfl, hbx⟩
        rw [H2.out]
        have bx := gr_trans q0 (gr_trans hby hbx)
        have kx := kept_block k0 (gr_trans hby hbx)
        clear hby hbx x0 x1 x2 x3 x4
        go_wp2_with fail
        refine (tableOf_any _ _ _ l _ (h.below bx) hn hR).mono ?_
        rintro r wt ⟨q, bm, rfl, tab, hbt⟩
        have bt := gr_trans bx hbt
        have hbase := hbt.size
        have kt := kept_block kx hbt
        obtain ⟨⟨y0, y1, y2, y3, y4⟩, -⟩ := cells5 kt
        go_wp2_with fail
        refine (put_any _ _ q bm l (⟨t, m, p, 0, true⟩ : FE) tab hsl (by omega) hrng hbase).mono ?_
        rintro r wu ⟨ok, ks', g', rfl, hokv, tabL, hout, hbu⟩
        rw [HPK.out] at hokv
        subst hokv
        rw [if_pos rfl] at hout
        have BL := hide (bt.trans (hbu.mono bx.size))
        have HOUT := hide hout
        clear hout hbu tab y0 y1 y2 y3 y4 kt kx
        go_wp2_with fail
        refine (list_any _ _ q bm _ _ tabL).mono ?_
        rintro r w9 ⟨ao9, cap9, rfl, ho9, hr9, hb9⟩
        rw [HOUT.out] at *
        have HO := hide (gown_lt ho9 (base' := w.heap.size) BL.out.size)
        have HR := hide hr9
        have HB := hide (gr_trans BL.out hb9)
        clear ho9 hr9 hb9 tabL
        go_wp2
        exact bodyPost_ret (v := .tuple #[.slice ao9 (insF (⟨t, m, p, 0, true⟩ : FE) l).length cap9, .bool true]) (by simp [results, Try.results19, go_sem, *]) rfl ⟨_, _, rfl, HO.out, HR.out, HB.out⟩

end Go.Proofs.Ytmcikcpkggonfaa
