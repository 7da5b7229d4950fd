/-
  Who is learned, who is set: the program's own.
-/
import Derived.Test.YtddalpglihhipaaGreatPXKW
import Derived.Test.YtddalpglihhipaaGreatPXK01
import Derived.Test.YtddalpglihhipaaGreatPXK08
import Derived.Test.YtddalpglihhipaaGreatPXK12
import Derived.Test.YtddalpglihhipaaGreatPXK27
namespace Go.Proofs.YtddalpglihhipaaGreat
open Go.RowKit

abbrev q298 : Oper := ⟨some 27, .move (.tmp 10), 142, "l08_fdb.go:50", #[], none⟩
abbrev q299 : Oper := ⟨some 28, .nilCheck (.tmp 27), 0, "l08_fdb.go:50", #[⟨0, .data⟩], none⟩
abbrev q300 : Oper := ⟨some 29, .fieldAddr 147 (.tmp 28) 1, 0, "l08_fdb.go:50", #[⟨1, .data⟩], none⟩
abbrev q301 : Oper := ⟨some 30, .load 145 (.tmp 29), 145, "l08_fdb.go:50", #[⟨2, .data⟩], none⟩
abbrev q302 : Oper := ⟨some 31, .load 97 (.tmp 9), 97, "l08_fdb.go:50", #[], none⟩
abbrev q303 : Oper := ⟨some 32, .call ⟨.value (.func 111), #[.tmp 31], #[97]⟩, 149, "l08_fdb.go:50", #[⟨4, .data⟩], none⟩
abbrev q304 : Oper := ⟨some 33, .lookup 145 (.tmp 30) (.tmp 32) false, 97, "l08_fdb.go:50", #[⟨3, .data⟩, ⟨5, .data⟩], none⟩
abbrev q305 : Oper := ⟨some 34, .field 97 (.tmp 33) 4, 4, "l08_fdb.go:50", #[⟨6, .data⟩], none⟩
abbrev q306 : Oper := ⟨some 35, .unOp .not 4 (.tmp 34), 4, "l08_fdb.go:50", #[⟨7, .data⟩], none⟩

theorem ents_look {l : List FE} (h : Sorted l) (t m : Int) : entsOf l (t, m, 0) = lookE l t m := by
 cases hk : lookE l t m with
 | none =>
  refine ents_none l (fun hm => ?_)
  rw [keys_rise h] at hm
  obtain ⟨x, hx, hxe⟩ := List.mem_map.1 hm
  unfold key0 at hxe
  simp at hxe
  exact look_none.1 hk x hx hxe
 | some x =>
  obtain ⟨hx, rfl, rfl⟩ := look_some hk
  obtain ⟨i, hi⟩ := List.getElem?_of_mem hx
  have hki : (keysOf l)[i]? = some (key0 x) := by rw [keys_rise h, List.getElem?_map, hi]; rfl
  obtain ⟨e, he, hge⟩ := keys_at hki
  rw [hi] at he
  cases he
  exact hge

set_option maxRecDepth 100000 in
set_option maxHeartbeats 16000000 in
theorem implLearn_made (ao : Option Addr) (n cap : Nat) (l : List FE) (t m p : Int) (w : World) (h : GRow fentF w ao n cap l) (hn : n ≤ 16777216) (hR : ∀ x ∈ l, x.Rng) :
  Calls Tryz.prog 45 #[.slice ao n cap, .int .i64 t, .int .i64 m, .int .i64 p] w fun r w' => ∃ ao' cap', r = .returned (.slice ao' (learnF l t m p).length cap') ∧ w'.ownsRow w.heap.size 97 5 (.slice ao' (learnF l t m p).length cap') (learnF l t m p).length (fentF.all (learnF l t m p)) ∧ GRow fentF w' ao' (learnF l t m p).length cap' (learnF l t m p) ∧ Below w.heap.size w w' := by
 have q0 := below_one w (.cells #[.int .i64 t, .int .i64 m, .int .i64 p, .int .i64 0, .bool false] 97)
 have k0 := block_last w (.cells #[.int .i64 t, .int .i64 m, .int .i64 p, .int .i64 0, .bool false] 97)
 obtain rfl := h.size
 cases h1 : fdbOk l
 ·rw [show learnF l t m p = l by unfold learnF canLearn; rw [h1]; rfl]
  have H1 := hide h1
  clear h1
  go_enter Tryz.func45, Tryz.ntmps45
  go_wp2_with fail
  refine (implFdbOk_all _ _ _ l _ (h.below q0) hn).mono ?_
  rintro r wy ⟨rfl, hby⟩
  rw [H1.out]
  have bx := gr_trans q0 hby
  clear hby
  go_wp2_with fail
  refine (clone_any _ _ _ l _ (h.below bx) hn).mono ?_
  rintro r w9 ⟨ao9, cap9, rfl, ho9, hr9, hb9⟩
  have HO := hide (gown_lt ho9 (base' := w.heap.size) bx.size)
  have HR := hide hr9
  have HB := hide (gr_trans bx hb9)
  clear ho9 hr9 hb9 bx
  go_wp2
  go_ret
  exact ⟨_, _, rfl, HO.out, HR.out, HB.out⟩
 ·cases h2 : entOk (⟨t, m, p, 0, false⟩ : FE)
  ·rw [show learnF l t m p = l by unfold learnF canLearn; rw [h1, h2]; rfl]
   have H1 := hide h1
   have H2 := hide h2
   clear h1 h2
   go_enter Tryz.func45, Tryz.ntmps45
   go_wp2_with fail
   refine (implFdbOk_all _ _ _ l _ (h.below q0) hn).mono ?_
   rintro r wy ⟨rfl, hby⟩
   rw [H1.out]
   obtain ⟨⟨x0, x1, x2, x3, x4⟩, -⟩ := cells5 (kept_block k0 hby)
   go_wp2_with fail
   refine (implEnt_any (⟨t, m, p, 0, false⟩ : FE) _).mono ?_
   rintro r wx ⟨rfl, hbx⟩
   rw [H2.out]
   have bx := gr_trans q0 (gr_trans hby hbx)
   have kx := kept_block k0 (gr_trans hby hbx)
   clear hby hbx x0 x1 x2 x3 x4
   go_wp2_with fail
   refine (clone_any _ _ _ l _ (h.below bx) hn).mono ?_
   rintro r w9 ⟨ao9, cap9, rfl, ho9, hr9, hb9⟩
   have HO := hide (gown_lt ho9 (base' := w.heap.size) bx.size)
   have HR := hide hr9
   have HB := hide (gr_trans bx hb9)
   clear ho9 hr9 hb9 bx
   go_wp2
   go_ret
   exact ⟨_, _, rfl, HO.out, HR.out, HB.out⟩
  ·obtain ⟨hsl, h12⟩ := (fdbOk_iff l).1 h1
   have hrng := ent_rng h2
   have hok0 : FKok (t, m, 0) := ⟨hrng.1, hrng.2.1, by simp only; omega⟩
   have hfld : ∀ W v0 v1 v2 v3 v4, (Instr.field 97 (.agg #[v0, v1, v2, v3, .bool v4]) 4).run Tryz.prog W = .ok (.bool v4) W := fun _ _ _ _ _ _ => by kernel_rfl
   have H1 := hide h1
   have H2 := hide h2
   cases hlk : lookE l t m with
   | some x =>
    have HLK := hide hlk
    cases hxs : x.s
    ·have hL : learnF l t m p = insF (⟨t, m, p, 0, false⟩ : FE) l := by
      unfold learnF canLearn
      rw [h1, h2, hlk]
      simp only [hxs, Bool.not_false, Bool.and_self, if_true]
      exact putF8_sorted hsl
     rw [hL]
     have HPK : Hid (((lookE l t m).isSome || decide (l.length < 12)) = true) := by rw [HLK.out]; rfl
     clear h1 h2 hlk hL
     go_enter Tryz.func45, Tryz.ntmps45
     go_wp2_with fail
     refine (implFdbOk_all _ _ _ l _ (h.below q0) hn).mono ?_
     rintro r wy ⟨rfl, hby⟩
     rw [H1.out]
     obtain ⟨⟨x0, x1, x2, x3, x4⟩, -⟩ := cells5 (kept_block k0 hby)
     go_wp2_with fail
     refine (implEnt_any (⟨t, m, p, 0, false⟩ : FE) _).mono ?_
     rintro r wx ⟨rfl, hbx⟩
     rw [H2.out]
     have bx := gr_trans q0 (gr_trans hby hbx)
     have kx := kept_block k0 (gr_trans hby hbx)
     clear hby hbx x0 x1 x2 x3 x4
     go_wp2_with fail
     refine (tableOf_any _ _ _ l _ (h.below bx) hn hR).mono ?_
     rintro r wt ⟨q, bm, rfl, tab, hbt⟩
     have bt := gr_trans bx hbt
     have hbase := hbt.size
     have kt := kept_block kx hbt
     obtain ⟨aq, cq, hbox, -⟩ := tab.box
     have hmap := tab.map
     have hS : ∀ W, Below wt.heap.size wt W → (W.cell? ⟨q, 1, none⟩ = some (.map (some bm)) ∧ (W.cell? ⟨w.heap.size, 0, none⟩ = some (.int .i64 t) ∧ W.cell? ⟨w.heap.size, 1, none⟩ = some (.int .i64 m) ∧ W.cell? ⟨w.heap.size, 2, none⟩ = some (.int .i64 p) ∧ W.cell? ⟨w.heap.size, 3, none⟩ = some (.int .i64 0) ∧ W.cell? ⟨w.heap.size, 4, none⟩ = some (.bool false)) ∧ (Instr.lookup 145 (.map (some bm)) (.agg #[.int .i64 t, .int .i64 m, .int .i64 0]) false).run Tryz.prog W = .ok (.agg #[.int .i64 x.t, .int .i64 x.m, .int .i64 x.p, .int .i64 x.a, .bool false]) W) := by
      intro W hW
      refine ⟨(cells2 (kept_block hbox hW)).1.2, (cells5 (kept_block kt hW)).1, ?_⟩
      have := (hmap.kept hW).look false hok0
      rw [ents_look hsl] at this
      rw [HLK.out] at this
      refine this.trans ?_
      show Result.ok (feV x) _ = _
      unfold feV
      rw [hxs]
     have HSS := hide hS
     have vv : Below wt.heap.size wt wt.drew := gr_drew (Below.refl _ _)
     clear hS hbox hmap
     go_wp2_with fail
     refine wp_region_held_drew (S := (fun W => W.cell? ⟨q, 1, none⟩ = some (.map (some bm)) ∧ (W.cell? ⟨w.heap.size, 0, none⟩ = some (.int .i64 t) ∧ W.cell? ⟨w.heap.size, 1, none⟩ = some (.int .i64 m) ∧ W.cell? ⟨w.heap.size, 2, none⟩ = some (.int .i64 p) ∧ W.cell? ⟨w.heap.size, 3, none⟩ = some (.int .i64 0) ∧ W.cell? ⟨w.heap.size, 4, none⟩ = some (.bool false)) ∧ (Instr.lookup 145 (.map (some bm)) (.agg #[.int .i64 t, .int .i64 m, .int .i64 0]) false).run Tryz.prog W = .ok (.agg #[.int .i64 x.t, .int .i64 x.m, .int .i64 x.p, .int .i64 x.a, .bool false]) W)) (by kernel_rfl) (HSS.out _ vv) (fun hHeld => ?_)
     refine tK (v := ?_) 0 q298 ?_ ?_
     rotate_left
     ·(intro _ h; (try dsimp only at h); go_simp; try with_reducible rfl)
     simp only [Act.put, lA, lB, lC]
     refine tK (v := ?_) 1 q299 ?_ ?_
     rotate_left
     ·(intro _ h; (try dsimp only at h); go_simp; try with_reducible rfl)
     simp only [Act.put, lA, lB, lC]
     refine tK (v := ?_) 2 q300 ?_ ?_
     rotate_left
     ·(intro _ h; (try dsimp only at h); go_simp; try with_reducible rfl)
     simp only [Act.put, lA, lB, lC]
     refine tK (v := ?_) 3 q301 ?_ ?_
     rotate_left
     ·(intro _ h; (try dsimp only at h); go_simp; try with_reducible rfl)
     simp only [Act.put, lA, lB, lC]
     refine tK (v := ?_) 4 q302 ?_ ?_
     rotate_left
     ·(intro _ h; (try dsimp only at h); go_simp; try with_reducible rfl)
     simp only [Act.put, lA, lB, lC]
     refine tR [5] ?_
     refine AllReadyH.cons (o := q303) rfl (fun K hK => ?_) ?_
     ·go_simp
      refine (firstKey_any (⟨t, m, p, 0, false⟩ : FE) _).mono ?_
      rintro r wz ⟨rfl, hbz⟩
      have vv := gr_trans vv hbz
      go_wp2_with fail
      refine hK.out _ _ (HSS.out _ vv) (fun hHeld => ?_)
      clear hK K
      try simp only [Act.put, lA, lB, lC]
      refine tK (v := ?_) 6 q304 ?_ ?_
      rotate_left
      ·(intro _ h; (try dsimp only at h); go_simp; try with_reducible rfl)
      simp only [Act.put, lA, lB, lC]
      refine tK (v := ?_) 7 q305 ?_ ?_
      rotate_left
      ·(intro _ h; (try dsimp only at h); go_simp; try with_reducible rfl)
      simp only [Act.put, lA, lB, lC]
      refine tK (v := ?_) 8 q306 ?_ ?_
      rotate_left
      ·(intro _ h; (try dsimp only at h); go_simp; try with_reducible rfl)
      simp only [Act.put, lA, lB, lC]
      refine wpAnyH_done (by kernel_rfl) ?_ _
      clear HSS hHeld
      have tabP := tab.below vv
      have kp := kept_block kt vv
      obtain ⟨⟨y0, y1, y2, y3, y4⟩, -⟩ := cells5 kp
      have bp := gr_trans bt vv
      have hbp := Nat.le_trans hbase vv.size
      clear vv tab kt
      go_wp2_with fail
      refine (put_any _ _ q bm l (⟨t, m, p, 0, false⟩ : FE) tabP hsl (by omega) hrng hbp).mono ?_
      rintro r wu ⟨ok, ks', g', rfl, hokv, tabL, hout, hbu⟩
      rw [HPK.out] at hokv
      subst hokv
      rw [if_pos rfl] at hout
      have BL := hide (bp.trans (hbu.mono bx.size))
      have HOUT := hide hout
      clear hout hbu tabP y0 y1 y2 y3 y4
      go_wp2_with fail
      refine (list_any _ _ q bm _ _ tabL).mono ?_
      rintro r w9 ⟨ao9, cap9, rfl, ho9, hr9, hb9⟩
      rw [HOUT.out] at *
      have HO := hide (gown_lt ho9 (base' := w.heap.size) BL.out.size)
      have HR := hide hr9
      have HB := hide (gr_trans BL.out hb9)
      clear ho9 hr9 hb9 tabL
      go_wp2
      go_ret
      exact ⟨_, _, rfl, HO.out, HR.out, HB.out⟩
     exact AllReadyH.nil
    ·have hL : learnF l t m p = l := learn_static (by unfold staticF; rw [hlk]; exact hxs)
     rw [hL]
     clear h1 h2 hlk hL
     go_enter Tryz.func45, Tryz.ntmps45
     go_wp2_with fail
     refine (implFdbOk_all _ _ _ l _ (h.below q0) hn).mono ?_
     rintro r wy ⟨rfl, hby⟩
     rw [H1.out]
     obtain ⟨⟨x0, x1, x2, x3, x4⟩, -⟩ := cells5 (kept_block k0 hby)
     go_wp2_with fail
     refine (implEnt_any (⟨t, m, p, 0, false⟩ : FE) _).mono ?_
     rintro r wx ⟨rfl, hbx⟩
     rw [H2.out]
     have bx := gr_trans q0 (gr_trans hby hbx)
     have kx := kept_block k0 (gr_trans hby hbx)
     clear hby hbx x0 x1 x2 x3 x4
     go_wp2_with fail
     refine (tableOf_any _ _ _ l _ (h.below bx) hn hR).mono ?_
     rintro r wt ⟨q, bm, rfl, tab, hbt⟩
     have bt := gr_trans bx hbt
     have hbase := hbt.size
     have kt := kept_block kx hbt
     obtain ⟨aq, cq, hbox, -⟩ := tab.box
     have hmap := tab.map
     have hS : ∀ W, Below wt.heap.size wt W → (W.cell? ⟨q, 1, none⟩ = some (.map (some bm)) ∧ (W.cell? ⟨w.heap.size, 0, none⟩ = some (.int .i64 t) ∧ W.cell? ⟨w.heap.size, 1, none⟩ = some (.int .i64 m) ∧ W.cell? ⟨w.heap.size, 2, none⟩ = some (.int .i64 p) ∧ W.cell? ⟨w.heap.size, 3, none⟩ = some (.int .i64 0) ∧ W.cell? ⟨w.heap.size, 4, none⟩ = some (.bool false)) ∧ (Instr.lookup 145 (.map (some bm)) (.agg #[.int .i64 t, .int .i64 m, .int .i64 0]) false).run Tryz.prog W = .ok (.agg #[.int .i64 x.t, .int .i64 x.m, .int .i64 x.p, .int .i64 x.a, .bool true]) W) := by
      intro W hW
      refine ⟨(cells2 (kept_block hbox hW)).1.2, (cells5 (kept_block kt hW)).1, ?_⟩
      have := (hmap.kept hW).look false hok0
      rw [ents_look hsl] at this
      rw [HLK.out] at this
      refine this.trans ?_
      show Result.ok (feV x) _ = _
      unfold feV
      rw [hxs]
     have HSS := hide hS
     have vv : Below wt.heap.size wt wt.drew := gr_drew (Below.refl _ _)
     clear hS hbox hmap
     go_wp2_with fail
     refine wp_region_held_drew (S := (fun W => W.cell? ⟨q, 1, none⟩ = some (.map (some bm)) ∧ (W.cell? ⟨w.heap.size, 0, none⟩ = some (.int .i64 t) ∧ W.cell? ⟨w.heap.size, 1, none⟩ = some (.int .i64 m) ∧ W.cell? ⟨w.heap.size, 2, none⟩ = some (.int .i64 p) ∧ W.cell? ⟨w.heap.size, 3, none⟩ = some (.int .i64 0) ∧ W.cell? ⟨w.heap.size, 4, none⟩ = some (.bool false)) ∧ (Instr.lookup 145 (.map (some bm)) (.agg #[.int .i64 t, .int .i64 m, .int .i64 0]) false).run Tryz.prog W = .ok (.agg #[.int .i64 x.t, .int .i64 x.m, .int .i64 x.p, .int .i64 x.a, .bool true]) W)) (by kernel_rfl) (HSS.out _ vv) (fun hHeld => ?_)
     refine tK (v := ?_) 0 q298 ?_ ?_
     rotate_left
     ·(intro _ h; (try dsimp only at h); go_simp; try with_reducible rfl)
     simp only [Act.put, lA, lB, lC]
     refine tK (v := ?_) 1 q299 ?_ ?_
     rotate_left
     ·(intro _ h; (try dsimp only at h); go_simp; try with_reducible rfl)
     simp only [Act.put, lA, lB, lC]
     refine tK (v := ?_) 2 q300 ?_ ?_
     rotate_left
     ·(intro _ h; (try dsimp only at h); go_simp; try with_reducible rfl)
     simp only [Act.put, lA, lB, lC]
     refine tK (v := ?_) 3 q301 ?_ ?_
     rotate_left
     ·(intro _ h; (try dsimp only at h); go_simp; try with_reducible rfl)
     simp only [Act.put, lA, lB, lC]
     refine tK (v := ?_) 4 q302 ?_ ?_
     rotate_left
     ·(intro _ h; (try dsimp only at h); go_simp; try with_reducible rfl)
     simp only [Act.put, lA, lB, lC]
     refine tR [5] ?_
     refine AllReadyH.cons (o := q303) rfl (fun K hK => ?_) ?_
     ·go_simp
      refine (firstKey_any (⟨t, m, p, 0, false⟩ : FE) _).mono ?_
      rintro r wz ⟨rfl, hbz⟩
      have vv := gr_trans vv hbz
      go_wp2_with fail
      refine hK.out _ _ (HSS.out _ vv) (fun hHeld => ?_)
      clear hK K
      try simp only [Act.put, lA, lB, lC]
      refine tK (v := ?_) 6 q304 ?_ ?_
      rotate_left
      ·(intro _ h; (try dsimp only at h); go_simp; try with_reducible rfl)
      simp only [Act.put, lA, lB, lC]
      refine tK (v := ?_) 7 q305 ?_ ?_
      rotate_left
      ·(intro _ h; (try dsimp only at h); go_simp; try with_reducible rfl)
      simp only [Act.put, lA, lB, lC]
      refine tK (v := ?_) 8 q306 ?_ ?_
      rotate_left
      ·(intro _ h; (try dsimp only at h); go_simp; try with_reducible rfl)
      simp only [Act.put, lA, lB, lC]
      refine wpAnyH_done (by kernel_rfl) ?_ _
      clear HSS hHeld
      have tabL := tab.below vv
      have BL := hide (gr_trans bt vv)
      have HOUT := hide (out_all (ents_map l))
      clear vv tab
      go_wp2_with fail
      refine (list_any _ _ q bm _ _ tabL).mono ?_
      rintro r w9 ⟨ao9, cap9, rfl, ho9, hr9, hb9⟩
      rw [HOUT.out] at *
      have HO := hide (gown_lt ho9 (base' := w.heap.size) BL.out.size)
      have HR := hide hr9
      have HB := hide (gr_trans BL.out hb9)
      clear ho9 hr9 hb9 tabL
      go_wp2
      go_ret
      exact ⟨_, _, rfl, HO.out, HR.out, HB.out⟩
     exact AllReadyH.nil
   | none =>
    have HLK := hide hlk
    by_cases hf : l.length < 12
    ·have hL : learnF l t m p = insF (⟨t, m, p, 0, false⟩ : FE) l := by
      unfold learnF canLearn
      rw [h1, h2, hlk]
      simp only [decide_eq_true hf, Bool.and_self, if_true]
      exact putF8_sorted hsl
     rw [hL]
     have HPK : Hid (((lookE l t m).isSome || decide (l.length < 12)) = true) := by rw [HLK.out, decide_eq_true hf]; rfl
     clear h1 h2 hlk hL
     go_enter Tryz.func45, Tryz.ntmps45
     go_wp2_with fail
     refine (implFdbOk_all _ _ _ l _ (h.below q0) hn).mono ?_
     rintro r wy ⟨rfl, hby⟩
     rw [H1.out]
     obtain ⟨⟨x0, x1, x2, x3, x4⟩, -⟩ := cells5 (kept_block k0 hby)
     go_wp2_with fail
     refine (implEnt_any (⟨t, m, p, 0, false⟩ : FE) _).mono ?_
     rintro r wx ⟨rfl, hbx⟩
     rw [H2.out]
     have bx := gr_trans q0 (gr_trans hby hbx)
     have kx := kept_block k0 (gr_trans hby hbx)
     clear hby hbx x0 x1 x2 x3 x4
     go_wp2_with fail
     refine (tableOf_any _ _ _ l _ (h.below bx) hn hR).mono ?_
     rintro r wt ⟨q, bm, rfl, tab, hbt⟩
     have bt := gr_trans bx hbt
     have hbase := hbt.size
     have kt := kept_block kx hbt
     obtain ⟨aq, cq, hbox, -⟩ := tab.box
     have hmap := tab.map
     have hS : ∀ W, Below wt.heap.size wt W → (W.cell? ⟨q, 1, none⟩ = some (.map (some bm)) ∧ (W.cell? ⟨w.heap.size, 0, none⟩ = some (.int .i64 t) ∧ W.cell? ⟨w.heap.size, 1, none⟩ = some (.int .i64 m) ∧ W.cell? ⟨w.heap.size, 2, none⟩ = some (.int .i64 p) ∧ W.cell? ⟨w.heap.size, 3, none⟩ = some (.int .i64 0) ∧ W.cell? ⟨w.heap.size, 4, none⟩ = some (.bool false)) ∧ (Instr.lookup 145 (.map (some bm)) (.agg #[.int .i64 t, .int .i64 m, .int .i64 0]) false).run Tryz.prog W = .ok (.agg #[.int .i64 0, .int .i64 0, .int .i64 0, .int .i64 0, .bool false]) W) := by
      intro W hW
      refine ⟨(cells2 (kept_block hbox hW)).1.2, (cells5 (kept_block kt hW)).1, ?_⟩
      have := (hmap.kept hW).look false hok0
      rw [ents_look hsl] at this
      rw [HLK.out] at this
      exact this
     have HSS := hide hS
     have vv : Below wt.heap.size wt wt.drew := gr_drew (Below.refl _ _)
     clear hS hbox hmap
     go_wp2_with fail
     refine wp_region_held_drew (S := (fun W => W.cell? ⟨q, 1, none⟩ = some (.map (some bm)) ∧ (W.cell? ⟨w.heap.size, 0, none⟩ = some (.int .i64 t) ∧ W.cell? ⟨w.heap.size, 1, none⟩ = some (.int .i64 m) ∧ W.cell? ⟨w.heap.size, 2, none⟩ = some (.int .i64 p) ∧ W.cell? ⟨w.heap.size, 3, none⟩ = some (.int .i64 0) ∧ W.cell? ⟨w.heap.size, 4, none⟩ = some (.bool false)) ∧ (Instr.lookup 145 (.map (some bm)) (.agg #[.int .i64 t, .int .i64 m, .int .i64 0]) false).run Tryz.prog W = .ok (.agg #[.int .i64 0, .int .i64 0, .int .i64 0, .int .i64 0, .bool false]) W)) (by kernel_rfl) (HSS.out _ vv) (fun hHeld => ?_)
     refine tK (v := ?_) 0 q298 ?_ ?_
     rotate_left
     ·(intro _ h; (try dsimp only at h); go_simp; try with_reducible rfl)
     simp only [Act.put, lA, lB, lC]
     refine tK (v := ?_) 1 q299 ?_ ?_
     rotate_left
     ·(intro _ h; (try dsimp only at h); go_simp; try with_reducible rfl)
     simp only [Act.put, lA, lB, lC]
     refine tK (v := ?_) 2 q300 ?_ ?_
     rotate_left
     ·(intro _ h; (try dsimp only at h); go_simp; try with_reducible rfl)
     simp only [Act.put, lA, lB, lC]
     refine tK (v := ?_) 3 q301 ?_ ?_
     rotate_left
     ·(intro _ h; (try dsimp only at h); go_simp; try with_reducible rfl)
     simp only [Act.put, lA, lB, lC]
     refine tK (v := ?_) 4 q302 ?_ ?_
     rotate_left
     ·(intro _ h; (try dsimp only at h); go_simp; try with_reducible rfl)
     simp only [Act.put, lA, lB, lC]
     refine tR [5] ?_
     refine AllReadyH.cons (o := q303) rfl (fun K hK => ?_) ?_
     ·go_simp
      refine (firstKey_any (⟨t, m, p, 0, false⟩ : FE) _).mono ?_
      rintro r wz ⟨rfl, hbz⟩
      have vv := gr_trans vv hbz
      go_wp2_with fail
      refine hK.out _ _ (HSS.out _ vv) (fun hHeld => ?_)
      clear hK K
      try simp only [Act.put, lA, lB, lC]
      refine tK (v := ?_) 6 q304 ?_ ?_
      rotate_left
      ·(intro _ h; (try dsimp only at h); go_simp; try with_reducible rfl)
      simp only [Act.put, lA, lB, lC]
      refine tK (v := ?_) 7 q305 ?_ ?_
      rotate_left
      ·(intro _ h; (try dsimp only at h); go_simp; try with_reducible rfl)
      simp only [Act.put, lA, lB, lC]
      refine tK (v := ?_) 8 q306 ?_ ?_
      rotate_left
      ·(intro _ h; (try dsimp only at h); go_simp; try with_reducible rfl)
      simp only [Act.put, lA, lB, lC]
      refine wpAnyH_done (by kernel_rfl) ?_ _
      clear HSS hHeld
      have tabP := tab.below vv
      have kp := kept_block kt vv
      obtain ⟨⟨y0, y1, y2, y3, y4⟩, -⟩ := cells5 kp
      have bp := gr_trans bt vv
      have hbp := Nat.le_trans hbase vv.size
      clear vv tab kt
      go_wp2_with fail
      refine (put_any _ _ q bm l (⟨t, m, p, 0, false⟩ : FE) tabP hsl (by omega) hrng hbp).mono ?_
      rintro r wu ⟨ok, ks', g', rfl, hokv, tabL, hout, hbu⟩
      rw [HPK.out] at hokv
      subst hokv
      rw [if_pos rfl] at hout
      have BL := hide (bp.trans (hbu.mono bx.size))
      have HOUT := hide hout
      clear hout hbu tabP y0 y1 y2 y3 y4
      go_wp2_with fail
      refine (list_any _ _ q bm _ _ tabL).mono ?_
      rintro r w9 ⟨ao9, cap9, rfl, ho9, hr9, hb9⟩
      rw [HOUT.out] at *
      have HO := hide (gown_lt ho9 (base' := w.heap.size) BL.out.size)
      have HR := hide hr9
      have HB := hide (gr_trans BL.out hb9)
      clear ho9 hr9 hb9 tabL
      go_wp2
      go_ret
      exact ⟨_, _, rfl, HO.out, HR.out, HB.out⟩
     exact AllReadyH.nil
    ·have hL : learnF l t m p = l := by
      unfold learnF canLearn
      rw [h1, h2, hlk, decide_eq_false hf]
      rfl
     rw [hL]
     have HPK : Hid (((lookE l t m).isSome || decide (l.length < 12)) = false) := by rw [HLK.out, decide_eq_false hf]; rfl
     clear h1 h2 hlk hL
     go_enter Tryz.func45, Tryz.ntmps45
     go_wp2_with fail
     refine (implFdbOk_all _ _ _ l _ (h.below q0) hn).mono ?_
     rintro r wy ⟨rfl, hby⟩
     rw [H1.out]
     obtain ⟨⟨x0, x1, x2, x3, x4⟩, -⟩ := cells5 (kept_block k0 hby)
     go_wp2_with fail
     refine (implEnt_any (⟨t, m, p, 0, false⟩ : FE) _).mono ?_
     rintro r wx ⟨rfl, hbx⟩
     rw [H2.out]
     have bx := gr_trans q0 (gr_trans hby hbx)
     have kx := kept_block k0 (gr_trans hby hbx)
     clear hby hbx x0 x1 x2 x3 x4
     go_wp2_with fail
     refine (tableOf_any _ _ _ l _ (h.below bx) hn hR).mono ?_
     rintro r wt ⟨q, bm, rfl, tab, hbt⟩
     have bt := gr_trans bx hbt
     have hbase := hbt.size
     have kt := kept_block kx hbt
     obtain ⟨aq, cq, hbox, -⟩ := tab.box
     have hmap := tab.map
     have hS : ∀ W, Below wt.heap.size wt W → (W.cell? ⟨q, 1, none⟩ = some (.map (some bm)) ∧ (W.cell? ⟨w.heap.size, 0, none⟩ = some (.int .i64 t) ∧ W.cell? ⟨w.heap.size, 1, none⟩ = some (.int .i64 m) ∧ W.cell? ⟨w.heap.size, 2, none⟩ = some (.int .i64 p) ∧ W.cell? ⟨w.heap.size, 3, none⟩ = some (.int .i64 0) ∧ W.cell? ⟨w.heap.size, 4, none⟩ = some (.bool false)) ∧ (Instr.lookup 145 (.map (some bm)) (.agg #[.int .i64 t, .int .i64 m, .int .i64 0]) false).run Tryz.prog W = .ok (.agg #[.int .i64 0, .int .i64 0, .int .i64 0, .int .i64 0, .bool false]) W) := by
      intro W hW
      refine ⟨(cells2 (kept_block hbox hW)).1.2, (cells5 (kept_block kt hW)).1, ?_⟩
      have := (hmap.kept hW).look false hok0
      rw [ents_look hsl] at this
      rw [HLK.out] at this
      exact this
     have HSS := hide hS
     have vv : Below wt.heap.size wt wt.drew := gr_drew (Below.refl _ _)
     clear hS hbox hmap
     go_wp2_with fail
     refine wp_region_held_drew (S := (fun W => W.cell? ⟨q, 1, none⟩ = some (.map (some bm)) ∧ (W.cell? ⟨w.heap.size, 0, none⟩ = some (.int .i64 t) ∧ W.cell? ⟨w.heap.size, 1, none⟩ = some (.int .i64 m) ∧ W.cell? ⟨w.heap.size, 2, none⟩ = some (.int .i64 p) ∧ W.cell? ⟨w.heap.size, 3, none⟩ = some (.int .i64 0) ∧ W.cell? ⟨w.heap.size, 4, none⟩ = some (.bool false)) ∧ (Instr.lookup 145 (.map (some bm)) (.agg #[.int .i64 t, .int .i64 m, .int .i64 0]) false).run Tryz.prog W = .ok (.agg #[.int .i64 0, .int .i64 0, .int .i64 0, .int .i64 0, .bool false]) W)) (by kernel_rfl) (HSS.out _ vv) (fun hHeld => ?_)
     refine tK (v := ?_) 0 q298 ?_ ?_
     rotate_left
     ·(intro _ h; (try dsimp only at h); go_simp; try with_reducible rfl)
     simp only [Act.put, lA, lB, lC]
     refine tK (v := ?_) 1 q299 ?_ ?_
     rotate_left
     ·(intro _ h; (try dsimp only at h); go_simp; try with_reducible rfl)
     simp only [Act.put, lA, lB, lC]
     refine tK (v := ?_) 2 q300 ?_ ?_
     rotate_left
     ·(intro _ h; (try dsimp only at h); go_simp; try with_reducible rfl)
     simp only [Act.put, lA, lB, lC]
     refine tK (v := ?_) 3 q301 ?_ ?_
     rotate_left
     ·(intro _ h; (try dsimp only at h); go_simp; try with_reducible rfl)
     simp only [Act.put, lA, lB, lC]
     refine tK (v := ?_) 4 q302 ?_ ?_
     rotate_left
     ·(intro _ h; (try dsimp only at h); go_simp; try with_reducible rfl)
     simp only [Act.put, lA, lB, lC]
     refine tR [5] ?_
     refine AllReadyH.cons (o := q303) rfl (fun K hK => ?_) ?_
     ·go_simp
      refine (firstKey_any (⟨t, m, p, 0, false⟩ : FE) _).mono ?_
      rintro r wz ⟨rfl, hbz⟩
      have vv := gr_trans vv hbz
      go_wp2_with fail
      refine hK.out _ _ (HSS.out _ vv) (fun hHeld => ?_)
      clear hK K
      try simp only [Act.put, lA, lB, lC]
      refine tK (v := ?_) 6 q304 ?_ ?_
      rotate_left
      ·(intro _ h; (try dsimp only at h); go_simp; try with_reducible rfl)
      simp only [Act.put, lA, lB, lC]
      refine tK (v := ?_) 7 q305 ?_ ?_
      rotate_left
      ·(intro _ h; (try dsimp only at h); go_simp; try with_reducible rfl)
      simp only [Act.put, lA, lB, lC]
      refine tK (v := ?_) 8 q306 ?_ ?_
      rotate_left
      ·(intro _ h; (try dsimp only at h); go_simp; try with_reducible rfl)
      simp only [Act.put, lA, lB, lC]
      refine wpAnyH_done (by kernel_rfl) ?_ _
      clear HSS hHeld
      have tabP := tab.below vv
      have kp := kept_block kt vv
      obtain ⟨⟨y0, y1, y2, y3, y4⟩, -⟩ := cells5 kp
      have bp := gr_trans bt vv
      have hbp := Nat.le_trans hbase vv.size
      clear vv tab kt
      go_wp2_with fail
      refine (put_any _ _ q bm l (⟨t, m, p, 0, false⟩ : FE) tabP hsl (by omega) hrng hbp).mono ?_
      rintro r wu ⟨ok, ks', g', rfl, hokv, tabL, hout, hbu⟩
      rw [HPK.out] at hokv
      subst hokv
      rw [if_neg Bool.false_ne_true] at hout
      have BL := hide (bp.trans (hbu.mono bx.size))
      have HOUT := hide hout
      clear hout hbu tabP y0 y1 y2 y3 y4
      go_wp2_with fail
      refine (list_any _ _ q bm _ _ tabL).mono ?_
      rintro r w9 ⟨ao9, cap9, rfl, ho9, hr9, hb9⟩
      rw [HOUT.out] at *
      have HO := hide (gown_lt ho9 (base' := w.heap.size) BL.out.size)
      have HR := hide hr9
      have HB := hide (gr_trans BL.out hb9)
      clear ho9 hr9 hb9 tabL
      go_wp2
      go_ret
      exact ⟨_, _, rfl, HO.out, HR.out, HB.out⟩
     exact AllReadyH.nil

end Go.Proofs.YtddalpglihhipaaGreat
