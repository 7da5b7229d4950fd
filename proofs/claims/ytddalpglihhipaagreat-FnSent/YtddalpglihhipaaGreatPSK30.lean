/-
  Packed: FdbImplL DrawSent BrDin FwdBack.
-/
import Derived.Test.YtddalpglihhipaaGreatPSKW
import Derived.Test.YtddalpglihhipaaGreatPSDrawBr
import Derived.Test.YtddalpglihhipaaGreatPSK01
import Derived.Test.YtddalpglihhipaaGreatPSK03
import Derived.Test.YtddalpglihhipaaGreatPSK07
import Derived.Test.YtddalpglihhipaaGreatPSK11
import Derived.Test.YtddalpglihhipaaGreatPSK12
import Derived.Test.YtddalpglihhipaaGreatPSK18
import Derived.Test.YtddalpglihhipaaGreatPSK29
import Derived.Deep.RegionHeld3
namespace Go.Proofs.YtddalpglihhipaaGreat
open Go.RowKit

abbrev q374 : Oper := ⟨some 27, .move (.tmp 10), 142, "l08_fdb.go:50", #[], none⟩
abbrev q375 : Oper := ⟨some 28, .nilCheck (.tmp 27), 0, "l08_fdb.go:50", #[⟨0, .data⟩], none⟩
abbrev q376 : Oper := ⟨some 29, .fieldAddr 147 (.tmp 28) 1, 0, "l08_fdb.go:50", #[⟨1, .data⟩], none⟩
abbrev q377 : Oper := ⟨some 30, .load 145 (.tmp 29), 145, "l08_fdb.go:50", #[⟨2, .data⟩], none⟩
abbrev q378 : Oper := ⟨some 31, .load 97 (.tmp 9), 97, "l08_fdb.go:50", #[], none⟩
abbrev q379 : Oper := ⟨some 32, .call ⟨.value (.func 111), #[.tmp 31], #[97]⟩, 149, "l08_fdb.go:50", #[⟨4, .data⟩], none⟩
abbrev q380 : Oper := ⟨some 33, .lookup 145 (.tmp 30) (.tmp 32) false, 97, "l08_fdb.go:50", #[⟨3, .data⟩, ⟨5, .data⟩], none⟩
abbrev q381 : Oper := ⟨some 34, .field 97 (.tmp 33) 4, 4, "l08_fdb.go:50", #[⟨6, .data⟩], none⟩
abbrev q382 : Oper := ⟨some 35, .unOp .not 4 (.tmp 34), 4, "l08_fdb.go:50", #[⟨7, .data⟩], none⟩

theorem ents_look {l : List FE} (h : Sorted l) (t m : Int) : entsOf l (t, m, 0) = lookE l t m := by
 cases hk : lookE l t m with
 | none =>
  refine ents_none l (fun hm => ?_)
  rw [keys_rise h] at hm
  obtain ⟨x, hx, hxe⟩ := List.mem_map.1 hm
  unfold key0 at hxe
  simp at hxe
  exact look_none.1 hk x hx hxe
 | some x =>
  obtain ⟨hx, rfl, rfl⟩ := look_some hk
  obtain ⟨i, hi⟩ := List.getElem?_of_mem hx
  have hki : (keysOf l)[i]? = some (key0 x) := by rw [keys_rise h, List.getElem?_map, hi]; rfl
  obtain ⟨e, he, hge⟩ := keys_at hki
  rw [hi] at he
  cases he
  exact hge

set_option maxRecDepth 100000 in
set_option maxHeartbeats 16000000 in
theorem implLearn_made (ao : Option Addr) (n cap : Nat) (l : List FE) (t m p : Int) (w : World) (h : GRow fentF w ao n cap l) (hn : n ≤ 16777216) (hR : ∀ x ∈ l, x.Rng) :
  Calls Tryz.prog 45 #[.slice ao n cap, .int .i64 t, .int .i64 m, .int .i64 p] w fun r w' => ∃ ao' cap', r = .returned (.slice ao' (learnF l t m p).length cap') ∧ w'.ownsRow w.heap.size 97 5 (.slice ao' (learnF l t m p).length cap') (learnF l t m p).length (fentF.all (learnF l t m p)) ∧ GRow fentF w' ao' (learnF l t m p).length cap' (learnF l t m p) ∧ Below w.heap.size w w' := by
 have q0 := below_one w (.cells #[.int .i64 t, .int .i64 m, .int .i64 p, .int .i64 0, .bool false] 97)
 have k0 := block_last w (.cells #[.int .i64 t, .int .i64 m, .int .i64 p, .int .i64 0, .bool false] 97)
 obtain rfl := h.size
 cases h1 : fdbOk l
 ·rw [show learnF l t m p = l by unfold learnF canLearn; rw [h1]; rfl]
  have H1 := hide h1
  clear h1
  go_enter Tryz.func45, Tryz.ntmps45
  go_wp2_with fail
  refine (implFdbOk_all _ _ _ l _ (h.below q0) hn).mono ?_
  rintro r wy ⟨rfl, hby⟩
  rw [H1.out]
  have bx := gr_trans q0 hby
  clear hby
  go_wp2_with fail
  refine (clone_any _ _ _ l _ (h.below bx) hn).mono ?_
  rintro r w9 ⟨ao9, cap9, rfl, ho9, hr9, hb9⟩
  have HO := hide (gown_lt ho9 (base' := w.heap.size) bx.size)
  have HR := hide hr9
  have HB := hide (gr_trans bx hb9)
  clear ho9 hr9 hb9 bx
  go_wp2
  go_ret
  exact ⟨_, _, rfl, HO.out, HR.out, HB.out⟩
 ·cases h2 : entOk (⟨t, m, p, 0, false⟩ : FE)
  ·rw [show learnF l t m p = l by unfold learnF canLearn; rw [h1, h2]; rfl]
   have H1 := hide h1
   have H2 := hide h2
   clear h1 h2
   go_enter Tryz.func45, Tryz.ntmps45
   go_wp2_with fail
   refine (implFdbOk_all _ _ _ l _ (h.below q0) hn).mono ?_
   rintro r wy ⟨rfl, hby⟩
   rw [H1.out]
   obtain ⟨⟨x0, x1, x2, x3, x4⟩, -⟩ := cells5 (kept_block k0 hby)
   go_wp2_with fail
   refine (implEnt_any (⟨t, m, p, 0, false⟩ : FE) _).mono ?_
   rintro r wx ⟨rfl, hbx⟩
   rw [H2.out]
   have bx := gr_trans q0 (gr_trans hby hbx)
   have kx := kept_block k0 (gr_trans hby hbx)
   clear hby hbx x0 x1 x2 x3 x4
   go_wp2_with fail
   refine (clone_any _ _ _ l _ (h.below bx) hn).mono ?_
   rintro r w9 ⟨ao9, cap9, rfl, ho9, hr9, hb9⟩
   have HO := hide (gown_lt ho9 (base' := w.heap.size) bx.size)
   have HR := hide hr9
   have HB := hide (gr_trans bx hb9)
   clear ho9 hr9 hb9 bx
   go_wp2
   go_ret
   exact ⟨_, _, rfl, HO.out, HR.out, HB.out⟩
  ·obtain ⟨hsl, h12⟩ := (fdbOk_iff l).1 h1
   have hrng := ent_rng h2
   have hok0 : FKok (t, m, 0) := ⟨hrng.1, hrng.2.1, by simp only; omega⟩
   have hfld : ∀ W v0 v1 v2 v3 v4, (Instr.field 97 (.agg #[v0, v1, v2, v3, .bool v4]) 4).run Tryz.prog W = .ok (.bool v4) W := fun _ _ _ _ _ _ => by kernel_rfl
   have H1 := hide h1
   have H2 := hide h2
   cases hlk : lookE l t m with
   | some x =>
    have HLK := hide hlk
    cases hxs : x.s
    ·have hL : learnF l t m p = insF (⟨t, m, p, 0, false⟩ : FE) l := by
      unfold learnF canLearn
      rw [h1, h2, hlk]
      simp only [hxs, Bool.not_false, Bool.and_self, if_true]
      exact putF8_sorted hsl
     rw [hL]
     have HPK : Hid (((lookE l t m).isSome || decide (l.length < 12)) = true) := by rw [HLK.out]; rfl
     clear h1 h2 hlk hL
     go_enter Tryz.func45, Tryz.ntmps45
     go_wp2_with fail
     refine (implFdbOk_all _ _ _ l _ (h.below q0) hn).mono ?_
     rintro r wy ⟨rfl, hby⟩
     rw [H1.out]
     obtain ⟨⟨x0, x1, x2, x3, x4⟩, -⟩ := cells5 (kept_block k0 hby)
     go_wp2_with fail
     refine (implEnt_any (⟨t, m, p, 0, false⟩ : FE) _).mono ?_
     rintro r wx ⟨rfl, hbx⟩
     rw [H2.out]
     have bx := gr_trans q0 (gr_trans hby hbx)
     have kx := kept_block k0 (gr_trans hby hbx)
     clear hby hbx x0 x1 x2 x3 x4
     go_wp2_with fail
     refine (tableOf_any _ _ _ l _ (h.below bx) hn hR).mono ?_
     rintro r wt ⟨q, bm, rfl, tab, hbt⟩
     have bt := gr_trans bx hbt
     have hbase := hbt.size
     have kt := kept_block kx hbt
     obtain ⟨aq, cq, hbox, -⟩ := tab.box
     have hmap := tab.map
     have hS : ∀ W, Below wt.heap.size wt W → (W.cell? ⟨q, 1, none⟩ = some (.map (some bm)) ∧ (W.cell? ⟨w.heap.size, 0, none⟩ = some (.int .i64 t) ∧ W.cell? ⟨w.heap.size, 1, none⟩ = some (.int .i64 m) ∧ W.cell? ⟨w.heap.size, 2, none⟩ = some (.int .i64 p) ∧ W.cell? ⟨w.heap.size, 3, none⟩ = some (.int .i64 0) ∧ W.cell? ⟨w.heap.size, 4, none⟩ = some (.bool false)) ∧ (Instr.lookup 145 (.map (some bm)) (.agg #[.int .i64 t, .int .i64 m, .int .i64 0]) false).run Tryz.prog W = .ok (.agg #[.int .i64 x.t, .int .i64 x.m, .int .i64 x.p, .int .i64 x.a, .bool false]) W) := by
      intro W hW
      refine ⟨(cells2 (kept_block hbox hW)).1.2, (cells5 (kept_block kt hW)).1, ?_⟩
      have := (hmap.kept hW).look false hok0
      rw [ents_look hsl] at this
      rw [HLK.out] at this
      refine this.trans ?_
      show Result.ok (feV x) _ = _
      unfold feV
      rw [hxs]
     have HSS := hide hS
     have vv : Below wt.heap.size wt wt.drew := gr_drew (Below.refl _ _)
     clear hS hbox hmap
     go_wp2_with fail
     refine wp_region_held_drew (S := (fun W => W.cell? ⟨q, 1, none⟩ = some (.map (some bm)) ∧ (W.cell? ⟨w.heap.size, 0, none⟩ = some (.int .i64 t) ∧ W.cell? ⟨w.heap.size, 1, none⟩ = some (.int .i64 m) ∧ W.cell? ⟨w.heap.size, 2, none⟩ = some (.int .i64 p) ∧ W.cell? ⟨w.heap.size, 3, none⟩ = some (.int .i64 0) ∧ W.cell? ⟨w.heap.size, 4, none⟩ = some (.bool false)) ∧ (Instr.lookup 145 (.map (some bm)) (.agg #[.int .i64 t, .int .i64 m, .int .i64 0]) false).run Tryz.prog W = .ok (.agg #[.int .i64 x.t, .int .i64 x.m, .int .i64 x.p, .int .i64 x.a, .bool false]) W)) (by kernel_rfl) (HSS.out _ vv) (fun hHeld => ?_)
     refine kK 0 q374 ?_
     refine kK 1 q375 ?_
     refine kK 2 q376 ?_
     refine kK 3 q377 ?_
     refine kK 4 q378 ?_
     refine tR [5] ?_
     refine AllReadyH.cons (o := q379) rfl (fun K hK => ?_) ?_
     ·go_simp
      refine (firstKey_any (⟨t, m, p, 0, false⟩ : FE) _).mono ?_
      rintro r wz ⟨rfl, hbz⟩
      have vv := gr_trans vv hbz
      go_wp2_with fail
      refine hK.out _ _ (HSS.out _ vv) (fun hHeld => ?_)
      clear hK K
      try simp only [Act.put, lA, lB, lC]
      refine kK 6 q380 ?_
      refine kK 7 q381 ?_
      refine kK 8 q382 ?_
      refine wpAnyH_done (by kernel_rfl) ?_ _
      clear HSS hHeld
      have tabP := tab.below vv
      have kp := kept_block kt vv
      obtain ⟨⟨y0, y1, y2, y3, y4⟩, -⟩ := cells5 kp
      have bp := gr_trans bt vv
      have hbp := Nat.le_trans hbase vv.size
      clear vv tab kt
      go_wp2_with fail
      refine (put_any _ _ q bm l (⟨t, m, p, 0, false⟩ : FE) tabP hsl (by omega) hrng hbp).mono ?_
      rintro r wu ⟨ok, ks', g', rfl, hokv, tabL, hout, hbu⟩
      rw [HPK.out] at hokv
      subst hokv
      rw [if_pos rfl] at hout
      have BL := hide (bp.trans (hbu.mono bx.size))
      have HOUT := hide hout
      clear hout hbu tabP y0 y1 y2 y3 y4
      go_wp2_with fail
      refine (list_any _ _ q bm _ _ tabL).mono ?_
      rintro r w9 ⟨ao9, cap9, rfl, ho9, hr9, hb9⟩
      rw [HOUT.out] at *
      have HO := hide (gown_lt ho9 (base' := w.heap.size) BL.out.size)
      have HR := hide hr9
      have HB := hide (gr_trans BL.out hb9)
      clear ho9 hr9 hb9 tabL
      go_wp2
      go_ret
      exact ⟨_, _, rfl, HO.out, HR.out, HB.out⟩
     exact AllReadyH.nil
    ·have hL : learnF l t m p = l := learn_static (by unfold staticF; rw [hlk]; exact hxs)
     rw [hL]
     clear h1 h2 hlk hL
     go_enter Tryz.func45, Tryz.ntmps45
     go_wp2_with fail
     refine (implFdbOk_all _ _ _ l _ (h.below q0) hn).mono ?_
     rintro r wy ⟨rfl, hby⟩
     rw [H1.out]
     obtain ⟨⟨x0, x1, x2, x3, x4⟩, -⟩ := cells5 (kept_block k0 hby)
     go_wp2_with fail
     refine (implEnt_any (⟨t, m, p, 0, false⟩ : FE) _).mono ?_
     rintro r wx ⟨rfl, hbx⟩
     rw [H2.out]
     have bx := gr_trans q0 (gr_trans hby hbx)
     have kx := kept_block k0 (gr_trans hby hbx)
     clear hby hbx x0 x1 x2 x3 x4
     go_wp2_with fail
     refine (tableOf_any _ _ _ l _ (h.below bx) hn hR).mono ?_
     rintro r wt ⟨q, bm, rfl, tab, hbt⟩
     have bt := gr_trans bx hbt
     have hbase := hbt.size
     have kt := kept_block kx hbt
     obtain ⟨aq, cq, hbox, -⟩ := tab.box
     have hmap := tab.map
     have hS : ∀ W, Below wt.heap.size wt W → (W.cell? ⟨q, 1, none⟩ = some (.map (some bm)) ∧ (W.cell? ⟨w.heap.size, 0, none⟩ = some (.int .i64 t) ∧ W.cell? ⟨w.heap.size, 1, none⟩ = some (.int .i64 m) ∧ W.cell? ⟨w.heap.size, 2, none⟩ = some (.int .i64 p) ∧ W.cell? ⟨w.heap.size, 3, none⟩ = some (.int .i64 0) ∧ W.cell? ⟨w.heap.size, 4, none⟩ = some (.bool false)) ∧ (Instr.lookup 145 (.map (some bm)) (.agg #[.int .i64 t, .int .i64 m, .int .i64 0]) false).run Tryz.prog W = .ok (.agg #[.int .i64 x.t, .int .i64 x.m, .int .i64 x.p, .int .i64 x.a, .bool true]) W) := by
      intro W hW
      refine ⟨(cells2 (kept_block hbox hW)).1.2, (cells5 (kept_block kt hW)).1, ?_⟩
      have := (hmap.kept hW).look false hok0
      rw [ents_look hsl] at this
      rw [HLK.out] at this
      refine this.trans ?_
      show Result.ok (feV x) _ = _
      unfold feV
      rw [hxs]
     have HSS := hide hS
     have vv : Below wt.heap.size wt wt.drew := gr_drew (Below.refl _ _)
     clear hS hbox hmap
     go_wp2_with fail
     refine wp_region_held_drew (S := (fun W => W.cell? ⟨q, 1, none⟩ = some (.map (some bm)) ∧ (W.cell? ⟨w.heap.size, 0, none⟩ = some (.int .i64 t) ∧ W.cell? ⟨w.heap.size, 1, none⟩ = some (.int .i64 m) ∧ W.cell? ⟨w.heap.size, 2, none⟩ = some (.int .i64 p) ∧ W.cell? ⟨w.heap.size, 3, none⟩ = some (.int .i64 0) ∧ W.cell? ⟨w.heap.size, 4, none⟩ = some (.bool false)) ∧ (Instr.lookup 145 (.map (some bm)) (.agg #[.int .i64 t, .int .i64 m, .int .i64 0]) false).run Tryz.prog W = .ok (.agg #[.int .i64 x.t, .int .i64 x.m, .int .i64 x.p, .int .i64 x.a, .bool true]) W)) (by kernel_rfl) (HSS.out _ vv) (fun hHeld => ?_)
     refine kK 0 q374 ?_
     refine kK 1 q375 ?_
     refine kK 2 q376 ?_
     refine kK 3 q377 ?_
     refine kK 4 q378 ?_
     refine tR [5] ?_
     refine AllReadyH.cons (o := q379) rfl (fun K hK => ?_) ?_
     ·go_simp
      refine (firstKey_any (⟨t, m, p, 0, false⟩ : FE) _).mono ?_
      rintro r wz ⟨rfl, hbz⟩
      have vv := gr_trans vv hbz
      go_wp2_with fail
      refine hK.out _ _ (HSS.out _ vv) (fun hHeld => ?_)
      clear hK K
      try simp only [Act.put, lA, lB, lC]
      refine kK 6 q380 ?_
      refine kK 7 q381 ?_
      refine kK 8 q382 ?_
      refine wpAnyH_done (by kernel_rfl) ?_ _
      clear HSS hHeld
      have tabL := tab.below vv
      have BL := hide (gr_trans bt vv)
      have HOUT := hide (out_all (ents_map l))
      clear vv tab
      go_wp2_with fail
      refine (list_any _ _ q bm _ _ tabL).mono ?_
      rintro r w9 ⟨ao9, cap9, rfl, ho9, hr9, hb9⟩
      rw [HOUT.out] at *
      have HO := hide (gown_lt ho9 (base' := w.heap.size) BL.out.size)
      have HR := hide hr9
      have HB := hide (gr_trans BL.out hb9)
      clear ho9 hr9 hb9 tabL
      go_wp2
      go_ret
      exact ⟨_, _, rfl, HO.out, HR.out, HB.out⟩
     exact AllReadyH.nil
   | none =>
    have HLK := hide hlk
    by_cases hf : l.length < 12
    ·have hL : learnF l t m p = insF (⟨t, m, p, 0, false⟩ : FE) l := by
      unfold learnF canLearn
      rw [h1, h2, hlk]
      simp only [decide_eq_true hf, Bool.and_self, if_true]
      exact putF8_sorted hsl
     rw [hL]
     have HPK : Hid (((lookE l t m).isSome || decide (l.length < 12)) = true) := by rw [HLK.out, decide_eq_true hf]; rfl
     clear h1 h2 hlk hL
     go_enter Tryz.func45, Tryz.ntmps45
     go_wp2_with fail
     refine (implFdbOk_all _ _ _ l _ (h.below q0) hn).mono ?_
     rintro r wy ⟨rfl, hby⟩
     rw [H1.out]
     obtain ⟨⟨x0, x1, x2, x3, x4⟩, -⟩ := cells5 (kept_block k0 hby)
     go_wp2_with fail
     refine (implEnt_any (⟨t, m, p, 0, false⟩ : FE) _).mono ?_
     rintro r wx ⟨rfl, hbx⟩
     rw [H2.out]
     have bx := gr_trans q0 (gr_trans hby hbx)
     have kx := kept_block k0 (gr_trans hby hbx)
     clear hby hbx x0 x1 x2 x3 x4
     go_wp2_with fail
     refine (tableOf_any _ _ _ l _ (h.below bx) hn hR).mono ?_
     rintro r wt ⟨q, bm, rfl, tab, hbt⟩
     have bt := gr_trans bx hbt
     have hbase := hbt.size
     have kt := kept_block kx hbt
     obtain ⟨aq, cq, hbox, -⟩ := tab.box
     have hmap := tab.map
     have hS : ∀ W, Below wt.heap.size wt W → (W.cell? ⟨q, 1, none⟩ = some (.map (some bm)) ∧ (W.cell? ⟨w.heap.size, 0, none⟩ = some (.int .i64 t) ∧ W.cell? ⟨w.heap.size, 1, none⟩ = some (.int .i64 m) ∧ W.cell? ⟨w.heap.size, 2, none⟩ = some (.int .i64 p) ∧ W.cell? ⟨w.heap.size, 3, none⟩ = some (.int .i64 0) ∧ W.cell? ⟨w.heap.size, 4, none⟩ = some (.bool false)) ∧ (Instr.lookup 145 (.map (some bm)) (.agg #[.int .i64 t, .int .i64 m, .int .i64 0]) false).run Tryz.prog W = .ok (.agg #[.int .i64 0, .int .i64 0, .int .i64 0, .int .i64 0, .bool false]) W) := by
      intro W hW
      refine ⟨(cells2 (kept_block hbox hW)).1.2, (cells5 (kept_block kt hW)).1, ?_⟩
      have := (hmap.kept hW).look false hok0
      rw [ents_look hsl] at this
      rw [HLK.out] at this
      exact this
     have HSS := hide hS
     have vv : Below wt.heap.size wt wt.drew := gr_drew (Below.refl _ _)
     clear hS hbox hmap
     go_wp2_with fail
     refine wp_region_held_drew (S := (fun W => W.cell? ⟨q, 1, none⟩ = some (.map (some bm)) ∧ (W.cell? ⟨w.heap.size, 0, none⟩ = some (.int .i64 t) ∧ W.cell? ⟨w.heap.size, 1, none⟩ = some (.int .i64 m) ∧ W.cell? ⟨w.heap.size, 2, none⟩ = some (.int .i64 p) ∧ W.cell? ⟨w.heap.size, 3, none⟩ = some (.int .i64 0) ∧ W.cell? ⟨w.heap.size, 4, none⟩ = some (.bool false)) ∧ (Instr.lookup 145 (.map (some bm)) (.agg #[.int .i64 t, .int .i64 m, .int .i64 0]) false).run Tryz.prog W = .ok (.agg #[.int .i64 0, .int .i64 0, .int .i64 0, .int .i64 0, .bool false]) W)) (by kernel_rfl) (HSS.out _ vv) (fun hHeld => ?_)
     refine kK 0 q374 ?_
     refine kK 1 q375 ?_
     refine kK 2 q376 ?_
     refine kK 3 q377 ?_
     refine kK 4 q378 ?_
     refine tR [5] ?_
     refine AllReadyH.cons (o := q379) rfl (fun K hK => ?_) ?_
     ·go_simp
      refine (firstKey_any (⟨t, m, p, 0, false⟩ : FE) _).mono ?_
      rintro r wz ⟨rfl, hbz⟩
      have vv := gr_trans vv hbz
      go_wp2_with fail
      refine hK.out _ _ (HSS.out _ vv) (fun hHeld => ?_)
      clear hK K
      try simp only [Act.put, lA, lB, lC]
      refine kK 6 q380 ?_
      refine kK 7 q381 ?_
      refine kK 8 q382 ?_
      refine wpAnyH_done (by kernel_rfl) ?_ _
      clear HSS hHeld
      have tabP := tab.below vv
      have kp := kept_block kt vv
      obtain ⟨⟨y0, y1, y2, y3, y4⟩, -⟩ := cells5 kp
      have bp := gr_trans bt vv
      have hbp := Nat.le_trans hbase vv.size
      clear vv tab kt
      go_wp2_with fail
      refine (put_any _ _ q bm l (⟨t, m, p, 0, false⟩ : FE) tabP hsl (by omega) hrng hbp).mono ?_
      rintro r wu ⟨ok, ks', g', rfl, hokv, tabL, hout, hbu⟩
      rw [HPK.out] at hokv
      subst hokv
      rw [if_pos rfl] at hout
      have BL := hide (bp.trans (hbu.mono bx.size))
      have HOUT := hide hout
      clear hout hbu tabP y0 y1 y2 y3 y4
      go_wp2_with fail
      refine (list_any _ _ q bm _ _ tabL).mono ?_
      rintro r w9 ⟨ao9, cap9, rfl, ho9, hr9, hb9⟩
      rw [HOUT.out] at *
      have HO := hide (gown_lt ho9 (base' := w.heap.size) BL.out.size)
      have HR := hide hr9
      have HB := hide (gr_trans BL.out hb9)
      clear ho9 hr9 hb9 tabL
      go_wp2
      go_ret
      exact ⟨_, _, rfl, HO.out, HR.out, HB.out⟩
     exact AllReadyH.nil
    ·have hL : learnF l t m p = l := by
      unfold learnF canLearn
      rw [h1, h2, hlk, decide_eq_false hf]
      rfl
     rw [hL]
     have HPK : Hid (((lookE l t m).isSome || decide (l.length < 12)) = false) := by rw [HLK.out, decide_eq_false hf]; rfl
     clear h1 h2 hlk hL
     go_enter Tryz.func45, Tryz.ntmps45
     go_wp2_with fail
     refine (implFdbOk_all _ _ _ l _ (h.below q0) hn).mono ?_
     rintro r wy ⟨rfl, hby⟩
     rw [H1.out]
     obtain ⟨⟨x0, x1, x2, x3, x4⟩, -⟩ := cells5 (kept_block k0 hby)
     go_wp2_with fail
     refine (implEnt_any (⟨t, m, p, 0, false⟩ : FE) _).mono ?_
     rintro r wx ⟨rfl, hbx⟩
     rw [H2.out]
     have bx := gr_trans q0 (gr_trans hby hbx)
     have kx := kept_block k0 (gr_trans hby hbx)
     clear hby hbx x0 x1 x2 x3 x4
     go_wp2_with fail
     refine (tableOf_any _ _ _ l _ (h.below bx) hn hR).mono ?_
     rintro r wt ⟨q, bm, rfl, tab, hbt⟩
     have bt := gr_trans bx hbt
     have hbase := hbt.size
     have kt := kept_block kx hbt
     obtain ⟨aq, cq, hbox, -⟩ := tab.box
     have hmap := tab.map
     have hS : ∀ W, Below wt.heap.size wt W → (W.cell? ⟨q, 1, none⟩ = some (.map (some bm)) ∧ (W.cell? ⟨w.heap.size, 0, none⟩ = some (.int .i64 t) ∧ W.cell? ⟨w.heap.size, 1, none⟩ = some (.int .i64 m) ∧ W.cell? ⟨w.heap.size, 2, none⟩ = some (.int .i64 p) ∧ W.cell? ⟨w.heap.size, 3, none⟩ = some (.int .i64 0) ∧ W.cell? ⟨w.heap.size, 4, none⟩ = some (.bool false)) ∧ (Instr.lookup 145 (.map (some bm)) (.agg #[.int .i64 t, .int .i64 m, .int .i64 0]) false).run Tryz.prog W = .ok (.agg #[.int .i64 0, .int .i64 0, .int .i64 0, .int .i64 0, .bool false]) W) := by
      intro W hW
      refine ⟨(cells2 (kept_block hbox hW)).1.2, (cells5 (kept_block kt hW)).1, ?_⟩
      have := (hmap.kept hW).look false hok0
      rw [ents_look hsl] at this
      rw [HLK.out] at this
      exact this
     have HSS := hide hS
     have vv : Below wt.heap.size wt wt.drew := gr_drew (Below.refl _ _)
     clear hS hbox hmap
     go_wp2_with fail
     refine wp_region_held_drew (S := (fun W => W.cell? ⟨q, 1, none⟩ = some (.map (some bm)) ∧ (W.cell? ⟨w.heap.size, 0, none⟩ = some (.int .i64 t) ∧ W.cell? ⟨w.heap.size, 1, none⟩ = some (.int .i64 m) ∧ W.cell? ⟨w.heap.size, 2, none⟩ = some (.int .i64 p) ∧ W.cell? ⟨w.heap.size, 3, none⟩ = some (.int .i64 0) ∧ W.cell? ⟨w.heap.size, 4, none⟩ = some (.bool false)) ∧ (Instr.lookup 145 (.map (some bm)) (.agg #[.int .i64 t, .int .i64 m, .int .i64 0]) false).run Tryz.prog W = .ok (.agg #[.int .i64 0, .int .i64 0, .int .i64 0, .int .i64 0, .bool false]) W)) (by kernel_rfl) (HSS.out _ vv) (fun hHeld => ?_)
     refine kK 0 q374 ?_
     refine kK 1 q375 ?_
     refine kK 2 q376 ?_
     refine kK 3 q377 ?_
     refine kK 4 q378 ?_
     refine tR [5] ?_
     refine AllReadyH.cons (o := q379) rfl (fun K hK => ?_) ?_
     ·go_simp
      refine (firstKey_any (⟨t, m, p, 0, false⟩ : FE) _).mono ?_
      rintro r wz ⟨rfl, hbz⟩
      have vv := gr_trans vv hbz
      go_wp2_with fail
      refine hK.out _ _ (HSS.out _ vv) (fun hHeld => ?_)
      clear hK K
      try simp only [Act.put, lA, lB, lC]
      refine kK 6 q380 ?_
      refine kK 7 q381 ?_
      refine kK 8 q382 ?_
      refine wpAnyH_done (by kernel_rfl) ?_ _
      clear HSS hHeld
      have tabP := tab.below vv
      have kp := kept_block kt vv
      obtain ⟨⟨y0, y1, y2, y3, y4⟩, -⟩ := cells5 kp
      have bp := gr_trans bt vv
      have hbp := Nat.le_trans hbase vv.size
      clear vv tab kt
      go_wp2_with fail
      refine (put_any _ _ q bm l (⟨t, m, p, 0, false⟩ : FE) tabP hsl (by omega) hrng hbp).mono ?_
      rintro r wu ⟨ok, ks', g', rfl, hokv, tabL, hout, hbu⟩
      rw [HPK.out] at hokv
      subst hokv
      rw [if_neg Bool.false_ne_true] at hout
      have BL := hide (bp.trans (hbu.mono bx.size))
      have HOUT := hide hout
      clear hout hbu tabP y0 y1 y2 y3 y4
      go_wp2_with fail
      refine (list_any _ _ q bm _ _ tabL).mono ?_
      rintro r w9 ⟨ao9, cap9, rfl, ho9, hr9, hb9⟩
      rw [HOUT.out] at *
      have HO := hide (gown_lt ho9 (base' := w.heap.size) BL.out.size)
      have HR := hide hr9
      have HB := hide (gr_trans BL.out hb9)
      clear ho9 hr9 hb9 tabL
      go_wp2
      go_ret
      exact ⟨_, _, rfl, HO.out, HR.out, HB.out⟩
     exact AllReadyH.nil

theorem BrOwn.grownF {w w' : World} {base : Nat} {a : Option Addr} {n c : Nat} {fa : Option Addr} {fn fc : Nat} {ra : Option Addr} {rn rc : Nat} {oa : Option Addr} {on oc : Nat} {B : BR} (h : BrOwn w base a n c fa fn fc ra rn rc oa on oc B) {X : Nat} {cs : Array Value} (hX : w.heap[X]? = some (.cells cs 33)) (hg : w.grownBy w' (some X)) : BrOwn w' base a n c fa fn fc ra rn rc oa on oc B :=
 ⟨gown_other h.ports hg (box_ne h.ports hX (by decide)), gown_other h.f hg (box_ne h.f hX (by decide)), ⟨gown_other h.v.rows hg (box_ne h.v.rows hX (by decide)), gown_other h.v.own hg (box_ne h.v.own hX (by decide)), h.v.i64⟩⟩

set_option maxRecDepth 100000 in
set_option maxHeartbeats 8000000 in
theorem drawSent_any (a0 : Option Addr) (l0 c0 : Nat) (z0 : List Int) (w : World) (h0 : Row w a0 l0 c0 z0) (hs : l0 ≤ 1048576) :
  Calls Tryz.prog 7 #[.slice a0 l0 c0] w fun e w' => ∃ (m : Nat) (a : Option Addr) (c : Nat) (fa : Option Addr) (fn fc : Nat) (ra : Option Addr) (rn rc : Nat) (oa : Option Addr) (on oc : Nat) (B : BR) (port fd fs ft : Int) (ao : Option Addr) (nf cf : Nat) (zs : List Int), e = .returned (.tuple #[.agg #[.int .i64 B.id, .string B.name, .slice a m c, .slice fa fn fc, .slice ra rn rc, .slice oa on oc, .int .i64 B.ticks, .int .i64 B.parse, .int .i64 B.word, .int .i64 B.drops, .int .i64 B.vers], .int .i64 port, .agg #[.int .i64 fd, .int .i64 fs, .int .i64 ft, .slice ao nf cf]]) ∧ BrOwn w' w.heap.size a m c fa fn fc ra rn rc oa on oc B ∧ DIn B m ∧ (1 ≤ m ∧ m ≤ 4) ∧ (0 ≤ port ∧ port < (m : Int)) ∧ ((0 ≤ fd ∧ fd ≤ 14) ∧ (11 ≤ fs ∧ fs ≤ 14) ∧ (0 ≤ ft ∧ ft ≤ 3) ∧ nf ≤ 9 ∧ zs.length = nf) ∧ w'.ownsRow w.heap.size 5 1 (.slice ao nf cf) nf (cB zs) ∧ Byt zs ∧ Below w.heap.size w w' := by
 generalize hwR : w.alloc (Obj.cells #[.int .i64 0, .string ⟨#[]⟩, .slice none 0 0, .slice none 0 0, .slice none 0 0, .slice none 0 0, .int .i64 0, .int .i64 0, .int .i64 0, .int .i64 0, .int .i64 0] 31) = wR
 have bR : Below w.heap.size w wR := by rw [← hwR]; exact below_one _ _
 have zR : w.heap.size < wR.heap.size := by rw [← hwR]; simp
 have kR : wR.heap[w.heap.size]? = some (.cells #[.int .i64 0, .string ⟨#[]⟩, .slice none 0 0, .slice none 0 0, .slice none 0 0, .slice none 0 0, .int .i64 0, .int .i64 0, .int .i64 0, .int .i64 0, .int .i64 0] 31) := by rw [← hwR]; exact block_last _ _
 have bb := bR
 generalize hwQ : wR.alloc (Obj.cells #[.int .i64 0, .int .i64 0, .int .i64 0, .slice none 0 0] 33) = wQ
 have bQ : Below wR.heap.size wR wQ := by rw [← hwQ]; exact below_one _ _
 have zQ : wR.heap.size < wQ.heap.size := by rw [← hwQ]; simp
 have kQ : wQ.heap[wR.heap.size]? = some (.cells #[.int .i64 0, .int .i64 0, .int .i64 0, .slice none 0 0] 33) := by rw [← hwQ]; exact block_last _ _
 have kR := kept_block kR bQ
 have bb := gr_trans bb bQ
 go_enter Tryz.func7, Tryz.ntmps7
 go_wp2_with fail
 refine (new_any a0 l0 c0 z0 _ (h0.below bb) hs).mono ?_
 rintro e w2 ⟨rfl, hc, hb2⟩
 have hlt := hc.lt
 have kR := kept_block kR hb2
 have kQ := kept_block kQ hb2
 have bb := gr_trans bb hb2
 clear hb2 bR hwR bQ hwQ
 generalize hC0 : wQ.heap.size = C0 at *
 go_wp2_with fail
 refine (l11Draw_any C0 a0 l0 c0 z0 _ hc).mono ?_
 rintro e w3 ⟨m, a, c, fa, fn, fc, ra, rn, rc, oa, on, oc, B, rfl, own, din, h1, h4, wt⟩
 have hc3 := wt.cur
 have hlt3 := hc3.lt
 have hsz2 := bb.size
 have kR := kept_grown kR wt.grown (fun i e => by cases e; omega)
 have kQ := kept_grown kQ wt.grown (fun i e => by cases e; omega)
 have bb := bb.trans (below_of_grown wt.grown (by omega) (by omega))
 have hsz23 := wt.grown.size
 clear wt
 generalize hwX : w3.alloc (Obj.cells #[.int .i64 B.id, .string B.name, .slice a m c, .slice fa fn fc, .slice ra rn rc, .slice oa on oc, .int .i64 B.ticks, .int .i64 B.parse, .int .i64 B.word, .int .i64 B.drops, .int .i64 B.vers] 31) = wX
 have bX : Below w3.heap.size w3 wX := by rw [← hwX]; exact below_one _ _
 have zX : w3.heap.size < wX.heap.size := by rw [← hwX]; simp
 have kX : wX.drew.heap[w3.heap.size]? = some (.cells #[.int .i64 B.id, .string B.name, .slice a m c, .slice fa fn fc, .slice ra rn rc, .slice oa on oc, .int .i64 B.ticks, .int .i64 B.parse, .int .i64 B.word, .int .i64 B.drops, .int .i64 B.vers] 31) := by rw [← hwX]; exact block_last _ _
 have own := own.below (gr_drew bX)
 have kR : wX.drew.heap[w.heap.size]? = some (.cells #[.int .i64 0, .string ⟨#[]⟩, .slice none 0 0, .slice none 0 0, .slice none 0 0, .slice none 0 0, .int .i64 0, .int .i64 0, .int .i64 0, .int .i64 0, .int .i64 0] 31) := kept_block kR (gr_drew bX)
 have kQ : wX.drew.heap[wR.heap.size]? = some (.cells #[.int .i64 0, .int .i64 0, .int .i64 0, .slice none 0 0] 33) := kept_block kQ (gr_drew bX)
 have hcX := hc3.below (gr_drew bX)
 have bb : Below w.heap.size w wX.drew := gr_trans bb (gr_drew bX)
 have nXR : w3.heap.size ≠ w.heap.size := by omega
 have nXQ : w3.heap.size ≠ wR.heap.size := by omega
 have nQR : wR.heap.size ≠ w.heap.size := by omega
 have nRQ : w.heap.size ≠ wR.heap.size := by omega
 have hzd : wX.drew.heap.size = wX.heap.size := rfl
 have HS := hide (cells11 kX)
 go_wp2_with fail
 clear hwX
 refine wp_region_held_drew (S := (fun W => (W.cell? ⟨w3.heap.size, 0, none⟩ = some (.int .i64 B.id) ∧ W.cell? ⟨w3.heap.size, 1, none⟩ = some (.string B.name) ∧ W.cell? ⟨w3.heap.size, 2, none⟩ = some (.slice a m c) ∧ W.cell? ⟨w3.heap.size, 3, none⟩ = some (.slice fa fn fc) ∧ W.cell? ⟨w3.heap.size, 4, none⟩ = some (.slice ra rn rc) ∧ W.cell? ⟨w3.heap.size, 5, none⟩ = some (.slice oa on oc) ∧ W.cell? ⟨w3.heap.size, 6, none⟩ = some (.int .i64 B.ticks) ∧ W.cell? ⟨w3.heap.size, 7, none⟩ = some (.int .i64 B.parse) ∧ W.cell? ⟨w3.heap.size, 8, none⟩ = some (.int .i64 B.word) ∧ W.cell? ⟨w3.heap.size, 9, none⟩ = some (.int .i64 B.drops) ∧ W.cell? ⟨w3.heap.size, 10, none⟩ = some (.int .i64 B.vers)))) (by kernel_rfl) (HS.out) (fun hHeld => ?_)
 refine kK 0 ⟨some 11, .load 31 (.tmp 6), 31, "l12_forward.go:77", #[], none⟩ ?_
 refine kK 1 ⟨some 12, .move (.tmp 5), 71, "l12_forward.go:77", #[], none⟩ ?_
 refine kK 2 ⟨some 13, .fieldAddr 31 (.tmp 6) 2, 0, "l12_forward.go:77", #[], none⟩ ?_
 refine kK 3 ⟨some 14, .load 24 (.tmp 13), 24, "l12_forward.go:77", #[⟨2, .data⟩], none⟩ ?_
 refine kK 4 ⟨some 15, .call ⟨.builtin .len, #[.tmp 14], #[24]⟩, 3, "l12_forward.go:77", #[⟨3, .data⟩], none⟩ ?_
 refine kK 6 ⟨some 17, .move (.tmp 5), 71, "l12_forward.go:77", #[], none⟩ ?_
 refine tR [5] ?_
 refine AllReadyH.cons (o := ⟨some 16, .call ⟨.value (.func 37), #[.tmp 12, .tmp 15], #[71, 3]⟩, 3, "l12_forward.go:77", #[⟨1, .data⟩, ⟨4, .data⟩], none⟩) rfl (fun K hK => ?_) ?_
 ·go_simp
  refine (below_any C0 a0 l0 c0 z0 (m : Int) _ hcX (by omega)).mono ?_
  rintro e w5 ⟨port, rfl, hp0, hp1, -, wt⟩
  have hp1 := hp1 (by omega)
  have hcX := wt.cur
  have own := own.apart wt.grown (fun i e => by cases e; exact hlt)
  have kX := kept_grown kX wt.grown (fun i e => by cases e; omega)
  have kR := kept_grown kR wt.grown (fun i e => by cases e; omega)
  have kQ := kept_grown kQ wt.grown (fun i e => by cases e; omega)
  have bb := bb.trans (below_of_grown wt.grown (by omega) (by omega))
  have hsz5 := wt.grown.size
  have HS := hide (cells11 kX)
  clear wt
  go_wp2_with fail
  refine hK.out _ _ (HS.out) (fun hHeld => ?_)
  clear hK K
  try simp only [Act.put, lA, lB, lC]
  refine tR [7] ?_
  refine AllReadyH.cons (o := ⟨some 18, .call ⟨.value (.func 38), #[.tmp 17], #[71]⟩, 33, "l12_forward.go:77", #[⟨6, .data⟩, ⟨5, .chain⟩], none⟩) rfl (fun K hK => ?_) ?_
  ·go_simp
   refine (l6Draw_good C0 a0 l0 c0 z0 _ hcX).mono ?_
   rintro e w6 ⟨fd, fs, ft, ao, nf, cf, zs, rfl, hfd, hfs, hft, hnf, hzl, hby, ofr, wt⟩
   have ofr := own5_lt ofr (base' := w.heap.size) bb.size
   have hcX := wt.cur
   have own := own.apart wt.grown (fun i e => by cases e; exact hlt)
   have kX := kept_grown kX wt.grown (fun i e => by cases e; omega)
   have kR := kept_grown kR wt.grown (fun i e => by cases e; omega)
   have kQ := kept_grown kQ wt.grown (fun i e => by cases e; omega)
   have bb := bb.trans (below_of_grown wt.grown (by omega) (by omega))
   have HS := hide (cells11 kX)
   clear wt
   go_wp2_with fail
   refine hK.out _ _ (HS.out) (fun hHeld => ?_)
   clear hK K
   try simp only [Act.put, lA, lB, lC]
   refine tR [8] ?_
   refine AllReadyH.cons (o := ⟨none, .store 31 (.tmp 2) (.tmp 11), 0, "l12_forward.go:77", #[⟨0, .data⟩, ⟨7, .chain⟩, ⟨0, .phase⟩, { on := 1, ground := Ground.textOnly Departure.lateStores }, { on := 2, ground := Ground.textOnly Departure.lateStores }, { on := 3, ground := Ground.textOnly Departure.lateStores }, { on := 4, ground := Ground.textOnly Departure.lateStoresUnsure }, { on := 5, ground := Ground.textOnly Departure.lateStoresUnsure }, { on := 6, ground := Ground.textOnly Departure.lateStores }, { on := 7, ground := Ground.textOnly Departure.lateStoresUnsure }], none⟩) rfl (fun K hK => ?_) ?_
   ·obtain ⟨u0, u1, u2, u3, u4, u5, u6, u7, u8, u9, u10⟩ := cells11 kR
    have fr := frozen8 kR
    have fr0 := fr 0
    have fr1 := fr 1
    have fr2 := fr 2
    have fr3 := fr 3
    have fr4 := fr 4
    have fr5 := fr 5
    have fr6 := fr 6
    have fr7 := fr 7
    have fr8 := fr 8
    have fr9 := fr 9
    have fr10 := fr 10
    go_simp
    clear u0 u1 u2 u3 u4 u5 u6 u7 u8 u9 u10 fr0 fr1 fr2 fr3 fr4 fr5 fr6 fr7 fr8 fr9 fr10 fr
    refine made_set11 (K := K _) kR _ _ _ _ _ _ _ _ _ _ _ (fun wq kN hg => ?_)
    have own := own.grownBox kR hg
    have ofr := gown_other ofr hg (box_ne ofr kR (by decide))
    have kX := kept_grown kX hg (fun i e => by cases e; exact nXR.symm)
    have kQ := kept_grown kQ hg (fun i e => by cases e; exact nQR.symm)
    have bb := bb.grown hg bb.size (fun i e => by cases e; exact Nat.le_refl _)
    have kR := kN
    clear kN hg
    have HS := hide (cells11 kX)
    refine hK.out _ _ (HS.out) (fun hHeld => ?_)
    clear hK K
    try simp only [Act.put, lA, lB, lC]
    refine kK 9 ⟨some 3, .assign (.tmp 16), 3, "l12_forward.go:77", #[⟨5, .data⟩, ⟨8, .chain⟩, ⟨0, .phase⟩, ⟨1, .phase⟩, ⟨2, .phase⟩, ⟨3, .phase⟩, ⟨4, .phase⟩, ⟨5, .phase⟩, { on := 6, ground := Ground.textOnly Departure.lateStores }, { on := 7, ground := Ground.textOnly Departure.lateStoresUnsure }, ⟨8, .phase⟩], none⟩ ?_
    refine tR [10] ?_
    refine AllReadyH.cons (o := ⟨none, .store 33 (.tmp 4) (.tmp 18), 0, "l12_forward.go:77", #[⟨7, .data⟩, ⟨9, .chain⟩, ⟨0, .phase⟩, ⟨1, .phase⟩, ⟨2, .phase⟩, ⟨3, .phase⟩, ⟨4, .phase⟩, ⟨5, .phase⟩, ⟨6, .phase⟩, ⟨7, .phase⟩, ⟨8, .phase⟩, ⟨9, .phase⟩], none⟩) rfl (fun K hK => ?_) ?_
    ·obtain ⟨⟨u0, u1, u2, u3⟩, f0, f1, f2, f3⟩ := cells4 kQ
     go_simp
     clear u0 u1 u2 u3 f0 f1 f2 f3
     refine made_set4 (K := K _) kQ _ _ _ _ (fun wq kN hg => ?_)
     have own := own.grownF kQ hg
     have ofr := gown_other ofr hg (box_ne ofr kQ (by decide))
     have kX := kept_grown kX hg (fun i e => by cases e; exact nXQ.symm)
     have kR := kept_grown kR hg (fun i e => by cases e; exact nRQ.symm)
     have bb := bb.grown hg bb.size (fun i e => by cases e; omega)
     have kQ := kN
     clear kN hg
     have HS := hide (cells11 kX)
     refine hK.out _ _ (HS.out) (fun hHeld => ?_)
     clear hK K
     try simp only [Act.put, lA, lB, lC]
     refine wpAnyH_done (by kernel_rfl) ?_ _
     have HO := hide (own.lt (base' := w.heap.size) hsz2)
     have HB := hide bb
     have HD := hide din
     have HP := hide (And.intro hp0 hp1)
     have HF := hide (And.intro ofr hby)
     have HR := hide (And.intro hfd (And.intro hfs (And.intro hft (And.intro hnf hzl))))
     obtain ⟨u0, u1, u2, u3, u4, u5, u6, u7, u8, u9, u10⟩ := cells11 kR
     obtain ⟨⟨q0, q1, q2, q3⟩, -⟩ := cells4 kQ
     clear HS hHeld own bb kR kX kQ din hp0 hp1 ofr hby hfd hfs hft hnf hzl hcX
     go_wp2
     exact bodyPost_ret (v := .tuple #[.agg #[.int .i64 B.id, .string B.name, .slice a m c, .slice fa fn fc, .slice ra rn rc, .slice oa on oc, .int .i64 B.ticks, .int .i64 B.parse, .int .i64 B.word, .int .i64 B.drops, .int .i64 B.vers], .int .i64 port, .agg #[.int .i64 fd, .int .i64 fs, .int .i64 ft, .slice ao nf cf]]) (by simp [results, Tryz.results7, go_sem, *]) rfl ⟨m, a, c, fa, fn, fc, ra, rn, rc, oa, on, oc, B, port, fd, fs, ft, ao, nf, cf, zs, rfl, HO.out, HD.out, ⟨h1, h4⟩, HP.out, HR.out, HF.out.1, HF.out.2, HB.out⟩
    exact AllReadyH.nil
   exact AllReadyH.nil
  exact AllReadyH.nil
 exact AllReadyH.nil

theorem din_ok {B : BR} {m : Nat} (h : DIn B m) (h1 : 1 ≤ m) (h4 : m ≤ 4) : bridgeOk B = true := by
 have hn := h.name
 have hid := h.id
 have hz := h.z
 have ht := h.t
 have hv := h.n
 refine bridgeOk_of ⟨by rw [List.all_eq_true]; exact h.ports, ?_, by omega, ?_, h.f, by rw [h.len]; exact h.v.ok, ?_, ?_, ?_, ?_, ?_⟩
 ·unfold in3; simp; omega
 ·rw [h.len]; unfold in3; simp; omega
 all_goals (rw [in1m_iff]; omega)

theorem din_sizes {w : World} {a : Option Addr} {m c : Nat} {fa : Option Addr} {fn fc : Nat} {ra : Option Addr} {rn rc : Nat} {oa : Option Addr} {on oc : Nat} {B : BR} (h : DIn B m) (h4 : m ≤ 4) (r : BrRow w a m c fa fn fc ra rn rc oa on oc B) : m ≤ 1048576 ∧ fn ≤ 1048576 ∧ rn ≤ 1048576 ∧ on ≤ 1048576 := by
 have e2 := r.f.size
 have e3 := r.v.rows.size
 have e4 := r.v.own.size
 have d2 := ok_len h.f
 have d3 := h.v.len
 have d4 := h.v.own
 omega

theorem outTo_none (v : VT) (id m d s : Int) (z : List Int) : ∀ n : Nat, (∀ i : Nat, i < n → bitOf m (i : Int) = false) → outTo v id m d s z n = []
 | 0, _ => rfl
 | n + 1, h => by
  rw [outTo, outTo_none v id m d s z n (fun i hi => h i (by omega)), h n (by omega)]
  rfl

theorem outTo_single (v : VT) (id m d s : Int) (z : List Int) (k : Nat) : ∀ n : Nat, k < n → (∀ i : Nat, i < n → bitOf m (i : Int) = decide (i = k)) → outTo v id m d s z n = [⟨(k : Int), d, s, shownTag v id (k : Int), z⟩]
 | 0, h, _ => by omega
 | n + 1, h, hb => by
  by_cases e : k = n
  ·subst e
   rw [outTo, outTo_none v id m d s z k (fun i hi => by rw [hb i (by omega)]; exact decide_eq_false (by omega)), hb k (by omega)]
   simp
  ·rw [outTo, outTo_single v id m d s z k n (by omega) (fun i hi => hb i (by omega)), hb n (by omega), decide_eq_false (fun h => e h.symm)]
   simp

theorem class_tag {v : VT} {j : Nat} {id : Int} (h0 : ¬ id = 0) (hj : j < v.own.length) (hb : bitOf (egressOf v id) (j : Int) = true) : classOf v (j : Int) id = (id, true) := by
 have hc : classId v (j : Int) id = id := by unfold classId; rw [if_neg h0]
 unfold classOf
 rw [hc, hb, decide_eq_true (show (0 : Int) ≤ (j : Int) by omega), decide_eq_true (show (j : Int) ≤ (v.own.length : Int) - 1 by omega)]
 rfl

theorem look_kept {l : List FE} {t m m' p : Int} {k : Nat} (hF : fdbOk l = true) (hl : lookUp l t m = (k : Int)) (hne : ¬ m = m') : lookUp (learnF l t m' p) t m = (k : Int) := by
 unfold lookUp at hl
 cases he : lookE l t m with
 | none => rw [he] at hl; simp only at hl; omega
 | some e =>
  rw [he] at hl
  simp only at hl
  have hm : e ∈ l := by unfold lookE at he; exact List.mem_of_find?_eq_some he
  have hb : e.t = t ∧ e.m = m := by
   unfold lookE at he
   have := List.find?_some he
   simp only [both, Bool.and_eq_true, beq_iff_eq] at this
   exact this
  have := learn_others hF t m' p hm (by rw [hb.1, hb.2]; exact fun h => hne h.2)
  rw [hb.1, hb.2] at this
  rw [this, hl]

theorem back_out {B : BR} {k j : Nat} {t s : Int} (hok : bridgeOk B = true) (hlet : letB B (k : Int) t = true) (hk : k < B.ports.length) (hj : j < B.ports.length) (hs : 1 ≤ s ∧ s ≤ 99)
  (hjs : bitOf (sendsOf B.id B.ports) (j : Int) = true) (hje : bitOf (egressOf B.v (classOf B.v (k : Int) t).1) (j : Int) = true) (hjk : ¬ (j : Int) = (k : Int)) (hv : I64 (egressOf B.v (classOf B.v (k : Int) t).1)) (hs7 : ¬ s = 77) (n : Int) (hnn : in1m n = true)
  (hlk : lookUp (learnF B.f (classOf B.v (k : Int) t).1 s (k : Int)) (classOf B.v (k : Int) t).1 s = (k : Int)) :
  ∃ g, fwdO { B with f := learnF B.f (classOf B.v (k : Int) t).1 s (k : Int), vers := n } (j : Int) s 77 (classOf B.v (k : Int) t).1 0 [] = [⟨(k : Int), s, 77, g, []⟩] := by
 have hcl := (Bool.and_eq_true_iff.1 hlet).2
 have hks := (Bool.and_eq_true_iff.1 hlet).1
 obtain ⟨hi1, hi2, hke⟩ := class_in hok hcl
 have hF := (bridgeOk_parts hok).2.2.2.2.1
 have hn6 := (ok_bounds hok).1
 have hown := (vtab_own6 (bridgeOk_parts hok).2.2.2.2.2.1).1
 generalize hid : (classOf B.v (k : Int) t).1 = id at *
 have hFL := learn_ok hF id s (k : Int)
 generalize hFLe : learnF B.f id s (k : Int) = FL at *
 have hF2 := learn_ok hFL id 77 (j : Int)
 have hct : classOf B.v (j : Int) id = (id, true) := class_tag (by omega) (by omega) hje
 have hto : toB (learnF FL id 77 (j : Int)) id s = (k : Int) := by
  unfold toB
  rw [if_neg (show ¬ s = 0 by omega)]
  exact look_kept hFL hlk hs7
 refine ⟨shownTag B.v id (k : Int), ?_⟩
 have hT : ({ B with f := FL, vers := n } : BR).ports.length = B.ports.length := rfl
 unfold fwdO
 by_cases hth : thereB { B with f := FL, vers := n } (j : Int) = true
 ·have hFk : okF s 77 id 0 = true := by unfold okF; simp; omega
  have hlb : letB { B with f := FL, vers := n } (j : Int) id = true := by
   unfold letB
   show (bitOf (sendsOf B.id B.ports) (j : Int) && (classOf B.v (j : Int) id).2) = true
   rw [hjs, hct]
   rfl
  rw [hth, hFk, hlb, Int.toNat_natCast]
  show outTo B.v (classOf B.v (j : Int) id).1 (waysB { B with f := FL, vers := n } j (classOf B.v (j : Int) id).1 s (learnF FL (classOf B.v (j : Int) id).1 77 (j : Int))) s 77 [] B.ports.length = _
  rw [hct]
  simp only
  refine outTo_single _ _ _ _ _ _ k _ hk (fun i hi => ?_)
  rw [ways_bit _ _ _ _ _ hF2 i (by omega), may_bit { B with f := FL, vers := n } j id i (by omega) (by omega) hv, hto]
  show (bitOf (sendsOf B.id B.ports) (i : Int) && bitOf (egressOf B.v id) (i : Int) && !decide (i = j) && (decide ((k : Int) < 0) || decide ((k : Int) = (i : Int)))) = _
  rw [decide_eq_false (show ¬ (k : Int) < 0 by omega), Bool.false_or]
  by_cases e : i = k
  ·subst e
   rw [hks, hke, decide_eq_false (show ¬ i = j by omega), decide_eq_true rfl, decide_eq_true rfl]
   rfl
  ·rw [decide_eq_false (show ¬ (k : Int) = (i : Int) by omega), Bool.and_false, decide_eq_false e]
 ·refine absurd ?_ hth
  obtain ⟨p1, p2, p3, p4, p5, p6, p7, p8, p9, p10, p11⟩ := bridgeOk_parts hok
  have hb2 : bridgeOk { B with f := FL, vers := n } = true := bridgeOk_of ⟨p1, p2, p3, p4, hFL, p6, p7, p8, p9, p10, hnn⟩
  unfold thereB
  rw [hb2, hT]
  simp
  omega

end Go.Proofs.YtddalpglihhipaaGreat
