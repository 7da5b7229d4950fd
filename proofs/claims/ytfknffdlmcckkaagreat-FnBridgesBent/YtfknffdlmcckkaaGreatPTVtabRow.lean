/-
  A row put in its place, as the specification has it.
-/
import Derived.Test.YtfknffdlmcckkaaGreatPTKW
import Derived.Test.YtfknffdlmcckkaaGreatPTK01
import Derived.Test.YtfknffdlmcckkaaGreatPTK10
namespace Go.Proofs.YtfknffdlmcckkaaGreat
open Go.RowKit

abbrev q88 : Oper := ⟨some 20, .move (.tmp 6), 4, "l09_vlan.go:87", #[], none⟩
abbrev q89 : Oper := ⟨some 21, .unOp .not 4 (.tmp 20), 4, "l09_vlan.go:87", #[⟨0, .data⟩], none⟩
abbrev q90 : Oper := ⟨some 22, .move (.tmp 21), 4, "l09_vlan.go:87", #[⟨1, .data⟩], none⟩
abbrev q91 : Oper := ⟨some 23, .fieldAddr 29 (.tmp 2) 0, 0, "l09_vlan.go:87", #[⟨2, .guard⟩], some (2, true)⟩
abbrev q92 : Oper := ⟨some 24, .load 26 (.tmp 23), 26, "l09_vlan.go:87", #[⟨3, .data⟩, ⟨2, .guard⟩], some (2, true)⟩
abbrev q93 : Oper := ⟨some 25, .move (.tmp 7), 3, "l09_vlan.go:87", #[⟨2, .guard⟩], some (2, true)⟩
abbrev q94 : Oper := ⟨some 26, .indexAddr 26 (.tmp 24) (.tmp 25), 0, "l09_vlan.go:87", #[⟨4, .data⟩, ⟨5, .data⟩, ⟨2, .guard⟩], some (2, true)⟩
abbrev q95 : Oper := ⟨some 27, .fieldAddr 81 (.tmp 26) 0, 0, "l09_vlan.go:87", #[⟨6, .data⟩, ⟨2, .guard⟩], some (2, true)⟩
abbrev q96 : Oper := ⟨some 28, .load 3 (.tmp 27), 3, "l09_vlan.go:87", #[⟨7, .data⟩, ⟨2, .guard⟩], some (2, true)⟩
abbrev q97 : Oper := ⟨some 29, .fieldAddr 81 (.tmp 3) 0, 0, "l09_vlan.go:87", #[⟨2, .guard⟩], some (2, true)⟩
abbrev q98 : Oper := ⟨some 30, .load 3 (.tmp 29), 3, "l09_vlan.go:87", #[⟨9, .data⟩, ⟨2, .guard⟩], some (2, true)⟩
abbrev q99 : Oper := ⟨some 31, .binOp .geq 3 (.tmp 28) (.tmp 30) 3, 4, "l09_vlan.go:87", #[⟨8, .data⟩, ⟨10, .data⟩, ⟨2, .guard⟩], some (2, true)⟩
abbrev q100 : Oper := ⟨some 32, .pick (.tmp 22) (.tmp 31) (.const (.bool false)), 4, "l09_vlan.go:87", #[⟨2, .data⟩, ⟨11, .data⟩], none⟩
abbrev q101 : Oper := ⟨some 39, .fieldAddr 29 (.tmp 2) 0, 0, "l09_vlan.go:91", #[], none⟩
abbrev q102 : Oper := ⟨some 40, .load 26 (.tmp 39), 26, "l09_vlan.go:91", #[⟨0, .data⟩], none⟩
abbrev q103 : Oper := ⟨some 41, .move (.tmp 7), 3, "l09_vlan.go:91", #[], none⟩
abbrev q104 : Oper := ⟨some 42, .indexAddr 26 (.tmp 40) (.tmp 41), 0, "l09_vlan.go:91", #[⟨1, .data⟩, ⟨2, .data⟩], none⟩
abbrev q105 : Oper := ⟨some 43, .fieldAddr 81 (.tmp 42) 0, 0, "l09_vlan.go:91", #[⟨3, .data⟩], none⟩
abbrev q106 : Oper := ⟨some 44, .load 3 (.tmp 43), 3, "l09_vlan.go:91", #[⟨4, .data⟩], none⟩
abbrev q107 : Oper := ⟨some 45, .fieldAddr 81 (.tmp 3) 0, 0, "l09_vlan.go:91", #[], none⟩
abbrev q108 : Oper := ⟨some 46, .load 3 (.tmp 45), 3, "l09_vlan.go:91", #[⟨6, .data⟩], none⟩
abbrev q109 : Oper := ⟨some 47, .binOp .neq 3 (.tmp 44) (.tmp 46) 3, 4, "l09_vlan.go:91", #[⟨5, .data⟩, ⟨7, .data⟩], none⟩
abbrev q110 : Oper := ⟨some 48, .fieldAddr 29 (.tmp 5) 0, 0, "l09_vlan.go:92", #[], none⟩
abbrev q111 : Oper := ⟨some 50, .fieldAddr 29 (.tmp 2) 0, 0, "l09_vlan.go:92", #[], none⟩
abbrev q112 : Oper := ⟨some 51, .load 26 (.tmp 50), 26, "l09_vlan.go:92", #[⟨2, .data⟩], none⟩
abbrev q113 : Oper := ⟨some 52, .move (.tmp 7), 3, "l09_vlan.go:92", #[], none⟩
abbrev q114 : Oper := ⟨some 53, .indexAddr 26 (.tmp 51) (.tmp 52), 0, "l09_vlan.go:92", #[⟨3, .data⟩, ⟨4, .data⟩], none⟩
abbrev q115 : Oper := ⟨some 54, .load 81 (.tmp 53), 81, "l09_vlan.go:92", #[⟨5, .data⟩], none⟩
abbrev q116 : Oper := ⟨some 49, .load 26 (.tmp 48), 26, "l09_vlan.go:92", #[⟨0, .data⟩], none⟩
abbrev q117 : Oper := ⟨some 55, .buildSlice 26 1 #[(0, .tmp 54)], 26, "l09_vlan.go:92", #[⟨6, .data⟩], none⟩
abbrev q118 : Oper := ⟨some 56, .call ⟨.builtin .append, #[.tmp 49, .tmp 55], #[26, 26]⟩, 26, "l09_vlan.go:92", #[⟨1, .data⟩, ⟨7, .data⟩], none⟩
abbrev q119 : Oper := ⟨some 57, .fieldAddr 29 (.tmp 5) 0, 0, "l09_vlan.go:92", #[⟨0, .phase⟩, ⟨1, .phase⟩, ⟨2, .phase⟩, ⟨3, .phase⟩, ⟨4, .phase⟩, ⟨5, .phase⟩, ⟨6, .phase⟩, ⟨7, .phase⟩, ⟨8, .phase⟩], none⟩
abbrev q120 : Oper := ⟨none, .store 26 (.tmp 57) (.tmp 56), 0, "l09_vlan.go:92", #[⟨9, .data⟩, ⟨8, .data⟩, ⟨8, .chain⟩, ⟨0, .phase⟩, ⟨1, .phase⟩, ⟨2, .phase⟩, ⟨3, .phase⟩, ⟨4, .phase⟩, ⟨5, .phase⟩, ⟨6, .phase⟩, ⟨7, .phase⟩, ⟨8, .phase⟩], none⟩

theorem grow_lit {w : World} {b : Nat} {x : VR} (h : w.heap[b]? = some (.cells #[.int .i64 x.i, .int .i64 x.m, .int .i64 x.b] 81)) : GRow vrowF w (some ⟨b, 0, none⟩) 1 1 [x] := by
 have hc := (cells3 h).1
 refine ⟨rfl, Nat.le_refl _, by unfold maxLen; omega, (by intro h; cases h), .inr ⟨b, 0, rfl, fun i y hi j v hv => ?_⟩⟩
 match i, hi with
 | 0, hi =>
  cases hi
  match j, hv with
  | 0, hv => cases hv; exact hc.1
  | 1, hv => cases hv; exact hc.2.1
  | 2, hv => cases hv; exact hc.2.2
  | j + 3, hv => simp [vrowF] at hv
 | i + 1, hi => simp at hi

theorem drop_cons9 {l : List VR} {k : Nat} {x : VR} (h : l[k]? = some x) : l.drop k = x :: l.drop (k + 1) := by
 obtain ⟨hk, rfl⟩ := List.getElem?_eq_some_iff.1 h
 exact List.drop_eq_getElem_cons hk

set_option maxRecDepth 100000 in
set_option maxHeartbeats 8000000 in
theorem specRow_made (a : Option Addr) (n c : Nat) (o : Option Addr) (p q : Nat) (v : VT) (r : VR) (w : World) (h : VTab w a n c o p q v) (hn : n ≤ 16777216) (hp : p ≤ 16777216) :
  Calls Tryz.prog 121 #[.agg #[.slice a n c, .slice o p q], .agg #[.int .i64 r.i, .int .i64 r.m, .int .i64 r.b]] w fun e w' => ∃ a' n' c' o' q', e = .returned (.agg #[.slice a' n' c', .slice o' p q']) ∧ VOwn w' w.heap.size a' n' c' o' p q' ⟨putRowF v.rows r false, v.own⟩ ∧ Below w.heap.size w w' := by
 generalize hw1 : w.alloc (Obj.cells #[Value.slice a n c, Value.slice o p q] 29) = w1
 generalize hw2 : w1.alloc (Obj.cells #[Value.int .i64 r.i, Value.int .i64 r.m, Value.int .i64 r.b] 81) = w2
 generalize hw3 : w2.alloc (Obj.cells #[Value.slice none 0 0, Value.slice none 0 0] 29) = w3
 have b01 : Below w.heap.size w w1 := by subst hw1; exact below_one _ _
 have b12 : Below w1.heap.size w1 w2 := by subst hw2; exact below_one _ _
 have b23 : Below w2.heap.size w2 w3 := by subst hw3; exact below_one _ _
 have b13 := gr_trans b12 b23
 have b03 := gr_trans b01 b13
 have k2 : w3.heap[w2.heap.size]? = some (.cells #[.slice none 0 0, .slice none 0 0] 29) := by rw [← hw3]; exact block_last _ _
 have z3 : Hid (w2.heap.size < w3.heap.size) := hide (by rw [← hw3]; simp)
 obtain ⟨e0, e0'⟩ := box_two hw1 b13
 have kr : w3.heap[w1.heap.size]? = some (.cells #[.int .i64 r.i, .int .i64 r.m, .int .i64 r.b] 81) := kept_block (by rw [← hw2]; exact block_last _ _ : w2.heap[w1.heap.size]? = _) b23
 obtain ⟨⟨e1, e2, e3⟩, -⟩ := cells3 kr
 have h3 := h.below b03
 have hl := h.rows.size
 generalize hw4 : w3.alloc (Obj.cells #[] 3) = w4
 have b34 : Below w3.heap.size w3 w4 := by subst hw4; exact below_one _ _
 have k4 : w4.heap[w3.heap.size]? = some (.cells #[] 3) := by rw [← hw4]; exact block_last _ _
 have e4 := kept_cell e0' b34
 have hI := flat_nil intF w3 w4 3 _ k4 (Nat.le_refl _)
 go_enter Tryz.func121, Tryz.ntmps121
 go_wp2_with (at_builtin; refine wpList_append_flat (F := intF) _ rfl _ _ 27 3 rfl w3.heap.size Tryz.underlying27 Tryz.infoI64 rfl (by decide) _ 0 [] rfl hI o p q v.own rfl ((h3.own.below b34).flat) (by omega) b34.size ?_)
 intro oo qq w5 how hrow hgr hb5
 have hI : w5.ownsRow w3.heap.size 3 1 (.slice oo p qq) p (cI v.own) := by rw [← intF_all]; exact how
 have v5 : Below w3.heap.size w3 w5 := b34.trans hb5
 clear how hrow hgr hb5
 generalize hw6 : w5.alloc (Obj.cells #[Value.slice none 0 0, Value.slice oo p qq] 29) = w6
 have v6 : Below w3.heap.size w3 w6 := by subst hw6; exact gr_alloc v5 _
 have hst : RowSt w3.heap.size w6 w5.heap.size none 0 0 oo p qq v.own [] := ⟨by rw [← hw6]; exact block_last _ _, ⟨by simp [Flat.all], .inl ⟨rfl, rfl⟩⟩, by subst hw6; exact gown_below hI (below_one _ _)⟩
 have hX := v5.size
 go_wp2_with fail
 go_loopw [6, 7] (fun dn i wr => ∃ (k : Nat) (ar : Option Addr) (nr cr : Nat) (d : Bool) (zs : List VR), k ≤ n ∧ i = .int .i64 k ∧ dn = .bool d ∧ RowSt w3.heap.size wr w5.heap.size ar nr cr oo p qq v.own zs ∧ zs ++ putRowF (v.rows.drop k) r d = putRowF v.rows r false ∧ nr ≤ 2 * k ∧ Below w3.heap.size w3 wr) (fun _ i _ => n - (intOf i).toNat)
 case atStart => exact ⟨0, none, 0, 0, false, [], Nat.zero_le _, rfl, rfl, hst, rfl, Nat.zero_le _, v6⟩
 case round =>
  clear hst v6 hw6 hw4 k4 e4 hI
  obtain ⟨k, ar, nr, cr, d, zs, hk, rfl, rfl, hst, hzs, hnr, vv⟩ := hrel
  have f0 := kept_cell e0 vv
  obtain ⟨⟨cx, cy⟩, fx, fy⟩ := hst.cell
  by_cases hlt : k < n
  ·obtain ⟨x, b, off, hx, rfl, d0, d1, d2⟩ := vrow_at h3.rows k hlt
   have i1 : (0 : Int) ≤ (k : Int) := by omega
   have i2 : (k : Int) < (n : Int) := by omega
   have hdrop : v.rows.drop k = x :: v.rows.drop (k + 1) := drop_cons9 hx
   rw [hdrop] at hzs
   have HZ := hide hzs
   clear hzs hdrop
   have vv := gr_drew vv
   have hst := hst.below (gr_drew (Below.refl _ _))
   cases d
   ·cases hle : decide (r.i ≤ x.i)
    ·go_wp2_with fail
     refine wp_region_held_drew (S := (fun W => W.cell? ⟨w.heap.size, 0, none⟩ = some (.slice (some ⟨b, off, none⟩) n c) ∧ W.cell? ⟨w1.heap.size, 0, none⟩ = some (.int .i64 r.i) ∧ W.cell? ⟨b, off + k * 3, none⟩ = some (.int .i64 x.i) ∧ W.cell? ⟨b, off + k * 3 + 1, none⟩ = some (.int .i64 x.m) ∧ W.cell? ⟨b, off + k * 3 + 2, none⟩ = some (.int .i64 x.b))) (by kernel_rfl) (⟨kept_cell e0 vv, kept_cell e1 vv, kept_cell d0 vv, kept_cell d1 vv, kept_cell d2 vv⟩) (fun hHeld => ?_)
     refine kK 0 q88 ?_
     refine kK 1 q89 ?_
     refine kK 2 q90 ?_
     refine kK 3 q91 ?_
     refine kK 4 q92 ?_
     refine kK 5 q93 ?_
     refine kK 6 q94 ?_
     refine kK 7 q95 ?_
     refine kK 8 q96 ?_
     refine kK 9 q97 ?_
     refine kK 10 q98 ?_
     refine kK 11 q99 ?_
     refine kK 12 q100 ?_
     refine wpAnyH_done (by kernel_rfl) ?_ _
     generalize wr.drew = wz at hst vv ⊢
     go_wp2_with fail
     cases hne : (x.i != r.i)
     ·obtain ⟨⟨cx, cy⟩, fx, fy⟩ := hst.cell
      have vv := gr_drew vv
      have hst := hst.below (gr_drew (Below.refl _ _))
      go_wp2_with fail
      refine wp_region_held_drew (S := (fun W => W.cell? ⟨w.heap.size, 0, none⟩ = some (.slice (some ⟨b, off, none⟩) n c) ∧ W.cell? ⟨w1.heap.size, 0, none⟩ = some (.int .i64 r.i) ∧ W.cell? ⟨b, off + k * 3, none⟩ = some (.int .i64 x.i) ∧ W.cell? ⟨b, off + k * 3 + 1, none⟩ = some (.int .i64 x.m) ∧ W.cell? ⟨b, off + k * 3 + 2, none⟩ = some (.int .i64 x.b))) (by kernel_rfl) (⟨kept_cell e0 vv, kept_cell e1 vv, kept_cell d0 vv, kept_cell d1 vv, kept_cell d2 vv⟩) (fun hHeld => ?_)
      refine kK 0 q101 ?_
      refine kK 1 q102 ?_
      refine kK 2 q103 ?_
      refine kK 3 q104 ?_
      refine kK 4 q105 ?_
      refine kK 5 q106 ?_
      refine kK 6 q107 ?_
      refine kK 7 q108 ?_
      refine kK 8 q109 ?_
      refine wpAnyH_done (by kernel_rfl) ?_ _
      go_wp2
      go_roundw
      case rel => exact ⟨k + 1, _, _, _, _, _, by omega, by go_num, rfl, hst, Eq.trans (by have t := putRow_skip (zs := zs) (t := v.rows.drop (k + 1)) (d := false) (by rw [hle]; rfl) hne; rw [hle] at t; exact t) HZ.out, by omega, vv⟩
      case measure => simp [intOf]; omega
     ·obtain ⟨⟨cx, cy⟩, fx, fy⟩ := hst.cell
      have vv := gr_drew vv
      have hst := hst.below (gr_drew (Below.refl _ _))
      go_wp2_with fail
      refine wp_region_held_drew (S := (fun W => W.cell? ⟨w.heap.size, 0, none⟩ = some (.slice (some ⟨b, off, none⟩) n c) ∧ W.cell? ⟨w1.heap.size, 0, none⟩ = some (.int .i64 r.i) ∧ W.cell? ⟨b, off + k * 3, none⟩ = some (.int .i64 x.i) ∧ W.cell? ⟨b, off + k * 3 + 1, none⟩ = some (.int .i64 x.m) ∧ W.cell? ⟨b, off + k * 3 + 2, none⟩ = some (.int .i64 x.b))) (by kernel_rfl) (⟨kept_cell e0 vv, kept_cell e1 vv, kept_cell d0 vv, kept_cell d1 vv, kept_cell d2 vv⟩) (fun hHeld => ?_)
      refine kK 0 q101 ?_
      refine kK 1 q102 ?_
      refine kK 2 q103 ?_
      refine kK 3 q104 ?_
      refine kK 4 q105 ?_
      refine kK 5 q106 ?_
      refine kK 6 q107 ?_
      refine kK 7 q108 ?_
      refine kK 8 q109 ?_
      refine wpAnyH_done (by kernel_rfl) ?_ _
      generalize wz.drew = wy at hst vv ⊢
      obtain ⟨⟨cx, cy⟩, fx, fy⟩ := hst.cell
      have vv := gr_drew vv
      have hst := hst.below (gr_drew (Below.refl _ _))
      go_wp2_with fail
      refine wp_region_held_drew (S := (fun W => W.cell? ⟨w.heap.size, 0, none⟩ = some (.slice (some ⟨b, off, none⟩) n c) ∧ W.cell? ⟨w1.heap.size, 0, none⟩ = some (.int .i64 r.i) ∧ W.cell? ⟨b, off + k * 3, none⟩ = some (.int .i64 x.i) ∧ W.cell? ⟨b, off + k * 3 + 1, none⟩ = some (.int .i64 x.m) ∧ W.cell? ⟨b, off + k * 3 + 2, none⟩ = some (.int .i64 x.b))) (by kernel_rfl) (⟨kept_cell e0 vv, kept_cell e1 vv, kept_cell d0 vv, kept_cell d1 vv, kept_cell d2 vv⟩) (fun hHeld => ?_)
      refine kK 0 q110 ?_
      refine kK 2 q111 ?_
      refine kK 3 q112 ?_
      refine kK 4 q113 ?_
      refine kK 5 q114 ?_
      refine kK 6 q115 ?_
      refine tR [1, 7] ?_
      refine AllReadyH.cons (o := q116) rfl (fun K hK => ?_) ?_
      ·go_simp
       refine hK.out _ _ (⟨kept_cell e0 vv, kept_cell e1 vv, kept_cell d0 vv, kept_cell d1 vv, kept_cell d2 vv⟩) (fun hHeld => ?_)
       clear hK K
       try simp only [Act.put, lA, lB, lC]
       refine tR [7] ?_
       refine AllReadyH.cons (o := q117) rfl (fun K hK => ?_) ?_
       ·go_simp
        first
        | refine made_new (K := K _) (fun wx hk hbx => ?_)
        | refine made_drew (K := K _) (fun wx hk hbx => ?_)
        have hst := hst.below hbx
        have vv := gr_trans vv hbx
        obtain ⟨⟨cx, cy⟩, fx, fy⟩ := hst.cell
        have hone := grow_lit hk
        clear hk hbx
        refine hK.out _ _ (⟨kept_cell e0 vv, kept_cell e1 vv, kept_cell d0 vv, kept_cell d1 vv, kept_cell d2 vv⟩) (fun hHeld => ?_)
        clear hK K
        try simp only [Act.put, lA, lB, lC]
        refine tR [8] ?_
        refine AllReadyH.cons (o := q118) rfl (fun K hK => ?_) ?_
        ·refine step_append_flat (F := vrowF) rfl _ _ 26 81 rfl w3.heap.size Tryz.underlying26 vrowInfo rfl (by decide) _ _ _ rfl hst.rows _ 1 1 [x] rfl hone (by omega) vv.size ?_
         intro ao8 cp8 wx how hrow hgr hbx
         obtain ⟨⟨cx, fx⟩, hst⟩ := hst.push how hgr
         have vv := vv.trans hbx
         clear how hrow hgr hbx hone
         refine hK.out _ _ (⟨kept_cell e0 vv, kept_cell e1 vv, kept_cell d0 vv, kept_cell d1 vv, kept_cell d2 vv⟩) (fun hHeld => ?_)
         clear hK K
         try simp only [Act.put, lA, lB, lC]
         refine kK 9 q119 ?_
         refine tR [10] ?_
         refine AllReadyH.cons (o := q120) rfl (fun K hK => ?_) ?_
         ·go_simp
          have vv := below_set vv hX 0 (.slice ao8 (nr + 1) cp8)
          refine hK.out _ _ (⟨kept_cell e0 vv, kept_cell e1 vv, kept_cell d0 vv, kept_cell d1 vv, kept_cell d2 vv⟩) (fun hHeld => ?_)
          clear hK K
          try simp only [Act.put, lA, lB, lC]
          refine wpAnyH_done (by kernel_rfl) ?_ _
          go_wp2
          go_roundw
          case rel => exact ⟨k + 1, _, _, _, _, _, by omega, by go_num, rfl, hst, Eq.trans (by have t := putRow_keep (zs := zs) (t := v.rows.drop (k + 1)) (d := false) (by rw [hle]; rfl) hne; rw [hle] at t; exact t) HZ.out, by omega, vv⟩
          case measure => simp [intOf]; omega
         exact AllReadyH.nil
        exact AllReadyH.nil
       exact AllReadyH.nil
      refine AllReadyH.cons (o := q117) rfl (fun K hK => ?_) ?_
      ·go_simp
       first
       | refine made_new (K := K _) (fun wx hk hbx => ?_)
       | refine made_drew (K := K _) (fun wx hk hbx => ?_)
       have hst := hst.below hbx
       have vv := gr_trans vv hbx
       obtain ⟨⟨cx, cy⟩, fx, fy⟩ := hst.cell
       have hone := grow_lit hk
       clear hk hbx
       refine hK.out _ _ (⟨kept_cell e0 vv, kept_cell e1 vv, kept_cell d0 vv, kept_cell d1 vv, kept_cell d2 vv⟩) (fun hHeld => ?_)
       clear hK K
       try simp only [Act.put, lA, lB, lC]
       refine tR [1] ?_
       refine AllReadyH.cons (o := q116) rfl (fun K hK => ?_) ?_
       ·go_simp
        refine hK.out _ _ (⟨kept_cell e0 vv, kept_cell e1 vv, kept_cell d0 vv, kept_cell d1 vv, kept_cell d2 vv⟩) (fun hHeld => ?_)
        clear hK K
        try simp only [Act.put, lA, lB, lC]
        refine tR [8] ?_
        refine AllReadyH.cons (o := q118) rfl (fun K hK => ?_) ?_
        ·refine step_append_flat (F := vrowF) rfl _ _ 26 81 rfl w3.heap.size Tryz.underlying26 vrowInfo rfl (by decide) _ _ _ rfl hst.rows _ 1 1 [x] rfl hone (by omega) vv.size ?_
         intro ao8 cp8 wx how hrow hgr hbx
         obtain ⟨⟨cx, fx⟩, hst⟩ := hst.push how hgr
         have vv := vv.trans hbx
         clear how hrow hgr hbx hone
         refine hK.out _ _ (⟨kept_cell e0 vv, kept_cell e1 vv, kept_cell d0 vv, kept_cell d1 vv, kept_cell d2 vv⟩) (fun hHeld => ?_)
         clear hK K
         try simp only [Act.put, lA, lB, lC]
         refine kK 9 q119 ?_
         refine tR [10] ?_
         refine AllReadyH.cons (o := q120) rfl (fun K hK => ?_) ?_
         ·go_simp
          have vv := below_set vv hX 0 (.slice ao8 (nr + 1) cp8)
          refine hK.out _ _ (⟨kept_cell e0 vv, kept_cell e1 vv, kept_cell d0 vv, kept_cell d1 vv, kept_cell d2 vv⟩) (fun hHeld => ?_)
          clear hK K
          try simp only [Act.put, lA, lB, lC]
          refine wpAnyH_done (by kernel_rfl) ?_ _
          go_wp2
          go_roundw
          case rel => exact ⟨k + 1, _, _, _, _, _, by omega, by go_num, rfl, hst, Eq.trans (by have t := putRow_keep (zs := zs) (t := v.rows.drop (k + 1)) (d := false) (by rw [hle]; rfl) hne; rw [hle] at t; exact t) HZ.out, by omega, vv⟩
          case measure => simp [intOf]; omega
         exact AllReadyH.nil
        exact AllReadyH.nil
       exact AllReadyH.nil
      exact AllReadyH.nil
    ·go_wp2_with fail
     refine wp_region_held_drew (S := (fun W => W.cell? ⟨w.heap.size, 0, none⟩ = some (.slice (some ⟨b, off, none⟩) n c) ∧ W.cell? ⟨w1.heap.size, 0, none⟩ = some (.int .i64 r.i) ∧ W.cell? ⟨b, off + k * 3, none⟩ = some (.int .i64 x.i) ∧ W.cell? ⟨b, off + k * 3 + 1, none⟩ = some (.int .i64 x.m) ∧ W.cell? ⟨b, off + k * 3 + 2, none⟩ = some (.int .i64 x.b))) (by kernel_rfl) (⟨kept_cell e0 vv, kept_cell e1 vv, kept_cell d0 vv, kept_cell d1 vv, kept_cell d2 vv⟩) (fun hHeld => ?_)
     refine kK 0 q88 ?_
     refine kK 1 q89 ?_
     refine kK 2 q90 ?_
     refine kK 3 q91 ?_
     refine kK 4 q92 ?_
     refine kK 5 q93 ?_
     refine kK 6 q94 ?_
     refine kK 7 q95 ?_
     refine kK 8 q96 ?_
     refine kK 9 q97 ?_
     refine kK 10 q98 ?_
     refine kK 11 q99 ?_
     refine kK 12 q100 ?_
     refine wpAnyH_done (by kernel_rfl) ?_ _
     generalize wr.drew = wq at hst vv ⊢
     have g1 := kept_cell e1 vv
     have g2 := kept_cell e2 vv
     have g3 := kept_cell e3 vv
     obtain ⟨⟨cx, cy⟩, fx, fy⟩ := hst.cell
     generalize hw8 : World.alloc wq (Obj.cells #[Value.int .i64 r.i, Value.int .i64 r.m, Value.int .i64 r.b] 81) = w8
     have b8 : Below (World.heap wq).size wq w8 := by subst hw8; exact below_one _ _
     have hst' := hst.below b8
     have vv' := gr_trans vv b8
     have hone : GRow vrowF w8 (some ⟨(World.heap wq).size, 0, none⟩) 1 1 [r] := grow_lit (by rw [← hw8]; exact block_last _ _)
     go_wp2_with (at_builtin; refine wpList_append_flat (F := vrowF) _ rfl _ _ 26 81 rfl w3.heap.size Tryz.underlying26 vrowInfo rfl (by decide) _ _ _ rfl hst'.rows _ 1 1 [r] rfl hone (by omega) vv'.size ?_)
     intro ao7 cp7 wx how hrow hgr hbx
     obtain ⟨⟨cx, fx⟩, hst⟩ := hst'.push how hgr
     have vv := below_set (vv'.trans hbx) hX 0 (.slice ao7 (nr + 1) cp7)
     clear how hrow hgr hbx hone hst' vv' b8 hw8 g1 g2 g3 cy fy
     go_wp2_with fail
     generalize World.setCell wx ⟨w5.heap.size, 0, none⟩ (.slice ao7 (nr + 1) cp7) = wz at hst vv ⊢
     cases hne : (x.i != r.i)
     ·obtain ⟨⟨cx, cy⟩, fx, fy⟩ := hst.cell
      have vv := gr_drew vv
      have hst := hst.below (gr_drew (Below.refl _ _))
      go_wp2_with fail
      refine wp_region_held_drew (S := (fun W => W.cell? ⟨w.heap.size, 0, none⟩ = some (.slice (some ⟨b, off, none⟩) n c) ∧ W.cell? ⟨w1.heap.size, 0, none⟩ = some (.int .i64 r.i) ∧ W.cell? ⟨b, off + k * 3, none⟩ = some (.int .i64 x.i) ∧ W.cell? ⟨b, off + k * 3 + 1, none⟩ = some (.int .i64 x.m) ∧ W.cell? ⟨b, off + k * 3 + 2, none⟩ = some (.int .i64 x.b))) (by kernel_rfl) (⟨kept_cell e0 vv, kept_cell e1 vv, kept_cell d0 vv, kept_cell d1 vv, kept_cell d2 vv⟩) (fun hHeld => ?_)
      refine kK 0 q101 ?_
      refine kK 1 q102 ?_
      refine kK 2 q103 ?_
      refine kK 3 q104 ?_
      refine kK 4 q105 ?_
      refine kK 5 q106 ?_
      refine kK 6 q107 ?_
      refine kK 7 q108 ?_
      refine kK 8 q109 ?_
      refine wpAnyH_done (by kernel_rfl) ?_ _
      go_wp2
      go_roundw
      case rel => exact ⟨k + 1, _, _, _, _, _, by omega, by go_num, rfl, hst, Eq.trans (by have t := putRow_here (zs := zs) (t := v.rows.drop (k + 1)) (d := false) (by rw [hle]; rfl) hne; rw [hle] at t; exact t) HZ.out, by omega, vv⟩
      case measure => simp [intOf]; omega
     ·obtain ⟨⟨cx, cy⟩, fx, fy⟩ := hst.cell
      have vv := gr_drew vv
      have hst := hst.below (gr_drew (Below.refl _ _))
      go_wp2_with fail
      refine wp_region_held_drew (S := (fun W => W.cell? ⟨w.heap.size, 0, none⟩ = some (.slice (some ⟨b, off, none⟩) n c) ∧ W.cell? ⟨w1.heap.size, 0, none⟩ = some (.int .i64 r.i) ∧ W.cell? ⟨b, off + k * 3, none⟩ = some (.int .i64 x.i) ∧ W.cell? ⟨b, off + k * 3 + 1, none⟩ = some (.int .i64 x.m) ∧ W.cell? ⟨b, off + k * 3 + 2, none⟩ = some (.int .i64 x.b))) (by kernel_rfl) (⟨kept_cell e0 vv, kept_cell e1 vv, kept_cell d0 vv, kept_cell d1 vv, kept_cell d2 vv⟩) (fun hHeld => ?_)
      refine kK 0 q101 ?_
      refine kK 1 q102 ?_
      refine kK 2 q103 ?_
      refine kK 3 q104 ?_
      refine kK 4 q105 ?_
      refine kK 5 q106 ?_
      refine kK 6 q107 ?_
      refine kK 7 q108 ?_
      refine kK 8 q109 ?_
      refine wpAnyH_done (by kernel_rfl) ?_ _
      generalize wz.drew = wy at hst vv ⊢
      obtain ⟨⟨cx, cy⟩, fx, fy⟩ := hst.cell
      have vv := gr_drew vv
      have hst := hst.below (gr_drew (Below.refl _ _))
      go_wp2_with fail
      refine wp_region_held_drew (S := (fun W => W.cell? ⟨w.heap.size, 0, none⟩ = some (.slice (some ⟨b, off, none⟩) n c) ∧ W.cell? ⟨w1.heap.size, 0, none⟩ = some (.int .i64 r.i) ∧ W.cell? ⟨b, off + k * 3, none⟩ = some (.int .i64 x.i) ∧ W.cell? ⟨b, off + k * 3 + 1, none⟩ = some (.int .i64 x.m) ∧ W.cell? ⟨b, off + k * 3 + 2, none⟩ = some (.int .i64 x.b))) (by kernel_rfl) (⟨kept_cell e0 vv, kept_cell e1 vv, kept_cell d0 vv, kept_cell d1 vv, kept_cell d2 vv⟩) (fun hHeld => ?_)
      refine kK 0 q110 ?_
      refine kK 2 q111 ?_
      refine kK 3 q112 ?_
      refine kK 4 q113 ?_
      refine kK 5 q114 ?_
      refine kK 6 q115 ?_
      refine tR [1, 7] ?_
      refine AllReadyH.cons (o := q116) rfl (fun K hK => ?_) ?_
      ·go_simp
       refine hK.out _ _ (⟨kept_cell e0 vv, kept_cell e1 vv, kept_cell d0 vv, kept_cell d1 vv, kept_cell d2 vv⟩) (fun hHeld => ?_)
       clear hK K
       try simp only [Act.put, lA, lB, lC]
       refine tR [7] ?_
       refine AllReadyH.cons (o := q117) rfl (fun K hK => ?_) ?_
       ·go_simp
        first
        | refine made_new (K := K _) (fun wx hk hbx => ?_)
        | refine made_drew (K := K _) (fun wx hk hbx => ?_)
        have hst := hst.below hbx
        have vv := gr_trans vv hbx
        obtain ⟨⟨cx, cy⟩, fx, fy⟩ := hst.cell
        have hone := grow_lit hk
        clear hk hbx
        refine hK.out _ _ (⟨kept_cell e0 vv, kept_cell e1 vv, kept_cell d0 vv, kept_cell d1 vv, kept_cell d2 vv⟩) (fun hHeld => ?_)
        clear hK K
        try simp only [Act.put, lA, lB, lC]
        refine tR [8] ?_
        refine AllReadyH.cons (o := q118) rfl (fun K hK => ?_) ?_
        ·refine step_append_flat (F := vrowF) rfl _ _ 26 81 rfl w3.heap.size Tryz.underlying26 vrowInfo rfl (by decide) _ _ _ rfl hst.rows _ 1 1 [x] rfl hone (by omega) vv.size ?_
         intro ao8 cp8 wx how hrow hgr hbx
         obtain ⟨⟨cx, fx⟩, hst⟩ := hst.push how hgr
         have vv := vv.trans hbx
         clear how hrow hgr hbx hone
         refine hK.out _ _ (⟨kept_cell e0 vv, kept_cell e1 vv, kept_cell d0 vv, kept_cell d1 vv, kept_cell d2 vv⟩) (fun hHeld => ?_)
         clear hK K
         try simp only [Act.put, lA, lB, lC]
         refine kK 9 q119 ?_
         refine tR [10] ?_
         refine AllReadyH.cons (o := q120) rfl (fun K hK => ?_) ?_
         ·go_simp
          have vv := below_set vv hX 0 (.slice ao8 (nr + 1 + 1) cp8)
          refine hK.out _ _ (⟨kept_cell e0 vv, kept_cell e1 vv, kept_cell d0 vv, kept_cell d1 vv, kept_cell d2 vv⟩) (fun hHeld => ?_)
          clear hK K
          try simp only [Act.put, lA, lB, lC]
          refine wpAnyH_done (by kernel_rfl) ?_ _
          go_wp2
          go_roundw
          case rel => exact ⟨k + 1, _, _, _, _, _, by omega, by go_num, rfl, hst, Eq.trans (by have t := putRow_both (zs := zs) (t := v.rows.drop (k + 1)) (d := false) (by rw [hle]; rfl) hne; rw [hle] at t; exact t) HZ.out, by omega, vv⟩
          case measure => simp [intOf]; omega
         exact AllReadyH.nil
        exact AllReadyH.nil
       exact AllReadyH.nil
      refine AllReadyH.cons (o := q117) rfl (fun K hK => ?_) ?_
      ·go_simp
       first
       | refine made_new (K := K _) (fun wx hk hbx => ?_)
       | refine made_drew (K := K _) (fun wx hk hbx => ?_)
       have hst := hst.below hbx
       have vv := gr_trans vv hbx
       obtain ⟨⟨cx, cy⟩, fx, fy⟩ := hst.cell
       have hone := grow_lit hk
       clear hk hbx
       refine hK.out _ _ (⟨kept_cell e0 vv, kept_cell e1 vv, kept_cell d0 vv, kept_cell d1 vv, kept_cell d2 vv⟩) (fun hHeld => ?_)
       clear hK K
       try simp only [Act.put, lA, lB, lC]
       refine tR [1] ?_
       refine AllReadyH.cons (o := q116) rfl (fun K hK => ?_) ?_
       ·go_simp
        refine hK.out _ _ (⟨kept_cell e0 vv, kept_cell e1 vv, kept_cell d0 vv, kept_cell d1 vv, kept_cell d2 vv⟩) (fun hHeld => ?_)
        clear hK K
        try simp only [Act.put, lA, lB, lC]
        refine tR [8] ?_
        refine AllReadyH.cons (o := q118) rfl (fun K hK => ?_) ?_
        ·refine step_append_flat (F := vrowF) rfl _ _ 26 81 rfl w3.heap.size Tryz.underlying26 vrowInfo rfl (by decide) _ _ _ rfl hst.rows _ 1 1 [x] rfl hone (by omega) vv.size ?_
         intro ao8 cp8 wx how hrow hgr hbx
         obtain ⟨⟨cx, fx⟩, hst⟩ := hst.push how hgr
         have vv := vv.trans hbx
         clear how hrow hgr hbx hone
         refine hK.out _ _ (⟨kept_cell e0 vv, kept_cell e1 vv, kept_cell d0 vv, kept_cell d1 vv, kept_cell d2 vv⟩) (fun hHeld => ?_)
         clear hK K
         try simp only [Act.put, lA, lB, lC]
         refine kK 9 q119 ?_
         refine tR [10] ?_
         refine AllReadyH.cons (o := q120) rfl (fun K hK => ?_) ?_
         ·go_simp
          have vv := below_set vv hX 0 (.slice ao8 (nr + 1 + 1) cp8)
          refine hK.out _ _ (⟨kept_cell e0 vv, kept_cell e1 vv, kept_cell d0 vv, kept_cell d1 vv, kept_cell d2 vv⟩) (fun hHeld => ?_)
          clear hK K
          try simp only [Act.put, lA, lB, lC]
          refine wpAnyH_done (by kernel_rfl) ?_ _
          go_wp2
          go_roundw
          case rel => exact ⟨k + 1, _, _, _, _, _, by omega, by go_num, rfl, hst, Eq.trans (by have t := putRow_both (zs := zs) (t := v.rows.drop (k + 1)) (d := false) (by rw [hle]; rfl) hne; rw [hle] at t; exact t) HZ.out, by omega, vv⟩
          case measure => simp [intOf]; omega
         exact AllReadyH.nil
        exact AllReadyH.nil
       exact AllReadyH.nil
      exact AllReadyH.nil
   ·go_wp2_with fail
    refine wp_region_held_drew (S := (fun W => W.cell? ⟨w.heap.size, 0, none⟩ = some (.slice (some ⟨b, off, none⟩) n c) ∧ W.cell? ⟨w1.heap.size, 0, none⟩ = some (.int .i64 r.i) ∧ W.cell? ⟨b, off + k * 3, none⟩ = some (.int .i64 x.i) ∧ W.cell? ⟨b, off + k * 3 + 1, none⟩ = some (.int .i64 x.m) ∧ W.cell? ⟨b, off + k * 3 + 2, none⟩ = some (.int .i64 x.b))) (by kernel_rfl) (⟨kept_cell e0 vv, kept_cell e1 vv, kept_cell d0 vv, kept_cell d1 vv, kept_cell d2 vv⟩) (fun hHeld => ?_)
    refine kK 0 q88 ?_
    refine kK 1 q89 ?_
    refine kK 2 q90 ?_
    refine kN 3 q91 ?_
    refine kN 4 q92 ?_
    refine kN 5 q93 ?_
    refine kN 6 q94 ?_
    refine kN 7 q95 ?_
    refine kN 8 q96 ?_
    refine kN 9 q97 ?_
    refine kN 10 q98 ?_
    refine kN 11 q99 ?_
    refine kK 12 q100 ?_
    refine wpAnyH_done (by kernel_rfl) ?_ _
    generalize wr.drew = wz at hst vv ⊢
    go_wp2_with fail
    cases hne : (x.i != r.i)
    ·obtain ⟨⟨cx, cy⟩, fx, fy⟩ := hst.cell
     have vv := gr_drew vv
     have hst := hst.below (gr_drew (Below.refl _ _))
     go_wp2_with fail
     refine wp_region_held_drew (S := (fun W => W.cell? ⟨w.heap.size, 0, none⟩ = some (.slice (some ⟨b, off, none⟩) n c) ∧ W.cell? ⟨w1.heap.size, 0, none⟩ = some (.int .i64 r.i) ∧ W.cell? ⟨b, off + k * 3, none⟩ = some (.int .i64 x.i) ∧ W.cell? ⟨b, off + k * 3 + 1, none⟩ = some (.int .i64 x.m) ∧ W.cell? ⟨b, off + k * 3 + 2, none⟩ = some (.int .i64 x.b))) (by kernel_rfl) (⟨kept_cell e0 vv, kept_cell e1 vv, kept_cell d0 vv, kept_cell d1 vv, kept_cell d2 vv⟩) (fun hHeld => ?_)
     refine kK 0 q101 ?_
     refine kK 1 q102 ?_
     refine kK 2 q103 ?_
     refine kK 3 q104 ?_
     refine kK 4 q105 ?_
     refine kK 5 q106 ?_
     refine kK 6 q107 ?_
     refine kK 7 q108 ?_
     refine kK 8 q109 ?_
     refine wpAnyH_done (by kernel_rfl) ?_ _
     go_wp2
     go_roundw
     case rel => exact ⟨k + 1, _, _, _, _, _, by omega, by go_num, rfl, hst, Eq.trans (putRow_skip (zs := zs) (t := v.rows.drop (k + 1)) (d := true) rfl hne) HZ.out, by omega, vv⟩
     case measure => simp [intOf]; omega
    ·obtain ⟨⟨cx, cy⟩, fx, fy⟩ := hst.cell
     have vv := gr_drew vv
     have hst := hst.below (gr_drew (Below.refl _ _))
     go_wp2_with fail
     refine wp_region_held_drew (S := (fun W => W.cell? ⟨w.heap.size, 0, none⟩ = some (.slice (some ⟨b, off, none⟩) n c) ∧ W.cell? ⟨w1.heap.size, 0, none⟩ = some (.int .i64 r.i) ∧ W.cell? ⟨b, off + k * 3, none⟩ = some (.int .i64 x.i) ∧ W.cell? ⟨b, off + k * 3 + 1, none⟩ = some (.int .i64 x.m) ∧ W.cell? ⟨b, off + k * 3 + 2, none⟩ = some (.int .i64 x.b))) (by kernel_rfl) (⟨kept_cell e0 vv, kept_cell e1 vv, kept_cell d0 vv, kept_cell d1 vv, kept_cell d2 vv⟩) (fun hHeld => ?_)
     refine kK 0 q101 ?_
     refine kK 1 q102 ?_
     refine kK 2 q103 ?_
     refine kK 3 q104 ?_
     refine kK 4 q105 ?_
     refine kK 5 q106 ?_
     refine kK 6 q107 ?_
     refine kK 7 q108 ?_
     refine kK 8 q109 ?_
     refine wpAnyH_done (by kernel_rfl) ?_ _
     generalize wz.drew = wy at hst vv ⊢
     obtain ⟨⟨cx, cy⟩, fx, fy⟩ := hst.cell
     have vv := gr_drew vv
     have hst := hst.below (gr_drew (Below.refl _ _))
     go_wp2_with fail
     refine wp_region_held_drew (S := (fun W => W.cell? ⟨w.heap.size, 0, none⟩ = some (.slice (some ⟨b, off, none⟩) n c) ∧ W.cell? ⟨w1.heap.size, 0, none⟩ = some (.int .i64 r.i) ∧ W.cell? ⟨b, off + k * 3, none⟩ = some (.int .i64 x.i) ∧ W.cell? ⟨b, off + k * 3 + 1, none⟩ = some (.int .i64 x.m) ∧ W.cell? ⟨b, off + k * 3 + 2, none⟩ = some (.int .i64 x.b))) (by kernel_rfl) (⟨kept_cell e0 vv, kept_cell e1 vv, kept_cell d0 vv, kept_cell d1 vv, kept_cell d2 vv⟩) (fun hHeld => ?_)
     refine kK 0 q110 ?_
     refine kK 2 q111 ?_
     refine kK 3 q112 ?_
     refine kK 4 q113 ?_
     refine kK 5 q114 ?_
     refine kK 6 q115 ?_
     refine tR [1, 7] ?_
     refine AllReadyH.cons (o := q116) rfl (fun K hK => ?_) ?_
     ·go_simp
      refine hK.out _ _ (⟨kept_cell e0 vv, kept_cell e1 vv, kept_cell d0 vv, kept_cell d1 vv, kept_cell d2 vv⟩) (fun hHeld => ?_)
      clear hK K
      try simp only [Act.put, lA, lB, lC]
      refine tR [7] ?_
      refine AllReadyH.cons (o := q117) rfl (fun K hK => ?_) ?_
      ·go_simp
       first
       | refine made_new (K := K _) (fun wx hk hbx => ?_)
       | refine made_drew (K := K _) (fun wx hk hbx => ?_)
       have hst := hst.below hbx
       have vv := gr_trans vv hbx
       obtain ⟨⟨cx, cy⟩, fx, fy⟩ := hst.cell
       have hone := grow_lit hk
       clear hk hbx
       refine hK.out _ _ (⟨kept_cell e0 vv, kept_cell e1 vv, kept_cell d0 vv, kept_cell d1 vv, kept_cell d2 vv⟩) (fun hHeld => ?_)
       clear hK K
       try simp only [Act.put, lA, lB, lC]
       refine tR [8] ?_
       refine AllReadyH.cons (o := q118) rfl (fun K hK => ?_) ?_
       ·refine step_append_flat (F := vrowF) rfl _ _ 26 81 rfl w3.heap.size Tryz.underlying26 vrowInfo rfl (by decide) _ _ _ rfl hst.rows _ 1 1 [x] rfl hone (by omega) vv.size ?_
        intro ao8 cp8 wx how hrow hgr hbx
        obtain ⟨⟨cx, fx⟩, hst⟩ := hst.push how hgr
        have vv := vv.trans hbx
        clear how hrow hgr hbx hone
        refine hK.out _ _ (⟨kept_cell e0 vv, kept_cell e1 vv, kept_cell d0 vv, kept_cell d1 vv, kept_cell d2 vv⟩) (fun hHeld => ?_)
        clear hK K
        try simp only [Act.put, lA, lB, lC]
        refine kK 9 q119 ?_
        refine tR [10] ?_
        refine AllReadyH.cons (o := q120) rfl (fun K hK => ?_) ?_
        ·go_simp
         have vv := below_set vv hX 0 (.slice ao8 (nr + 1) cp8)
         refine hK.out _ _ (⟨kept_cell e0 vv, kept_cell e1 vv, kept_cell d0 vv, kept_cell d1 vv, kept_cell d2 vv⟩) (fun hHeld => ?_)
         clear hK K
         try simp only [Act.put, lA, lB, lC]
         refine wpAnyH_done (by kernel_rfl) ?_ _
         go_wp2
         go_roundw
         case rel => exact ⟨k + 1, _, _, _, _, _, by omega, by go_num, rfl, hst, Eq.trans (putRow_keep (zs := zs) (t := v.rows.drop (k + 1)) (d := true) rfl hne) HZ.out, by omega, vv⟩
         case measure => simp [intOf]; omega
        exact AllReadyH.nil
       exact AllReadyH.nil
      exact AllReadyH.nil
     refine AllReadyH.cons (o := q117) rfl (fun K hK => ?_) ?_
     ·go_simp
      first
      | refine made_new (K := K _) (fun wx hk hbx => ?_)
      | refine made_drew (K := K _) (fun wx hk hbx => ?_)
      have hst := hst.below hbx
      have vv := gr_trans vv hbx
      obtain ⟨⟨cx, cy⟩, fx, fy⟩ := hst.cell
      have hone := grow_lit hk
      clear hk hbx
      refine hK.out _ _ (⟨kept_cell e0 vv, kept_cell e1 vv, kept_cell d0 vv, kept_cell d1 vv, kept_cell d2 vv⟩) (fun hHeld => ?_)
      clear hK K
      try simp only [Act.put, lA, lB, lC]
      refine tR [1] ?_
      refine AllReadyH.cons (o := q116) rfl (fun K hK => ?_) ?_
      ·go_simp
       refine hK.out _ _ (⟨kept_cell e0 vv, kept_cell e1 vv, kept_cell d0 vv, kept_cell d1 vv, kept_cell d2 vv⟩) (fun hHeld => ?_)
       clear hK K
       try simp only [Act.put, lA, lB, lC]
       refine tR [8] ?_
       refine AllReadyH.cons (o := q118) rfl (fun K hK => ?_) ?_
       ·refine step_append_flat (F := vrowF) rfl _ _ 26 81 rfl w3.heap.size Tryz.underlying26 vrowInfo rfl (by decide) _ _ _ rfl hst.rows _ 1 1 [x] rfl hone (by omega) vv.size ?_
        intro ao8 cp8 wx how hrow hgr hbx
        obtain ⟨⟨cx, fx⟩, hst⟩ := hst.push how hgr
        have vv := vv.trans hbx
        clear how hrow hgr hbx hone
        refine hK.out _ _ (⟨kept_cell e0 vv, kept_cell e1 vv, kept_cell d0 vv, kept_cell d1 vv, kept_cell d2 vv⟩) (fun hHeld => ?_)
        clear hK K
        try simp only [Act.put, lA, lB, lC]
        refine kK 9 q119 ?_
        refine tR [10] ?_
        refine AllReadyH.cons (o := q120) rfl (fun K hK => ?_) ?_
        ·go_simp
         have vv := below_set vv hX 0 (.slice ao8 (nr + 1) cp8)
         refine hK.out _ _ (⟨kept_cell e0 vv, kept_cell e1 vv, kept_cell d0 vv, kept_cell d1 vv, kept_cell d2 vv⟩) (fun hHeld => ?_)
         clear hK K
         try simp only [Act.put, lA, lB, lC]
         refine wpAnyH_done (by kernel_rfl) ?_ _
         go_wp2
         go_roundw
         case rel => exact ⟨k + 1, _, _, _, _, _, by omega, by go_num, rfl, hst, Eq.trans (putRow_keep (zs := zs) (t := v.rows.drop (k + 1)) (d := true) rfl hne) HZ.out, by omega, vv⟩
         case measure => simp [intOf]; omega
        exact AllReadyH.nil
       exact AllReadyH.nil
      exact AllReadyH.nil
     exact AllReadyH.nil
  ·have hkn : n = k := by omega
   subst hkn
   have hd0 : v.rows.drop n = [] := List.drop_eq_nil_of_le (by omega)
   rw [hd0] at hzs
   cases d
   ·have hz : zs ++ [r] = putRowF v.rows r false := by simpa [putRowF] using hzs
    have HZ := hide hz
    clear hz hzs hd0
    have g1 := kept_cell e1 vv
    have g2 := kept_cell e2 vv
    have g3 := kept_cell e3 vv
    obtain ⟨⟨cx, cy⟩, fx, fy⟩ := hst.cell
    generalize hw8 : World.alloc wr (Obj.cells #[Value.int .i64 r.i, Value.int .i64 r.m, Value.int .i64 r.b] 81) = w8
    have b8 : Below (World.heap wr).size wr w8 := by subst hw8; exact below_one _ _
    have hst' := hst.below b8
    have vv' := gr_trans vv b8
    have hone : GRow vrowF w8 (some ⟨(World.heap wr).size, 0, none⟩) 1 1 [r] := grow_lit (by rw [← hw8]; exact block_last _ _)
    go_wp2_with (at_builtin; refine wpList_append_flat (F := vrowF) _ rfl _ _ 26 81 rfl w3.heap.size Tryz.underlying26 vrowInfo rfl (by decide) _ _ _ rfl hst'.rows _ 1 1 [r] rfl hone (by omega) vv'.size ?_)
    intro ao7 cp7 wx how hrow hgr hbx
    obtain ⟨⟨cx, fx⟩, hst⟩ := hst'.push how hgr
    have vv := below_set (vv'.trans hbx) hX 0 (.slice ao7 (nr + 1) cp7)
    clear how hrow hgr hbx hone hst' vv' b8 hw8 g1 g2 g3 cy fy
    generalize hw9 : World.setCell wx ⟨w5.heap.size, 0, none⟩ (.slice ao7 (nr + 1) cp7) = wz at hst vv
    obtain ⟨⟨cx, cy⟩, fx, fy⟩ := hst.cell
    obtain ⟨⟨g0, g1⟩, y0, y1⟩ := cells2 (kept_block k2 vv)
    have hO := ((⟨hst.rows, hst.own, h.own.byte⟩ : VOwn _ w3.heap.size _ _ _ oo p qq ⟨zs ++ [r], v.own⟩).set2 (g := w2.heap.size) z3.out (.slice ao7 (nr + 1) cp7) (.slice oo p qq)).lt (base' := w.heap.size) b03.size
    have hbW := below_set (below_set (gr_trans b03 vv) (gr_trans b01 b12).size 0 (.slice ao7 (nr + 1) cp7)) (gr_trans b01 b12).size 1 (.slice oo p qq)
    rw [HZ.out] at hO
    have HO := hide hO
    clear hO hst
    go_wp2
    exact bodyPost_ret (v := .agg #[.slice ao7 (nr + 1) cp7, .slice oo p qq]) (by simp [results, Tryz.results121, go_sem, *]) rfl ⟨_, _, _, _, _, rfl, HO.out, hbW⟩
   ·have hz : zs = putRowF v.rows r false := by simpa [putRowF] using hzs
    have HZ := hide hz
    clear hz hzs hd0
    obtain ⟨⟨cx, cy⟩, fx, fy⟩ := hst.cell
    obtain ⟨⟨g0, g1⟩, y0, y1⟩ := cells2 (kept_block k2 vv)
    have hO := ((⟨hst.rows, hst.own, h.own.byte⟩ : VOwn _ w3.heap.size _ _ _ oo p qq ⟨zs, v.own⟩).set2 (g := w2.heap.size) z3.out (.slice ar nr cr) (.slice oo p qq)).lt (base' := w.heap.size) b03.size
    have hbW := below_set (below_set (gr_trans b03 vv) (gr_trans b01 b12).size 0 (.slice ar nr cr)) (gr_trans b01 b12).size 1 (.slice oo p qq)
    rw [HZ.out] at hO
    have HO := hide hO
    clear hO hst
    go_wp2
    exact bodyPost_ret (v := .agg #[.slice ar nr cr, .slice oo p qq]) (by simp [results, Tryz.results121, go_sem, *]) rfl ⟨_, _, _, _, _, rfl, HO.out, hbW⟩

end Go.Proofs.YtfknffdlmcckkaaGreat
