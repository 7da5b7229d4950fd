/-
  Packed: NetNewS MapWalk FdbList FdbImplR.
-/
import Derived.Test.YtdmplbmfkliiiaaGreatPNKW
import Derived.Test.YtdmplbmfkliiiaaGreatPNBrStepS
import Derived.Test.YtdmplbmfkliiiaaGreatPNFdbTable
import Derived.Test.YtdmplbmfkliiiaaGreatPNK01
import Derived.Test.YtdmplbmfkliiiaaGreatPNK04
import Derived.Test.YtdmplbmfkliiiaaGreatPNK24
import Derived.Test.YtdmplbmfkliiiaaGreatPNNetOkT
namespace Go.Proofs.YtdmplbmfkliiiaaGreat
open Go.RowKit

abbrev q280 : Oper := ⟨some 22, .load 28 (.tmp 21), 28, "l13_net.go:64", #[⟨0, .data⟩], none⟩
abbrev q281 : Oper := ⟨some 28, .call ⟨.value (.func 43), #[.tmp 26, .tmp 27], #[3, 3]⟩, 71, "l13_net.go:64", #[⟨5, .data⟩, ⟨6, .data⟩], none⟩
abbrev q282 : Oper := ⟨some 29, .buildSlice 28 1 #[(0, .tmp 28)], 28, "l13_net.go:64", #[⟨7, .data⟩], none⟩
abbrev q283 : Oper := ⟨some 30, .call ⟨.builtin .append, #[.tmp 22, .tmp 29], #[28, 28]⟩, 28, "l13_net.go:64", #[⟨1, .data⟩, ⟨8, .data⟩, ⟨7, .chain⟩], none⟩
abbrev q284 : Oper := ⟨some 31, .fieldAddr 31 (.tmp 7) 0, 0, "l13_net.go:64", #[⟨0, .phase⟩, ⟨1, .phase⟩, ⟨2, .phase⟩, ⟨3, .phase⟩, ⟨4, .phase⟩, ⟨5, .phase⟩, ⟨6, .phase⟩, ⟨7, .phase⟩, ⟨8, .phase⟩, ⟨9, .phase⟩], none⟩
abbrev q285 : Oper := ⟨none, .store 28 (.tmp 31) (.tmp 30), 0, "l13_net.go:64", #[⟨10, .data⟩, ⟨9, .data⟩, ⟨9, .chain⟩, ⟨0, .phase⟩, ⟨1, .phase⟩, ⟨2, .phase⟩, ⟨3, .phase⟩, ⟨4, .phase⟩, ⟨5, .phase⟩, ⟨6, .phase⟩, ⟨7, .phase⟩, ⟨8, .phase⟩, ⟨9, .phase⟩], none⟩

theorem newBs_next {ids : List Int} {ports : Int} {k : Nat} {id : Int} (h : ids[k]? = some id) : newBs (ids.take (k + 1)) ports = newBs (ids.take k) ports ++ [bridgeNewAt id ports] := by
 unfold newBs
 rw [List.take_add_one, h, List.map_append]
 rfl

theorem upBs_next {ids : List Int} {ports : Int} {k : Nat} {id : Int} (h : ids[k]? = some id) : upBs (ids.take (k + 1)) ports = upBs (ids.take k) ports ++ [raised (bridgeNewAt id ports)] := by
 unfold upBs
 rw [List.take_add_one, h, List.map_append]
 rfl

set_option maxRecDepth 100000 in
set_option maxHeartbeats 16000000 in
theorem specNetNew_made (ia : Option Addr) (im ic : Nat) (ids : List Int) (ports : Int) (la0 : Option Addr) (ln lc0 : Nat) (l : List LK) (w : World) (hI : IRow w ia im ic ids) (hL : GRow linkF w la0 ln lc0 l) (hs : ln ≤ 1048576) (hm : im ≤ 1048576) :
  Calls Tryz.prog 14 #[.slice ia im ic, .int .i64 ports, .slice la0 ln lc0] w fun e w' => NewAns ids ports l w e w' := by
 have hIs := hI.size
 generalize hw1 : w.alloc (Obj.cells #[.slice none 0 0, .slice none 0 0, .slice none 0 0] 31) = w1
 generalize hw2 : w1.alloc (Obj.cells #[] 44) = w2
 have b01 : Below w.heap.size w w1 := by rw [← hw1]; exact below_one _ _
 have b12 : Below w1.heap.size w1 w2 := by rw [← hw2]; exact below_one _ _
 have z1 : w1.heap.size = w.heap.size + 1 := by rw [← hw1]; simp
 have k2 : w2.heap[w1.heap.size]? = some (.cells #[] 44) := by rw [← hw2]; exact block_last _ _
 have b02 := gr_trans b01 b12
 have kJ : w2.heap[w.heap.size]? = some (.cells #[.slice none 0 0, .slice none 0 0, .slice none 0 0] 31) := kept_block (by rw [← hw1]; exact block_last _ _) b12
 have on : w2.ownsRow (w.heap.size + 1) 44 linkF.k (.slice (some ⟨w1.heap.size, 0, none⟩) 0 0) 0 (linkF.all []) := by
  have := flat_nil linkF w1 w2 44 w1.heap.size k2 (Nat.le_refl _)
  rw [z1] at this ⊢
  exact this
 have hz2 : w.heap.size + 1 ≤ w2.heap.size := by rw [← z1]; exact b12.size
 clear z1
 go_enter Tryz.func14, Tryz.ntmps14
 go_wp2_with (at_builtin; refine wpList_append_flat (F := linkF) _ rfl _ _ 25 44 rfl (w.heap.size + 1) Tryz.underlying25 linkInfo rfl (by decide) _ 0 [] rfl on la0 ln lc0 l rfl (hL.below b02) (by omega) hz2 ?_)
 intro la lc w3 oL _ hg3 hb3
 try simp only [Nat.zero_add, List.nil_append] at oL
 try simp only [Nat.zero_add, List.nil_append]
 have kR3 := kept_grown kJ hg3 (fun k hk => by have := (on.lt k hk).1; omega)
 have b03 : Below w.heap.size w w3 := b02.trans (hb3.mono (by omega))
 clear hw1 hw2 b01 b12 k2 kJ on hz2 b02 hg3 hb3
 go_wp2_with fail
 generalize hw4 : w3.alloc (Obj.cells #[.slice none 0 0, .slice la ln lc, .slice none 0 0] 31) = w4
 have b34 : Below w3.heap.size w3 w4 := by rw [← hw4]; exact below_one _ _
 have kX4 : w4.heap[w3.heap.size]? = some (.cells #[.slice none 0 0, .slice la ln lc, .slice none 0 0] 31) := by rw [← hw4]; exact block_last _ _
 have st0 : NnSt w w4 w3.heap.size la ln lc l none 0 0 [] := ⟨kX4, kept_block kR3 b34, bos_nil _ _, gown_below oL b34, gr_trans b03 b34, blk_lt kR3⟩
 generalize hX : w3.heap.size = X at *
 clear hw4 b34 kX4 kR3 b03 oL
 go_loopw [8] (fun i wr => ∃ (k : Nat) (ba : Option Addr) (bc : Nat) (bs : List BV), k ≤ im ∧ i = .int .i64 k ∧ NnSt w wr X la ln lc l ba k bc bs ∧ bs.map BV.B = newBs (ids.take k) ports) (fun i _ => im - (intOf i).toNat)
 case atStart => exact ⟨0, none, 0, [], Nat.zero_le _, rfl, st0, by simp [newBs]⟩
 case round =>
  obtain ⟨k, ba, bc, bs, hk, rfl, st, hM⟩ := hrel
  clear st0
  by_cases hlt : k < im
  ·obtain ⟨id, ib, io, hid, rfl, ci⟩ := irow_at hI k hlt
   have i1 : (0 : Int) ≤ (k : Int) := by omega
   have i2 : (k : Int) < (im : Int) := by omega
   have HI := hide hid
   have HM := hide hM
   have vv : Below wr.heap.size wr wr.drew := gr_drew (Below.refl _ _)
   have uu : Below w.heap.size w wr.drew := gr_trans st.below vv
   have x0 := (cells3m (kept_block st.box vv)).1
   clear hid hM
   go_wp2_with fail
   refine wp_region_held_drew (S := (fun W => W.cell? ⟨ib, io + k, none⟩ = some (.int .i64 id))) (by kernel_rfl) ((uu.cell (block_lt ci)).trans ci) (fun hHeld => ?_)
   refine kK 0 ⟨some 21, .fieldAddr 31 (.tmp 7) 0, 0, "l13_net.go:64", #[], none⟩ ?_
   refine kK 2 ⟨some 23, .move (.tmp 0), 24, "l13_net.go:64", #[], none⟩ ?_
   refine kK 3 ⟨some 24, .move (.tmp 8), 3, "l13_net.go:64", #[], none⟩ ?_
   refine kK 4 ⟨some 25, .indexAddr 24 (.tmp 23) (.tmp 24), 0, "l13_net.go:64", #[⟨2, .data⟩, ⟨3, .data⟩], none⟩ ?_
   refine kK 5 ⟨some 26, .load 3 (.tmp 25), 3, "l13_net.go:64", #[⟨4, .data⟩], none⟩ ?_
   refine kK 6 ⟨some 27, .move (.tmp 1), 3, "l13_net.go:64", #[], none⟩ ?_
   refine tR [1, 7] ?_
   refine AllReadyH.cons (o := q280) rfl (fun K hK => ?_) ?_
   ·go_simp
    refine hK.out _ _ ((uu.cell (block_lt ci)).trans ci) (fun hHeld => ?_)
    clear hK K
    try simp only [Act.put, lA, lB, lC]
    refine kR 7 q281 (fun K hK => ?_)
    go_simp
    refine (specNew_any id ports _).mono ?_
    rintro e wz ⟨a2, n2, c2, fa2, fn2, fc2, ra2, rn2, rc2, oa2, on2, oc2, rfl, ow2, hbz⟩
    have ow2 := BrOwn.lt ow2 (base' := wr.heap.size) vv.size
    have vv := gr_trans vv hbz
    have uu := gr_trans st.below vv
    have x0 := (cells3m (kept_block st.box vv)).1
    go_wp2_with fail
    refine hK.out _ _ ((uu.cell (block_lt ci)).trans ci) (fun hHeld => ?_)
    clear hK K
    try simp only [Act.put, lA, lB, lC]
    refine kR 8 q282 (fun K hK => ?_)
    go_simp
    first
    | refine made_new (K := K _) (fun wx kY hbx => ?_)
    | refine made_drew (K := K _) (fun wx kY hbx => ?_)
    have gz := vv.size
    have ow2 := BrOwn.below ow2 hbx
    have vv := gr_trans vv hbx
    have uu := gr_trans st.below vv
    have x0 := (cells3m (kept_block st.box vv)).1
    clear hbx
    refine hK.out _ _ ((uu.cell (block_lt ci)).trans ci) (fun hHeld => ?_)
    clear hK K
    try simp only [Act.put, lA, lB, lC]
    refine kR 9 q283 (fun K hK => ?_)
    have gn1 : GRow brF wx (some ⟨_, 0, none⟩) 1 1 [(⟨a2, n2, c2, fa2, fn2, fc2, ra2, rn2, rc2, oa2, on2, oc2, (bridgeNewAt id ports)⟩ : BV)] := grow_own (F := brF) (own_lit brF (base := 0) (l := [(⟨a2, n2, c2, fa2, fn2, fc2, ra2, rn2, rc2, oa2, on2, oc2, (bridgeNewAt id ports)⟩ : BV)]) kY rfl (Nat.zero_le _) (by simp))
    have hoN := st.b.below vv
    refine step_append_flat (F := brF) rfl _ _ 28 71 rfl (w.heap.size + 1) Tryz.underlying28 brInfo rfl (by decide) _ k bs rfl hoN.row _ 1 1 _ rfl gn1 (by omega) (Nat.le_trans st.size vv.size) ?_
    intro aL cL wL how _ hgr hbL
    obtain ⟨kX, uu, stN⟩ := st.push (y := (⟨a2, n2, c2, fa2, fn2, fc2, ra2, rn2, rc2, oa2, on2, oc2, (bridgeNewAt id ports)⟩ : BV)) vv ow2 hgr how
    have x0 := (cells3m kX).1
    have fz := frozen8 kX 0
    refine hK.out _ _ ((uu.cell (block_lt ci)).trans ci) (fun hHeld => ?_)
    clear hK K
    try simp only [Act.put, lA, lB, lC]
    refine kK 10 q284 ?_
    refine kR 11 q285 (fun K hK => ?_)
    go_simp
    have uu := stN.below
    refine hK.out _ _ ((uu.cell (block_lt ci)).trans ci) (fun hHeld => ?_)
    clear hK K
    try simp only [Act.put, lA, lB, lC]
    refine wpAnyH_done (by kernel_rfl) ?_ _
    have HST := hide stN
    clear hHeld how hgr hbL hoN kX uu x0 fz kY gn1 ow2 vv
    go_wp2
    go_roundw
    case rel => exact ⟨k + 1, aL, cL, _, by omega, by go_num, HST.out, by rw [List.map_append, HM.out, newBs_next HI.out]; rfl⟩
    case measure => simp [intOf]; omega
   refine AllReadyH.cons (o := q281) rfl (fun K hK => ?_) ?_
   ·go_simp
    refine (specNew_any id ports _).mono ?_
    rintro e wz ⟨a2, n2, c2, fa2, fn2, fc2, ra2, rn2, rc2, oa2, on2, oc2, rfl, ow2, hbz⟩
    have ow2 := BrOwn.lt ow2 (base' := wr.heap.size) vv.size
    have vv := gr_trans vv hbz
    have uu := gr_trans st.below vv
    have x0 := (cells3m (kept_block st.box vv)).1
    go_wp2_with fail
    refine hK.out _ _ ((uu.cell (block_lt ci)).trans ci) (fun hHeld => ?_)
    clear hK K
    try simp only [Act.put, lA, lB, lC]
    refine tR [1, 8] ?_
    refine AllReadyH.cons (o := q280) rfl (fun K hK => ?_) ?_
    ·go_simp
     refine hK.out _ _ ((uu.cell (block_lt ci)).trans ci) (fun hHeld => ?_)
     clear hK K
     try simp only [Act.put, lA, lB, lC]
     refine kR 8 q282 (fun K hK => ?_)
     go_simp
     first
     | refine made_new (K := K _) (fun wx kY hbx => ?_)
     | refine made_drew (K := K _) (fun wx kY hbx => ?_)
     have gz := vv.size
     have ow2 := BrOwn.below ow2 hbx
     have vv := gr_trans vv hbx
     have uu := gr_trans st.below vv
     have x0 := (cells3m (kept_block st.box vv)).1
     clear hbx
     refine hK.out _ _ ((uu.cell (block_lt ci)).trans ci) (fun hHeld => ?_)
     clear hK K
     try simp only [Act.put, lA, lB, lC]
     refine kR 9 q283 (fun K hK => ?_)
     have gn1 : GRow brF wx (some ⟨_, 0, none⟩) 1 1 [(⟨a2, n2, c2, fa2, fn2, fc2, ra2, rn2, rc2, oa2, on2, oc2, (bridgeNewAt id ports)⟩ : BV)] := grow_own (F := brF) (own_lit brF (base := 0) (l := [(⟨a2, n2, c2, fa2, fn2, fc2, ra2, rn2, rc2, oa2, on2, oc2, (bridgeNewAt id ports)⟩ : BV)]) kY rfl (Nat.zero_le _) (by simp))
     have hoN := st.b.below vv
     refine step_append_flat (F := brF) rfl _ _ 28 71 rfl (w.heap.size + 1) Tryz.underlying28 brInfo rfl (by decide) _ k bs rfl hoN.row _ 1 1 _ rfl gn1 (by omega) (Nat.le_trans st.size vv.size) ?_
     intro aL cL wL how _ hgr hbL
     obtain ⟨kX, uu, stN⟩ := st.push (y := (⟨a2, n2, c2, fa2, fn2, fc2, ra2, rn2, rc2, oa2, on2, oc2, (bridgeNewAt id ports)⟩ : BV)) vv ow2 hgr how
     have x0 := (cells3m kX).1
     have fz := frozen8 kX 0
     refine hK.out _ _ ((uu.cell (block_lt ci)).trans ci) (fun hHeld => ?_)
     clear hK K
     try simp only [Act.put, lA, lB, lC]
     refine kK 10 q284 ?_
     refine kR 11 q285 (fun K hK => ?_)
     go_simp
     have uu := stN.below
     refine hK.out _ _ ((uu.cell (block_lt ci)).trans ci) (fun hHeld => ?_)
     clear hK K
     try simp only [Act.put, lA, lB, lC]
     refine wpAnyH_done (by kernel_rfl) ?_ _
     have HST := hide stN
     clear hHeld how hgr hbL hoN kX uu x0 fz kY gn1 ow2 vv
     go_wp2
     go_roundw
     case rel => exact ⟨k + 1, aL, cL, _, by omega, by go_num, HST.out, by rw [List.map_append, HM.out, newBs_next HI.out]; rfl⟩
     case measure => simp [intOf]; omega
    refine AllReadyH.cons (o := q282) rfl (fun K hK => ?_) ?_
    ·go_simp
     first
     | refine made_new (K := K _) (fun wx kY hbx => ?_)
     | refine made_drew (K := K _) (fun wx kY hbx => ?_)
     have gz := vv.size
     have ow2 := BrOwn.below ow2 hbx
     have vv := gr_trans vv hbx
     have uu := gr_trans st.below vv
     have x0 := (cells3m (kept_block st.box vv)).1
     clear hbx
     refine hK.out _ _ ((uu.cell (block_lt ci)).trans ci) (fun hHeld => ?_)
     clear hK K
     try simp only [Act.put, lA, lB, lC]
     refine kR 1 q280 (fun K hK => ?_)
     go_simp
     refine hK.out _ _ ((uu.cell (block_lt ci)).trans ci) (fun hHeld => ?_)
     clear hK K
     try simp only [Act.put, lA, lB, lC]
     refine kR 9 q283 (fun K hK => ?_)
     have gn1 : GRow brF wx (some ⟨_, 0, none⟩) 1 1 [(⟨a2, n2, c2, fa2, fn2, fc2, ra2, rn2, rc2, oa2, on2, oc2, (bridgeNewAt id ports)⟩ : BV)] := grow_own (F := brF) (own_lit brF (base := 0) (l := [(⟨a2, n2, c2, fa2, fn2, fc2, ra2, rn2, rc2, oa2, on2, oc2, (bridgeNewAt id ports)⟩ : BV)]) kY rfl (Nat.zero_le _) (by simp))
     have hoN := st.b.below vv
     refine step_append_flat (F := brF) rfl _ _ 28 71 rfl (w.heap.size + 1) Tryz.underlying28 brInfo rfl (by decide) _ k bs rfl hoN.row _ 1 1 _ rfl gn1 (by omega) (Nat.le_trans st.size vv.size) ?_
     intro aL cL wL how _ hgr hbL
     obtain ⟨kX, uu, stN⟩ := st.push (y := (⟨a2, n2, c2, fa2, fn2, fc2, ra2, rn2, rc2, oa2, on2, oc2, (bridgeNewAt id ports)⟩ : BV)) vv ow2 hgr how
     have x0 := (cells3m kX).1
     have fz := frozen8 kX 0
     refine hK.out _ _ ((uu.cell (block_lt ci)).trans ci) (fun hHeld => ?_)
     clear hK K
     try simp only [Act.put, lA, lB, lC]
     refine kK 10 q284 ?_
     refine kR 11 q285 (fun K hK => ?_)
     go_simp
     have uu := stN.below
     refine hK.out _ _ ((uu.cell (block_lt ci)).trans ci) (fun hHeld => ?_)
     clear hK K
     try simp only [Act.put, lA, lB, lC]
     refine wpAnyH_done (by kernel_rfl) ?_ _
     have HST := hide stN
     clear hHeld how hgr hbL hoN kX uu x0 fz kY gn1 ow2 vv
     go_wp2
     go_roundw
     case rel => exact ⟨k + 1, aL, cL, _, by omega, by go_num, HST.out, by rw [List.map_append, HM.out, newBs_next HI.out]; rfl⟩
     case measure => simp [intOf]; omega
    exact AllReadyH.nil
   exact AllReadyH.nil
  ·have hkn : k = im := by omega
   rw [List.take_of_length_le (by omega)] at hM
   subst hkn
   obtain ⟨x0, x1, x2⟩ := cells3m st.box
   have hN : NetRow wr ⟨ba, k, bc, bs, la, ln, lc, l, none, 0, 0, []⟩ := ⟨st.b.grow, fun x hx => (st.b.item x hx).row, grow_own (F := linkF) st.l, grow_nil _ _⟩
   go_wp2_with fail
   refine (specNetOk_any ⟨ba, k, bc, bs, la, ln, lc, l, none, 0, 0, []⟩ _ hN (show ln ≤ 16777216 by omega)).mono ?_
   rintro e w6 ⟨q, rfl, hq, hb6⟩
   have hq2 : q = true ↔ NetOk (newBs ids ports) l [] := by rw [← hM]; exact hq
   clear hq
   have st := st.later hb6
   clear x0 x1 x2 hN hb6
   cases q
   ·have hno : ¬ NetOk (newBs ids ports) l [] := fun h => by have := hq2.2 h; cases this
    have HNO := hide hno
    clear hq2 hno
    obtain ⟨r0, r1, r2⟩ := cells3m st.res
    have f0 := frozen8 st.res 0
    have f1 := frozen8 st.res 1
    have f2 := frozen8 st.res 2
    have HB := hide (below_set (below_set (below_set st.below (Nat.le_refl _) 0 (.slice none 0 0)) (Nat.le_refl _) 1 (.slice none 0 0)) (Nat.le_refl _) 2 (.slice none 0 0))
    go_wp2
    all_goals first | (exfalso; rename_i hf; first | (rw [f0] at hf; cases hf) | (rw [f1] at hf; cases hf) | (rw [f2] at hf; cases hf)) | skip
    exact bodyPost_ret (v := .agg #[.slice none 0 0, .slice none 0 0, .slice none 0 0]) (by simp [results, Tryz.results14, go_sem, *]) rfl (new_none HNO.out HB.out)
   ·have hyes := hq2.1 rfl
    clear hq2
    have HYES := hide hyes
    have hlen : bs.length = k := st.b.grow.size
    have hbz : ∀ (i : Nat) (x : BV), bs[i]? = some x → ∃ id, ids[i]? = some id ∧ x.B = bridgeNewAt id ports := fun i x hx => by
     have : (newBs ids ports)[i]? = some x.B := by rw [← hM, List.getElem?_map, hx]; rfl
     exact newBs_at this
    have hkpos : 0 < k := by
     have := hyes.1.2.2.1
     rw [← hM] at this
     simp at this
     omega
    obtain ⟨m, hpm⟩ : ∃ m : Nat, ports = (m : Int) := by
     obtain ⟨x, hx⟩ : ∃ x, bs[0]? = some x := ⟨_, List.getElem?_eq_getElem (by omega)⟩
     obtain ⟨id, hid, hB⟩ := hbz 0 x hx
     exact ⟨_, (new_raised id ports).2.2.2.2.2 (hyes.1.1 _ (List.mem_of_getElem? (newBs_of hid)))⟩
    subst hpm
    have hpl : ∀ id, ids.contains id = true → (bridgeNewAt id (m : Int)).ports.length = m := fun id hid => by
     have hmem : id ∈ ids := by simpa using hid
     obtain ⟨i, hi⟩ := List.getElem?_of_mem hmem
     have := (new_raised id (m : Int)).2.2.2.2.2 (hyes.1.1 _ (List.mem_of_getElem? (newBs_of hi)))
     omega
    have hm6 : m ≤ 6 := by
     obtain ⟨x, hx⟩ : ∃ x, bs[0]? = some x := ⟨_, List.getElem?_eq_getElem (by omega)⟩
     obtain ⟨id, hid, hB⟩ := hbz 0 x hx
     have h1 := hpl id (by simpa using List.mem_of_getElem? hid)
     have h2 := (bridgeNew_parts id (m : Int)).2.1
     omega
    obtain ⟨g, off, hba, hoff⟩ : ∃ g off, ba = some ⟨g, off, none⟩ ∧ off = 0 := by
     rcases st.b.row.2 with ⟨e, h0⟩ | ⟨g, cap', cur, e, _⟩
     ·omega
     ·cases e; exact ⟨g, 0, rfl, rfl⟩
    subst hoff hba
    have HPL := hide hpl
    have HM := hide hM
    have HLEN := hide hlen
    have HIS := hide hIs
    have HKP := hide hkpos
    clear hM hlen hIs hkpos hlt hk
    have HBZ := hide hbz
    obtain ⟨x0, x1, x2⟩ := cells3m st.box
    clear hyes hbz hpl
    go_wp2_with fail
    clear x0 x1 x2
    go_loopw [9] (fun i wr => ∃ (j : Nat) (cs : List BV), j ≤ k ∧ i = .int .i64 j ∧ NnSt w wr X la ln lc l (some ⟨g, 0, none⟩) k bc cs ∧ cs.map BV.B = upBs (ids.take j) (m : Int) ++ (bs.drop j).map BV.B) (fun i _ => k - (intOf i).toNat)
    case atStart => exact ⟨0, bs, Nat.zero_le _, rfl, st, by simp [upBs]⟩
    case round =>
     obtain ⟨j, cs, hj, rfl, st, hC⟩ := hrel
     have hcl : cs.length = k := st.b.grow.size
     have hlen := HLEN.out
     have hIs := HIS.out
     obtain ⟨x0, x1, x2⟩ := cells3m st.box
     by_cases hlt : j < k
     ·obtain ⟨y, hy⟩ : ∃ y, bs[j]? = some y := ⟨_, List.getElem?_eq_getElem (by omega)⟩
      obtain ⟨id, hid, hB⟩ := HBZ.out j y hy
      have hul : (upBs (ids.take j) (m : Int)).length = j := by simp [upBs]; omega
      have hdr : bs.drop j = y :: bs.drop (j + 1) := by
       obtain ⟨h, rfl⟩ := List.getElem?_eq_some_iff.1 hy
       exact List.drop_eq_getElem_cons h
      rw [hdr, List.map_cons, hB] at hC
      obtain ⟨x, hx⟩ : ∃ x, cs[j]? = some x := ⟨_, List.getElem?_eq_getElem (by omega)⟩
      have hsp : cs = cs.take j ++ x :: cs.drop (j + 1) := by
       obtain ⟨h, rfl⟩ := List.getElem?_eq_some_iff.1 hx
       rw [← List.drop_eq_getElem_cons h, List.take_append_drop]
      have hpre : (cs.take j).map BV.B = upBs (ids.take j) (m : Int) := by
       have := congrArg (List.take j) hC
       rw [← List.map_take, List.take_left' hul] at this
       exact this
      have hxB : x.B = bridgeNewAt id (m : Int) := by
       have h1 : (cs.map BV.B)[j]? = some x.B := by rw [List.getElem?_map, hx]; rfl
       rw [hC, List.getElem?_append_right (by omega), hul, Nat.sub_self] at h1
       exact (Option.some.inj h1).symm
      have hpost : (cs.drop (j + 1)).map BV.B = (bs.drop (j + 1)).map BV.B := by
       have := congrArg (List.drop (j + 1)) hC
       rw [← List.map_drop] at this
       have hd0 : List.drop (j + 1) (upBs (ids.take j) (m : Int)) = [] := List.drop_eq_nil_of_le (by omega)
       rw [this, List.drop_append, hd0, List.nil_append, hul, show j + 1 - j = 1 by omega]
       rfl
      have hpm := HPL.out id (by simpa using List.mem_of_getElem? hid)
      have HPL2 : Hid ((cs.take j).length = j) := hide (by rw [List.length_take]; omega)
      have HPRE := hide hpre
      have HPOST := hide hpost
      have HID := hide hid
      have HPM := hide hpm
      rw [hsp] at st
      generalize hpr : cs.take j = pre at *
      generalize hpo : cs.drop (j + 1) = post at *
      clear hy hid hB hdr hC hx hsp hpre hpost hpm hcl hpr hpo hul hlen hIs
      go_wp2_with fail
      clear x0 x1 x2
      go_loopw [10] (fun i wr => ∃ (p : Nat) (x : BV), p ≤ m ∧ i = .int .i64 p ∧ x.B = raiseTo (bridgeNewAt id (m : Int)) p ∧ NnSt w wr X la ln lc l (some ⟨g, 0, none⟩) k bc (pre ++ x :: post)) (fun i _ => m - (intOf i).toNat)
      case atStart => exact ⟨0, x, Nat.zero_le _, rfl, hxB, st⟩
      case round =>
       clear st hxB x
       obtain ⟨p, x, hp, rfl, hxB, st⟩ := hrel
       by_cases hpm : p < m
       ·have HAT : Hid ((pre ++ x :: post)[j]? = some x) := hide (by rw [List.getElem?_append_right (by have := HPL2.out; omega), HPL2.out, Nat.sub_self]; rfl)
        have hx := st.b.item x (by simp)
        have HSM : Hid (x.n ≤ 1048576 ∧ x.fn ≤ 1048576 ∧ x.rn ≤ 1048576 ∧ x.on ≤ 1048576) := hide (by
         have e1 := hx.row.ports.size
         have e2 := hx.row.f.size
         have e3 := hx.row.v.rows.size
         have e4 := hx.row.v.own.size
         have l1 := raiseTo_less (bridgeNewAt id (m : Int)) p
         have l2 := bridgeNew_parts id (m : Int)
         rw [hxB] at e1 e2 e3 e4
         obtain ⟨l3, l4, l5⟩ := l1
         rw [l5] at e3 e4
         omega)
        have HXB : Hid (linkB x.B (p : Int) true = raiseTo (bridgeNewAt id (m : Int)) (p + 1)) := hide (by rw [hxB]; rfl)
        have i1 : (0 : Int) ≤ (j : Int) := by omega
        have i2 : (j : Int) < (k : Int) := by omega
        have i3 : (p : Int) < (m : Int) := by omega
        have vv : Below wr.heap.size wr wr.drew := gr_drew (Below.refl _ _)
        have kX := kept_block st.box vv
        obtain ⟨⟨ca0, ca1, ca2, ca3, ca4, ca5, ca6, ca7, ca8, ca9, ca10⟩, -⟩ := bridge_cells (st.b.below vv).row HAT.out
        clear hxB
        go_wp2_with fail
        refine wp_region_held_drew (S := (fun W => W.cell? ⟨X, 0, none⟩ = some (.slice (some ⟨g, 0, none⟩) k bc) ∧ W.cell? ⟨X, 1, none⟩ = some (.slice la ln lc) ∧ W.cell? ⟨X, 2, none⟩ = some (.slice none 0 0))) (by kernel_rfl) (cells3m kX) (fun hHeld => ?_)
        refine kK 0 ⟨some 48, .fieldAddr 31 (.tmp 7) 0, 0, "l13_net.go:71", #[], none⟩ ?_
        refine kK 1 ⟨some 49, .load 28 (.tmp 48), 28, "l13_net.go:71", #[⟨0, .data⟩], none⟩ ?_
        refine kK 2 ⟨some 50, .move (.tmp 9), 3, "l13_net.go:71", #[], none⟩ ?_
        refine kK 3 ⟨some 51, .fieldAddr 31 (.tmp 7) 0, 0, "l13_net.go:71", #[], none⟩ ?_
        refine kK 4 ⟨some 52, .load 28 (.tmp 51), 28, "l13_net.go:71", #[⟨3, .data⟩], none⟩ ?_
        refine kK 5 ⟨some 53, .move (.tmp 9), 3, "l13_net.go:71", #[], none⟩ ?_
        refine kK 6 ⟨some 54, .indexAddr 28 (.tmp 52) (.tmp 53), 0, "l13_net.go:71", #[⟨4, .data⟩, ⟨5, .data⟩], none⟩ ?_
        refine kK 8 ⟨some 56, .move (.tmp 10), 3, "l13_net.go:71", #[], none⟩ ?_
        refine kR 7 ⟨some 55, .load 71 (.tmp 54), 71, "l13_net.go:71", #[⟨6, .data⟩], none⟩ (fun K hK => ?_)
        go_simp
        refine hK.out _ _ (cells3m kX) (fun hHeld => ?_)
        clear hK K
        try simp only [Act.put, lA, lB, lC]
        refine kR 9 ⟨some 57, .call ⟨.value (.func 44), #[.tmp 55, .tmp 56, .const (.bool true)], #[71, 3, 4]⟩, 71, "l13_net.go:71", #[⟨7, .data⟩, ⟨8, .data⟩], none⟩ (fun K hK => ?_)
        go_simp
        refine (specLink_made x.a x.n x.c x.fa x.fn x.fc x.ra x.rn x.rc x.oa x.on x.oc x.B (p : Int) true _ ((hx.row).below vv) HSM.out.1 HSM.out.2.1 HSM.out.2.2.1 HSM.out.2.2.2).mono ?_
        rintro e wz ⟨a2, n2, c2, fa2, fn2, fc2, ra2, rn2, rc2, oa2, on2, oc2, rfl, ow2, hbz⟩
        have ow2 := BrOwn.lt ow2 (base' := wr.heap.size) vv.size
        have vv := gr_trans vv hbz
        have kX := kept_block st.box vv
        have hrow := (st.b.below vv).row
        obtain ⟨⟨t0, t1, t2, t3, t4, t5, t6, t7, t8, t9, t10⟩, f0, f1, f2, f3, f4, f5, f6, f7, f8, f9, f10⟩ := bridge_cells hrow HAT.out
        go_wp2_with fail
        refine hK.out _ _ (cells3m kX) (fun hHeld => ?_)
        clear hK K
        try simp only [Act.put, lA, lB, lC]
        refine kK 10 ⟨some 58, .indexAddr 28 (.tmp 49) (.tmp 50), 0, "l13_net.go:71", #[⟨1, .data⟩, ⟨2, .data⟩, ⟨0, .phase⟩, ⟨1, .phase⟩, ⟨2, .phase⟩, ⟨3, .phase⟩, ⟨4, .phase⟩, ⟨5, .phase⟩, ⟨6, .phase⟩, ⟨7, .phase⟩, ⟨8, .phase⟩, ⟨9, .phase⟩], none⟩ ?_
        refine kR 11 ⟨none, .store 71 (.tmp 58) (.tmp 57), 0, "l13_net.go:71", #[⟨10, .data⟩, ⟨9, .data⟩, ⟨9, .chain⟩, ⟨0, .phase⟩, ⟨1, .phase⟩, ⟨2, .phase⟩, ⟨3, .phase⟩, ⟨4, .phase⟩, ⟨5, .phase⟩, ⟨6, .phase⟩, ⟨7, .phase⟩, ⟨8, .phase⟩, ⟨9, .phase⟩], none⟩ (fun K hK => ?_)
        go_simp
        refine bridge_over (⟨a2, n2, c2, fa2, fn2, fc2, ra2, rn2, rc2, oa2, on2, oc2, (linkB x.B (p : Int) true)⟩ : BV) HPL2.out (K := K _) hrow (fun wq hq hgq => ?_)
        have stN := st.put (y := (⟨a2, n2, c2, fa2, fn2, fc2, ra2, rn2, rc2, oa2, on2, oc2, (linkB x.B (p : Int) true)⟩ : BV)) vv ow2 hgq hq
        have kX := stN.box
        refine hK.out _ _ (cells3m kX) (fun hHeld => ?_)
        clear hK K
        try simp only [Act.put, lA, lB, lC]
        refine wpAnyH_done (by kernel_rfl) ?_ _
        have HST := hide stN
        clear hHeld kX hq hgq hrow ow2 vv
        go_wp2
        go_roundw
        case rel => exact ⟨p + 1, _, by omega, by go_num, HXB.out, HST.out⟩
        case measure => simp [intOf]; omega
       ·have hpx : p = m := by omega
        have HC : Hid ((pre ++ x :: post).map BV.B = upBs (ids.take (j + 1)) (m : Int) ++ (bs.drop (j + 1)).map BV.B) := hide (by
         rw [List.map_append, List.map_cons, HPRE.out, HPOST.out, hxB, upBs_next HID.out, List.append_assoc]
         have : raiseTo (bridgeNewAt id (m : Int)) p = raised (bridgeNewAt id (m : Int)) := by unfold raised; rw [HPM.out, hpx]
         rw [this]
         rfl)
        have HST := hide st
        clear st hxB
        go_wp2
        go_roundw
        case rel => exact ⟨j + 1, _, by omega, by go_num, HST.out, HC.out⟩
        case measure => simp [intOf]; omega
     ·have hjk : j = k := by omega
      have hup : cs.map BV.B = upBs ids (m : Int) := by
       rw [hC, List.drop_eq_nil_of_le (by omega), List.take_of_length_le (by omega)]
       simp
      have HUP := hide hup
      obtain ⟨r0, r1, r2⟩ := cells3m st.res
      have f0 := frozen8 st.res 0
      have f1 := frozen8 st.res 1
      have f2 := frozen8 st.res 2
      have ne1 : ¬ w.heap.size = X := by have := st.lt; omega
      have ne2 : ¬ X = w.heap.size := by have := st.lt; omega
      have HO := hide st.out.1
      have HB := hide st.out.2
      clear hup hC st hlen hIs hcl hjk
      go_wp2
      all_goals first | (exfalso; rename_i hf; first | (rw [f0] at hf; cases hf) | (rw [f1] at hf; cases hf) | (rw [f2] at hf; cases hf)) | skip
      exact bodyPost_ret (v := .agg #[.slice (some ⟨g, 0, none⟩) k bc, .slice la ln lc, .slice none 0 0]) (by simp [results, Tryz.results14, go_sem, *]) rfl (show NewAns ids (m : Int) l w _ _ from ⟨⟨some ⟨g, 0, none⟩, k, bc, cs, la, ln, lc, l, none, 0, 0, []⟩, rfl, HO.out, ⟨fun _ => ⟨HUP.out, rfl⟩, fun h => absurd HYES.out h⟩, HB.out⟩)

theorem wpList_range_fe (w : World) {ops : Array Oper} {rest : List Oper} {o : Oper} {a : Act} {Q : Exit → Act → World → Prop} (hg : o.guard = none) (m : Operand) (hop : o.op = Op.range 202 m) (b n : Nat) (g : FK → Option FE)
  (hm : a.eval m = .map (some b)) (h : MapIs mE w b n g)
  (hK : ∀ w' cnt, Ranging mE w' b w.heap.size n g (fun k => (g k).isSome) cnt → Below w.heap.size w w' → w'.heap.size = w.heap.size + 1 → wpList Tryz.prog ops Q rest (a.put o.dst (.pointer (some ⟨w.heap.size, 0, none⟩))) w') :
  wpList Tryz.prog ops Q (o :: rest) a w := by
 refine wpList_plain hg fun K' hK' => ?_
 obtain ⟨w', cnt, hrun, r1, r2, r3⟩ := h.range
 have hrun : (Instr.range 202 (.map (some b))).run Tryz.prog w = .ok (.pointer (some ⟨w.heap.size, 0, none⟩)) w' := hrun
 unfold Oper.wp
 simp [execOp, hop, hm, hrun, Result.andThen]
 exact hK' _ _ (hK w' cnt r1 r2 r3)

structure NxS where
 y : FK
 v : FE
 w : World
 cnt : Nat

structure NxOk (w : World) (b r n : Nat) (g : FK → Option FE) (left : FK → Bool) (cnt : Nat) (s : NxS) : Prop where
 ok : FKok s.y
 lf : left s.y = true
 gt : g s.y = some s.v
 rg : Ranging mE s.w b r n g (upd left s.y false) s.cnt
 lt : s.cnt < cnt
 gr : w.grownBy s.w (some r)
 en : (Instr.entry (.pointer (some ⟨r, 0, none⟩))).run Tryz.prog s.w = .ok (.tuple #[.agg #[.int .i64 s.y.1, .int .i64 s.y.2.1, .int .i64 s.y.2.2], .agg #[.int .i64 s.v.t, .int .i64 s.v.m, .int .i64 s.v.p, .int .i64 s.v.a, .bool s.v.s]]) s.w

def noneLeft (left : FK → Bool) : Prop := ∀ k, left k = false

theorem wpList_next_fe (w : World) {ops : Array Oper} {rest : List Oper} {o : Oper} {a : Act} {Q : Exit → Act → World → Prop} (hg : o.guard = none) (it : Operand) (hop : o.op = Op.next it false) (b r n : Nat) (g : FK → Option FE) (left : FK → Bool) (cnt : Nat)
  (hit : a.eval it = .pointer (some ⟨r, 0, none⟩)) (h : Ranging mE w b r n g left cnt)
  (hDone : noneLeft left → wpList Tryz.prog ops Q rest (a.put o.dst (.tuple #[.bool false])) w)
  (hMore : ∀ s : NxS, NxOk w b r n g left cnt s →
   wpList Tryz.prog ops Q rest (a.put o.dst (.tuple #[.bool true, .agg #[.int .i64 s.y.1, .int .i64 s.y.2.1, .int .i64 s.y.2.2], .agg #[.int .i64 s.v.t, .int .i64 s.v.m, .int .i64 s.v.p, .int .i64 s.v.a, .bool s.v.s]])) s.w) :
  wpList Tryz.prog ops Q (o :: rest) a w := by
 refine wpList_plain hg fun K' hK' => ?_
 unfold Oper.wp
 rcases h.next o.type with ⟨_, hl, hrun⟩ | ⟨y, v, w', cnt', h1, h2, h3, hrun, h4, h5, h6, h7, h8⟩
 ·simp [execOp, hop, hit, hrun, Result.andThen]
  exact hK' _ _ (hDone hl)
 ·simp [execOp, hop, hit, hrun, Result.andThen]
  exact hK' _ _ (hMore ⟨y, v, w', cnt'⟩ ⟨h1, h2, h3, h4, h5, h6, h8⟩)

def midF (f : FE → Option FE) (g : FK → Option FE) (left : FK → Bool) : FK → Option FE := fun k => if left k = true then g k else (g k).bind f

theorem mid_start (f : FE → Option FE) (g : FK → Option FE) : midF f g (fun k => (g k).isSome) = g := by
 funext k
 unfold midF
 cases h : g k <;> simp [h]

theorem mid_end (f : FE → Option FE) (g : FK → Option FE) {left : FK → Bool} (h : ∀ k, left k = false) : midF f g left = fun k => (g k).bind f := by
 funext k
 unfold midF
 rw [h k]
 rfl

theorem mid_at {f : FE → Option FE} {g : FK → Option FE} {left : FK → Bool} {y : FK} {v : FE} (h : left y = true) (hv : midF f g left y = some v) : g y = some v := by
 unfold midF at hv
 rw [if_pos h] at hv
 exact hv

theorem mid_next {f : FE → Option FE} {g : FK → Option FE} {left : FK → Bool} {y : FK} {v : FE} (h : left y = true) (hv : midF f g left y = some v) : upd (midF f g left) y (f v) = midF f g (upd left y false) := by
 have hg := mid_at h hv
 funext k
 by_cases e : k = y
 ·subst e
  rw [upd_same]
  unfold midF
  rw [upd_same, hg]
  rfl
 ·rw [upd_other _ _ e]
  unfold midF
  rw [upd_other left _ e]

theorem ents_mem {l : List FE} {k : FK} {e : FE} (h : entsOf l k = some e) : e ∈ l := by
 by_cases hk : k ∈ keysOf l
 ·obtain ⟨i, hi⟩ := List.getElem?_of_mem hk
  obtain ⟨e', he', hk'⟩ := keys_at hi
  rw [h] at hk'
  cases hk'
  exact List.mem_of_getElem? he'
 ·rw [ents_none l hk] at h
  cases h

abbrev q331 : Oper := ⟨some 18, .move (.tmp 0), 199, "l08_fdb.go:173", #[], none⟩
abbrev q332 : Oper := ⟨some 19, .nilCheck (.tmp 18), 0, "l08_fdb.go:173", #[⟨0, .data⟩], none⟩
abbrev q333 : Oper := ⟨some 20, .fieldAddr 204 (.tmp 19) 1, 0, "l08_fdb.go:173", #[⟨1, .data⟩], none⟩
abbrev q334 : Oper := ⟨some 21, .load 202 (.tmp 20), 202, "l08_fdb.go:173", #[⟨2, .data⟩], none⟩
abbrev q335 : Oper := ⟨some 22, .load 206 (.tmp 5), 206, "l08_fdb.go:173", #[], none⟩
abbrev q336 : Oper := ⟨some 23, .lookup 202 (.tmp 21) (.tmp 22) true, 225, "l08_fdb.go:173", #[⟨3, .data⟩, ⟨4, .data⟩], none⟩
abbrev q337 : Oper := ⟨some 17, .move (.tmp 23), 225, "l08_fdb.go:173", #[⟨5, .data⟩], none⟩
abbrev q338 : Oper := ⟨some 24, .extract (.tmp 17) 0, 112, "l08_fdb.go:173", #[⟨6, .data⟩], none⟩
abbrev q339 : Oper := ⟨some 25, .extract (.tmp 17) 1, 4, "l08_fdb.go:173", #[⟨6, .data⟩, { on := 10, ground := Ground.gcOnly Departure.lateStores }], none⟩
abbrev q340 : Oper := ⟨some 6, .alloc 112, 0, "l08_fdb.go:173", #[], none⟩
abbrev q341 : Oper := ⟨none, .store 112 (.tmp 6) (.tmp 24), 0, "l08_fdb.go:173", #[⟨9, .data⟩, ⟨7, .data⟩, ⟨0, .phase⟩, ⟨1, .phase⟩, ⟨2, .phase⟩, ⟨3, .phase⟩, ⟨4, .phase⟩, ⟨5, .phase⟩, ⟨6, .phase⟩, ⟨7, .phase⟩, { on := 8, ground := Ground.textOnly Departure.lateStores }, ⟨9, .phase⟩], none⟩
abbrev q342 : Oper := ⟨some 7, .assign (.tmp 25), 4, "l08_fdb.go:173", #[⟨8, .data⟩, ⟨10, .chain⟩, ⟨0, .phase⟩, ⟨1, .phase⟩, ⟨2, .phase⟩, ⟨3, .phase⟩, ⟨4, .phase⟩, ⟨5, .phase⟩, ⟨6, .phase⟩, ⟨7, .phase⟩, ⟨8, .phase⟩, ⟨9, .phase⟩, ⟨10, .phase⟩], none⟩

set_option maxRecDepth 100000 in
set_option maxHeartbeats 8000000 in
theorem list_any {N : Nat} (w : World) (base p bm : Nat) (ks : List FK) (g : FK → Option FE) (h : TabN N w base p bm ks g) :
  Calls Tryz.prog 177 #[.pointer (some ⟨p, 0, none⟩)] w fun r w' => ∃ ao' cap', r = .returned (.slice ao' (ks.filterMap g).length cap') ∧ w'.ownsRow w.heap.size 112 5 (.slice ao' (ks.filterMap g).length cap') (ks.filterMap g).length (fentF.all (ks.filterMap g)) ∧ GRow fentF w' ao' (ks.filterMap g).length cap' (ks.filterMap g) ∧ Below w.heap.size w w' := by
 obtain ⟨ao, cap, hbox, hown⟩ := h.box
 have hrow := grow_own (F := fkF) hown
 have hmap := h.map
 have hoks := h.oks
 have hfew := h.few
 have htop := Nat.le_trans hrow.le hrow.top
 unfold maxLen at htop
 obtain ⟨⟨p0, p1⟩, -⟩ := cells2 hbox
 clear h hown
 go_enter Tryz.func177, Tryz.ntmps177
 go_wp2
 go_loopw [3, 13] (fun o i wr => ∃ (k : Nat) (zs : List FE) (az : Option Addr) (cz nz : Nat), k ≤ ks.length ∧ i = .int .i64 k ∧ o = .slice az nz cz ∧ zs.length = nz ∧ nz ≤ k ∧ wr.ownsRow w.heap.size 112 5 (.slice az nz cz) nz (fentF.all zs) ∧ zs ++ (ks.drop k).filterMap g = ks.filterMap g ∧ Below w.heap.size w wr) (fun _ i _ => ks.length - (intOf i).toNat)
 case atStart => exact ⟨0, [], none, 0, 0, Nat.zero_le _, rfl, rfl, rfl, Nat.zero_le _, World.ownsRow_nil _ _ _ _, by simp, Below.refl _ _⟩
 case round =>
  obtain ⟨k, zs, az, cz, nz, hk, rfl, rfl, hzs, hnz, how, hz, hb⟩ := hrel
  by_cases hlt : k < ks.length
  ·obtain ⟨y, b, off, hy, rfl, a0, a1, a2⟩ := fk_at (hrow.below hb) k hlt
   have hyk := hoks y (List.mem_of_getElem? hy)
   have hdr : ks.drop k = y :: ks.drop (k + 1) := by
    obtain ⟨h1, rfl⟩ := List.getElem?_eq_some_iff.1 hy
    exact List.drop_eq_getElem_cons h1
   have hpx := kept_block hbox hb
   have hmap := hmap.kept hb
   clear hy
   cases hgy : g y with
   | some e =>
    have hS : ∀ W, Below (wr.alloc (.cells #[.int .i64 y.1, .int .i64 y.2.1, .int .i64 y.2.2] 206)).heap.size (wr.alloc (.cells #[.int .i64 y.1, .int .i64 y.2.1, .int .i64 y.2.2] 206)) W → (W.cell? ⟨p, 1, none⟩ = some (.map (some bm)) ∧ (W.cell? ⟨wr.heap.size, 0, none⟩ = some (.int .i64 y.1) ∧ W.cell? ⟨wr.heap.size, 1, none⟩ = some (.int .i64 y.2.1) ∧ W.cell? ⟨wr.heap.size, 2, none⟩ = some (.int .i64 y.2.2)) ∧ (Instr.lookup 202 (.map (some bm)) (.agg #[.int .i64 y.1, .int .i64 y.2.1, .int .i64 y.2.2]) true).run Tryz.prog W = .ok (.tuple #[.agg #[.int .i64 e.t, .int .i64 e.m, .int .i64 e.p, .int .i64 e.a, .bool e.s], .bool true]) W) := by
     intro W hW
     have hW1 : Below wr.heap.size wr W := gr_trans (below_one wr (.cells #[.int .i64 y.1, .int .i64 y.2.1, .int .i64 y.2.2] 206)) hW
     refine ⟨(cells2 (kept_block hpx hW1)).1.2, (cells3 (kept_block (block_last wr (.cells #[.int .i64 y.1, .int .i64 y.2.1, .int .i64 y.2.2] 206)) hW)).1, ?_⟩
     have := (hmap.kept hW1).look true hyk
     rw [hgy] at this
     exact this
    have HSS := hide hS
    clear hS
    go_wp2_with fail
    refine wp_region_held_drew (S := (fun W => W.cell? ⟨p, 1, none⟩ = some (.map (some bm)) ∧ (W.cell? ⟨wr.heap.size, 0, none⟩ = some (.int .i64 y.1) ∧ W.cell? ⟨wr.heap.size, 1, none⟩ = some (.int .i64 y.2.1) ∧ W.cell? ⟨wr.heap.size, 2, none⟩ = some (.int .i64 y.2.2)) ∧ (Instr.lookup 202 (.map (some bm)) (.agg #[.int .i64 y.1, .int .i64 y.2.1, .int .i64 y.2.2]) true).run Tryz.prog W = .ok (.tuple #[.agg #[.int .i64 e.t, .int .i64 e.m, .int .i64 e.p, .int .i64 e.a, .bool e.s], .bool true]) W)) (by kernel_rfl) (by first | exact HSS.out _ (gr_drew (Below.refl _ _)) | exact HSS.out _ (gr_drew (below_one _ _))) (fun hHeld => ?_)
    refine kK 0 q331 ?_
    refine kK 1 q332 ?_
    refine kK 2 q333 ?_
    refine kK 3 q334 ?_
    refine kK 4 q335 ?_
    refine kK 5 q336 ?_
    refine kK 6 q337 ?_
    refine kK 7 q338 ?_
    refine kK 8 q339 ?_
    refine kR 9 q340 (fun K hK => ?_)
    go_simp
    refine hK.out _ _ (by first | exact HSS.out _ (gr_drew (Below.refl _ _)) | exact HSS.out _ (gr_drew (below_one _ _))) (fun hHeld => ?_)
    clear hK K
    try simp only [Act.put, lA, lB, lC]
    refine kR 10 q341 (fun K hK => ?_)
    go_simp
    refine hK.out _ _ (by first | exact HSS.out _ (gr_drew (Below.refl _ _)) | exact HSS.out _ (gr_drew (below_one _ _))) (fun hHeld => ?_)
    clear hK K
    try simp only [Act.put, lA, lB, lC]
    refine kK 11 q342 ?_
    refine wpAnyH_done (by kernel_rfl) ?_ _
    have o2 : (((wr.alloc (.cells #[.int .i64 y.1, .int .i64 y.2.1, .int .i64 y.2.2] 206)).alloc (.cells #[.int .i64 e.t, .int .i64 e.m, .int .i64 e.p, .int .i64 e.a, .bool e.s] 112)).drew).ownsRow w.heap.size 112 5 (.slice az nz cz) nz (fentF.all zs) := gown_below how (gr_drew (gr_alloc (below_one wr (.cells #[.int .i64 y.1, .int .i64 y.2.1, .int .i64 y.2.2] 206)) (.cells #[.int .i64 e.t, .int .i64 e.m, .int .i64 e.p, .int .i64 e.a, .bool e.s] 112)))
    have b2 : Below w.heap.size w (((wr.alloc (.cells #[.int .i64 y.1, .int .i64 y.2.1, .int .i64 y.2.2] 206)).alloc (.cells #[.int .i64 e.t, .int .i64 e.m, .int .i64 e.p, .int .i64 e.a, .bool e.s] 112)).drew) := gr_trans hb (gr_drew (gr_alloc (below_one wr (.cells #[.int .i64 y.1, .int .i64 y.2.1, .int .i64 y.2.2] 206)) (.cells #[.int .i64 e.t, .int .i64 e.m, .int .i64 e.p, .int .i64 e.a, .bool e.s] 112)))
    have x2 : (((wr.alloc (.cells #[.int .i64 y.1, .int .i64 y.2.1, .int .i64 y.2.2] 206)).alloc (.cells #[.int .i64 e.t, .int .i64 e.m, .int .i64 e.p, .int .i64 e.a, .bool e.s] 112)).drew).heap[wr.heap.size + 1]? = some (.cells #[.int .i64 e.t, .int .i64 e.m, .int .i64 e.p, .int .i64 e.a, .bool e.s] 112) := by
     have := block_last (wr.alloc (.cells #[.int .i64 y.1, .int .i64 y.2.1, .int .i64 y.2.2] 206)) (.cells #[.int .i64 e.t, .int .i64 e.m, .int .i64 e.p, .int .i64 e.a, .bool e.s] 112)
     rw [show (wr.alloc (.cells #[.int .i64 y.1, .int .i64 y.2.1, .int .i64 y.2.2] 206)).heap.size = wr.heap.size + 1 by simp] at this
     exact this
    clear HSS hHeld how hb hpx hmap
    generalize hw2 : ((wr.alloc (.cells #[.int .i64 y.1, .int .i64 y.2.1, .int .i64 y.2.2] 206)).alloc (.cells #[.int .i64 e.t, .int .i64 e.m, .int .i64 e.p, .int .i64 e.a, .bool e.s] 112)).drew = w2 at *
    clear hw2
    obtain ⟨⟨x0, x1, x3, x4, x5⟩, -⟩ := cells5 x2
    have o3 := gown_below o2 (below_one w2 (.cells #[.int .i64 e.t, .int .i64 e.m, .int .i64 e.p, .int .i64 e.a, .bool e.s] 112))
    have HBR := hide (gr_trans b2 (below_one w2 (.cells #[.int .i64 e.t, .int .i64 e.m, .int .i64 e.p, .int .i64 e.a, .bool e.s] 112)))
    have hbase9 : w.heap.size ≤ (w2.alloc (.cells #[.int .i64 e.t, .int .i64 e.m, .int .i64 e.p, .int .i64 e.a, .bool e.s] 112)).heap.size := HBR.out.size
    have hl1 : (zs ++ [e]).length = nz + 1 := by simp [hzs]
    have HL := hide hl1
    have HQ := hide (show zs ++ [e] ++ (ks.drop (k + 1)).filterMap g = ks.filterMap g by rw [← hz, hdr, List.filterMap_cons, hgy, List.append_assoc]; rfl)
    clear o2 b2 hz hl1 x2
    go_wp2_with (at_builtin; refine fent_append _ rfl _ _ rfl w.heap.size _ nz zs rfl o3 _ 1 1 [e] rfl (grow_one fentF _ e _ _ rfl) (by omega) hbase9 ?_)
    intro ao9 cap9 w9 how9 hr9 hgr9 hb9
    have HB9 := hide (HBR.out.trans hb9)
    have HO := hide how9
    clear how9 hr9 hgr9 hb9 o3 HBR x0 x1 x3 x4 x5
    go_wp2
    go_roundw
    case rel => exact ⟨k + 1, zs ++ [e], ao9, cap9, nz + 1, by omega, by go_num, rfl, HL.out, by omega, HO.out, HQ.out, HB9.out⟩
    case measure => simp [intOf]; omega
   | none =>
    have hS : ∀ W, Below (wr.alloc (.cells #[.int .i64 y.1, .int .i64 y.2.1, .int .i64 y.2.2] 206)).heap.size (wr.alloc (.cells #[.int .i64 y.1, .int .i64 y.2.1, .int .i64 y.2.2] 206)) W → (W.cell? ⟨p, 1, none⟩ = some (.map (some bm)) ∧ (W.cell? ⟨wr.heap.size, 0, none⟩ = some (.int .i64 y.1) ∧ W.cell? ⟨wr.heap.size, 1, none⟩ = some (.int .i64 y.2.1) ∧ W.cell? ⟨wr.heap.size, 2, none⟩ = some (.int .i64 y.2.2)) ∧ (Instr.lookup 202 (.map (some bm)) (.agg #[.int .i64 y.1, .int .i64 y.2.1, .int .i64 y.2.2]) true).run Tryz.prog W = .ok (.tuple #[.agg #[.int .i64 0, .int .i64 0, .int .i64 0, .int .i64 0, .bool false], .bool false]) W) := by
     intro W hW
     have hW1 : Below wr.heap.size wr W := gr_trans (below_one wr (.cells #[.int .i64 y.1, .int .i64 y.2.1, .int .i64 y.2.2] 206)) hW
     refine ⟨(cells2 (kept_block hpx hW1)).1.2, (cells3 (kept_block (block_last wr (.cells #[.int .i64 y.1, .int .i64 y.2.1, .int .i64 y.2.2] 206)) hW)).1, ?_⟩
     have := (hmap.kept hW1).look true hyk
     rw [hgy] at this
     exact this
    have HSS := hide hS
    clear hS
    go_wp2_with fail
    refine wp_region_held_drew (S := (fun W => W.cell? ⟨p, 1, none⟩ = some (.map (some bm)) ∧ (W.cell? ⟨wr.heap.size, 0, none⟩ = some (.int .i64 y.1) ∧ W.cell? ⟨wr.heap.size, 1, none⟩ = some (.int .i64 y.2.1) ∧ W.cell? ⟨wr.heap.size, 2, none⟩ = some (.int .i64 y.2.2)) ∧ (Instr.lookup 202 (.map (some bm)) (.agg #[.int .i64 y.1, .int .i64 y.2.1, .int .i64 y.2.2]) true).run Tryz.prog W = .ok (.tuple #[.agg #[.int .i64 0, .int .i64 0, .int .i64 0, .int .i64 0, .bool false], .bool false]) W)) (by kernel_rfl) (by first | exact HSS.out _ (gr_drew (Below.refl _ _)) | exact HSS.out _ (gr_drew (below_one _ _))) (fun hHeld => ?_)
    refine kK 0 q331 ?_
    refine kK 1 q332 ?_
    refine kK 2 q333 ?_
    refine kK 3 q334 ?_
    refine kK 4 q335 ?_
    refine kK 5 q336 ?_
    refine kK 6 q337 ?_
    refine kK 7 q338 ?_
    refine kK 8 q339 ?_
    refine kR 9 q340 (fun K hK => ?_)
    go_simp
    refine hK.out _ _ (by first | exact HSS.out _ (gr_drew (Below.refl _ _)) | exact HSS.out _ (gr_drew (below_one _ _))) (fun hHeld => ?_)
    clear hK K
    try simp only [Act.put, lA, lB, lC]
    refine kR 10 q341 (fun K hK => ?_)
    go_simp
    refine hK.out _ _ (by first | exact HSS.out _ (gr_drew (Below.refl _ _)) | exact HSS.out _ (gr_drew (below_one _ _))) (fun hHeld => ?_)
    clear hK K
    try simp only [Act.put, lA, lB, lC]
    refine kK 11 q342 ?_
    refine wpAnyH_done (by kernel_rfl) ?_ _
    have o2 : (((wr.alloc (.cells #[.int .i64 y.1, .int .i64 y.2.1, .int .i64 y.2.2] 206)).alloc (.cells #[.int .i64 0, .int .i64 0, .int .i64 0, .int .i64 0, .bool false] 112)).drew).ownsRow w.heap.size 112 5 (.slice az nz cz) nz (fentF.all zs) := gown_below how (gr_drew (gr_alloc (below_one wr (.cells #[.int .i64 y.1, .int .i64 y.2.1, .int .i64 y.2.2] 206)) (.cells #[.int .i64 0, .int .i64 0, .int .i64 0, .int .i64 0, .bool false] 112)))
    have b2 : Below w.heap.size w (((wr.alloc (.cells #[.int .i64 y.1, .int .i64 y.2.1, .int .i64 y.2.2] 206)).alloc (.cells #[.int .i64 0, .int .i64 0, .int .i64 0, .int .i64 0, .bool false] 112)).drew) := gr_trans hb (gr_drew (gr_alloc (below_one wr (.cells #[.int .i64 y.1, .int .i64 y.2.1, .int .i64 y.2.2] 206)) (.cells #[.int .i64 0, .int .i64 0, .int .i64 0, .int .i64 0, .bool false] 112)))
    have x2 : (((wr.alloc (.cells #[.int .i64 y.1, .int .i64 y.2.1, .int .i64 y.2.2] 206)).alloc (.cells #[.int .i64 0, .int .i64 0, .int .i64 0, .int .i64 0, .bool false] 112)).drew).heap[wr.heap.size + 1]? = some (.cells #[.int .i64 0, .int .i64 0, .int .i64 0, .int .i64 0, .bool false] 112) := by
     have := block_last (wr.alloc (.cells #[.int .i64 y.1, .int .i64 y.2.1, .int .i64 y.2.2] 206)) (.cells #[.int .i64 0, .int .i64 0, .int .i64 0, .int .i64 0, .bool false] 112)
     rw [show (wr.alloc (.cells #[.int .i64 y.1, .int .i64 y.2.1, .int .i64 y.2.2] 206)).heap.size = wr.heap.size + 1 by simp] at this
     exact this
    clear HSS hHeld how hb hpx hmap
    generalize hw2 : ((wr.alloc (.cells #[.int .i64 y.1, .int .i64 y.2.1, .int .i64 y.2.2] 206)).alloc (.cells #[.int .i64 0, .int .i64 0, .int .i64 0, .int .i64 0, .bool false] 112)).drew = w2 at *
    clear hw2
    have HQ := hide (show zs ++ (ks.drop (k + 1)).filterMap g = ks.filterMap g by rw [← hz, hdr, List.filterMap_cons, hgy])
    have HO := hide o2
    have HB9 := hide b2
    clear o2 b2 hz x2
    go_wp2
    go_roundw
    case rel => exact ⟨k + 1, zs, az, cz, nz, by omega, by go_num, rfl, hzs, by omega, HO.out, HQ.out, HB9.out⟩
    case measure => simp [intOf]; omega
  ·have hkn : k = ks.length := by omega
   subst hkn
   rw [List.drop_eq_nil_of_le (Nat.le_refl _)] at hz
   have hz : zs = ks.filterMap g := by simpa using hz
   have hl : nz = (ks.filterMap g).length := by rw [← hz]; exact hzs.symm
   rw [hz] at how
   subst hl
   have HO := hide how
   have HR := hide (grow_own how)
   have HB := hide hb
   clear how hb
   go_wp2
   go_ret
   exact ⟨_, _, rfl, HO.out, HR.out, HB.out⟩

theorem ne_cells {w : World} {b i : Nat} {cs : Array Value} {T : TypeId} (hk : ∀ cs T, w.heap[b]? ≠ some (.cells cs T)) (h : w.heap[i]? = some (.cells cs T)) : b ≠ i := by
 intro e
 subst e
 exact hk _ _ h

theorem own_kind {w w' : World} {base k : Nat} {e : TypeId} {v : Value} {n : Nat} {xs : List Value} (h : w.ownsRow base e k v n xs) {b : Nat} (hg : w.grownBy w' (some b)) (hk : ∀ cs T, w.heap[b]? ≠ some (.cells cs T)) : w'.ownsRow base e k v n xs := by
 refine gown_other h hg ?_
 intro i hi e1
 subst e1
 rcases h.2 with ⟨rfl, _⟩ | ⟨g, cap, cur, rfl, _, hh, _⟩
 ·cases hi
 ·cases hi
  exact hk _ _ hh

theorem Ranging.iter {P : Program} {α β : Type} {M : MK P α β} {w : World} {b r n : Nat} {g : α → Option β} {left : α → Bool} {cnt : Nat} (h : Ranging M w b r n g left cnt) : ∀ cs T, w.heap[r]? ≠ some (.cells cs T) := by
 obtain ⟨es, clock, since, seen, c0, hb, he, hr, -⟩ := h
 intro cs T e
 rw [hr] at e
 cases e

theorem Ranging.mapk {P : Program} {α β : Type} {M : MK P α β} {w : World} {b r n : Nat} {g : α → Option β} {left : α → Bool} {cnt : Nat} (h : Ranging M w b r n g left cnt) : ∀ cs T, w.heap[b]? ≠ some (.cells cs T) := by
 obtain ⟨es, clock, since, seen, c0, hb, -⟩ := h
 intro cs T e
 rw [hb] at e
 cases e

structure RSt (w : World) (it : Nat) (wr : World) (p bm : Nat) (aq : Option Addr) (cq : Nat) (l : List FE) (f : FE → Option FE) (left : FK → Bool) (cnt : Nat) : Prop where
 rg : Ranging mE wr bm it 16777216 (midF f (entsOf l) left) left cnt
 box : wr.heap[p]? = some (.cells #[.slice aq (keysOf l).length cq, .map (some bm)] 204)
 own : wr.ownsRow w.heap.size 206 3 (.slice aq (keysOf l).length cq) (keysOf l).length (fkF.all (keysOf l))
 bel : Below w.heap.size w wr

theorem RSt.turned {w : World} {it : Nat} {wr w' : World} {p bm : Nat} {aq : Option Addr} {cq : Nat} {l : List FE} {f : FE → Option FE} {left : FK → Bool} {cnt j : Nat} (h : RSt w it wr p bm aq cq l f left cnt) (hg : wr.grownBy w' (some j)) (hk : ∀ cs T, wr.heap[j]? ≠ some (.cells cs T)) (hj : w.heap.size ≤ j) :
  w'.heap[p]? = some (.cells #[.slice aq (keysOf l).length cq, .map (some bm)] 204) ∧ w'.ownsRow w.heap.size 206 3 (.slice aq (keysOf l).length cq) (keysOf l).length (fkF.all (keysOf l)) ∧ Below w.heap.size w w' :=
 ⟨kept_grown h.box hg (fun i hi => by cases hi; exact ne_cells hk h.box), own_kind h.own hg hk, h.bel.grown hg h.bel.size (fun i hi => by cases hi; exact hj)⟩

theorem RSt.tab {w : World} {it : Nat} {wr : World} {p bm : Nat} {aq : Option Addr} {cq : Nat} {l : List FE} {f : FE → Option FE} {left : FK → Bool} {cnt : Nat} (h : RSt w it wr p bm aq cq l f left cnt) (hl : ∀ k, left k = false) (h1 : w.heap.size ≤ p) (h2 : w.heap.size ≤ bm) (h3 : ∀ k ∈ keysOf l, FKok k) (h4 : (keysOf l).length ≤ 16777216) :
  Tab wr w.heap.size p bm (keysOf l) (fun k => (entsOf l k).bind f) :=
 ⟨⟨aq, cq, h.box, h.own⟩, by have := h.rg.is; rw [mid_end f (entsOf l) hl] at this; exact this, h1, h2, h3, h4⟩

def flushE (p : Int) (e : FE) : Option FE := if (e.s || (e.p != p)) = true then some e else none

theorem flush_is (l : List FE) (p : Int) : flushF l p = l.filterMap (flushE p) := by
 induction l with
 | nil => rfl
 | cons x r ih =>
  unfold flushF at *
  unfold flushE at *
  rw [List.filter_cons, List.filterMap_cons, ih]
  cases (x.s || (x.p != p)) <;> rfl

set_option maxRecDepth 100000 in
set_option maxHeartbeats 8000000 in
theorem implFlush_rng (ao : Option Addr) (n cap : Nat) (l : List FE) (p0 : Int) (w : World) (h : GRow fentF w ao n cap l) (hn : n ≤ 16777216) (hR : ∀ x ∈ l, x.Rng) :
  Calls Tryz.prog 142 #[.slice ao n cap, .int .i64 p0] w fun r w' => ∃ ao' cap', r = .returned (.slice ao' (flushF l p0).length cap') ∧ w'.ownsRow w.heap.size 112 5 (.slice ao' (flushF l p0).length cap') (flushF l p0).length (fentF.all (flushF l p0)) ∧ GRow fentF w' ao' (flushF l p0).length cap' (flushF l p0) ∧ Below w.heap.size w w' := by
 rw [flush_is l p0]
 go_enter Tryz.func142, Tryz.ntmps142
 go_wp2_with fail
 refine (tableOf_any ao n cap l _ h hn hR).mono ?_
 rintro r w1 ⟨p, bm, rfl, tab, hb1⟩
 obtain ⟨aq, cq, hbox, hown⟩ := tab.box
 obtain ⟨⟨pq0, pq1⟩, -⟩ := cells2 hbox
 have hmap := tab.map
 have HLP := hide tab.lp
 have HLB := hide tab.lb
 have HOK := hide tab.oks
 have HFW := hide tab.few
 have hs1 := hb1.size
 clear tab
 go_wp2_with (first | (at_range; refine wpList_range_fe _ rfl _ rfl bm 16777216 (entsOf l) rfl hmap ?_; intro w2 cnt2 hrg2 hb2 hs2) | go_in)
 go_frame
 have st2 : RSt w w1.heap.size w2 p bm aq cq l (flushE p0) (fun k => (entsOf l k).isSome) cnt2 := ⟨by rw [mid_start]; exact hrg2, kept_block hbox hb2, gown_below hown hb2, gr_trans hb1 hb2⟩
 have HS2 := hide st2
 clear st2 hrg2 hb2 hown hbox hmap pq0 pq1 hb1
 go_loopw [15] (fun _ wr => ∃ left cnt, RSt w w1.heap.size wr p bm aq cq l (flushE p0) left cnt) (fun _ wr => wr.rangeLeft bm w1.heap.size)
 case atStart => exact ⟨_, _, HS2.out⟩
 case round =>
  obtain ⟨left, cnt, st⟩ := hrel
  clear HS2
  have hrg := st.rg
  have HST := hide st
  go_wp2_with (first | (at_next; refine wpList_next_fe _ rfl _ rfl bm w1.heap.size 16777216 _ left cnt rfl hrg ?_ ?_) | go_in)
  ·intro hl0
   have hT : Tab wr w.heap.size p bm (keysOf l) (fun k => (entsOf l k).bind (flushE p0)) := st.tab hl0 HLP.out HLB.out HOK.out HFW.out
   have HB := hide st.bel
   clear hrg st HST
   go_wp2_with fail
   refine (list_any _ _ p bm _ _ hT).mono ?_
   rintro r w9 ⟨ao9, cap9, rfl, ho9, hr9, hb9⟩
   rw [out_bind (ents_map l) (flushE p0)] at ho9 hr9
   have HO := hide (gown_lt ho9 (base' := w.heap.size) HB.out.size)
   have HR := hide hr9
   have HB9 := hide (gr_trans HB.out hb9)
   clear ho9 hr9 hb9 hT
   go_wp2
   go_ret
   exact ⟨_, _, (by rw [out_bind (ents_map l) (flushE p0)]; rfl), HO.out, HR.out, HB9.out⟩
  ·intro s hs
   rcases s with ⟨y, v, w3, cnt3⟩
   obtain ⟨hyk, hly, hgy, hrg3, hlt3, hg3, hen⟩ := hs
   dsimp only at hyk hly hgy hrg3 hlt3 hg3 hen ⊢
   have hv := hR v (ents_mem (mid_at hly hgy))
   have HN := hide (mid_next hly hgy)
   have hls : upd left y false y = false := upd_same _ _ _
   have st3 := st.turned hg3 (st.rg.iter) (by omega)
   have HLE := hide hrg.left_eq
   clear hrg st HST
   cases hvs : v.s
   ·cases hvp : (v.p == p0)
    ·have hfv : flushE p0 v = some v := by unfold flushE; rw [hvs]; simp at hvp; simp [hvp]
     rw [hvs] at hen
     clear hvs
     have b4 := below_two w3 (.cells #[.int .i64 y.1, .int .i64 y.2.1, .int .i64 y.2.2] 206) (.cells #[.int .i64 v.t, .int .i64 v.m, .int .i64 v.p, .int .i64 v.a, .bool false] 112)
     have q1 := kept_block st3.1 b4
     have q2 := gown_below st3.2.1 b4
     have q3 := gr_trans st3.2.2 b4
     have q4 := hrg3.below b4
     have kk := kept_block (block_last w3 (.cells #[.int .i64 y.1, .int .i64 y.2.1, .int .i64 y.2.2] 206)) (below_one _ (.cells #[.int .i64 v.t, .int .i64 v.m, .int .i64 v.p, .int .i64 v.a, .bool false] 112))
     have ke := block_last (w3.alloc (.cells #[.int .i64 y.1, .int .i64 y.2.1, .int .i64 y.2.2] 206)) (.cells #[.int .i64 v.t, .int .i64 v.m, .int .i64 v.p, .int .i64 v.a, .bool false] 112)
     rw [show (w3.alloc (.cells #[.int .i64 y.1, .int .i64 y.2.1, .int .i64 y.2.2] 206)).heap.size = w3.heap.size + 1 by simp] at ke
     have hfe : midF (flushE p0) (entsOf l) left = midF (flushE p0) (entsOf l) (upd left y false) := by rw [← HN.out, hfv, upd_self hgy]
     rw [hfe] at q4
     have HS4 := hide (show RSt w w1.heap.size ((w3.alloc (.cells #[.int .i64 y.1, .int .i64 y.2.1, .int .i64 y.2.2] 206)).alloc (.cells #[.int .i64 v.t, .int .i64 v.m, .int .i64 v.p, .int .i64 v.a, .bool false] 112)) p bm aq cq l (flushE p0) (upd left y false) cnt3 from ⟨q4, q1, q2, q3⟩)
     clear q1 q2 q3 q4 kk ke hrg3 st3 hfe b4
     go_wp2
     go_roundw
     case rel => exact ⟨_, _, HS4.out⟩
     case measure => rw [HS4.out.rg.left_eq, HLE.out]; exact hlt3
    ·have hfv : flushE p0 v = none := by unfold flushE; rw [hvs]; simp at hvp; simp [hvp]
     rw [hvs] at hen
     clear hvs
     have b4 := below_two w3 (.cells #[.int .i64 y.1, .int .i64 y.2.1, .int .i64 y.2.2] 206) (.cells #[.int .i64 v.t, .int .i64 v.m, .int .i64 v.p, .int .i64 v.a, .bool false] 112)
     have q1 := kept_block st3.1 b4
     have q2 := gown_below st3.2.1 b4
     have q3 := gr_trans st3.2.2 b4
     have q4 := hrg3.below b4
     have kk := kept_block (block_last w3 (.cells #[.int .i64 y.1, .int .i64 y.2.1, .int .i64 y.2.2] 206)) (below_one _ (.cells #[.int .i64 v.t, .int .i64 v.m, .int .i64 v.p, .int .i64 v.a, .bool false] 112))
     have ke := block_last (w3.alloc (.cells #[.int .i64 y.1, .int .i64 y.2.1, .int .i64 y.2.2] 206)) (.cells #[.int .i64 v.t, .int .i64 v.m, .int .i64 v.p, .int .i64 v.a, .bool false] 112)
     rw [show (w3.alloc (.cells #[.int .i64 y.1, .int .i64 y.2.1, .int .i64 y.2.2] 206)).heap.size = w3.heap.size + 1 by simp] at ke
     go_wp2_with fail
     clear hen
     generalize hw4 : (w3.alloc (.cells #[.int .i64 y.1, .int .i64 y.2.1, .int .i64 y.2.2] 206)).alloc (.cells #[.int .i64 v.t, .int .i64 v.m, .int .i64 v.p, .int .i64 v.a, .bool false] 112) = w4 at *
     obtain ⟨w5, cnt5, hr5, hrg5, hle5, hg5, -⟩ := Ranging.drop (w := w4.drew) (q4.kept rfl rfl) hyk hls 0
     have hr5 : (Builtin.delete_ #[202, 206] 0 #[.map (some bm), .agg #[.int .i64 y.1, .int .i64 y.2.1, .int .i64 y.2.2]]).run Tryz.prog w4.drew = .ok (.tuple #[]) w5 := hr5
     have hg5 : w4.grownBy w5 (some bm) := ⟨hg5.os, hg5.tape, hg5.output, hg5.size, hg5.block⟩
     have hfe : upd (midF (flushE p0) (entsOf l) left) y none = midF (flushE p0) (entsOf l) (upd left y false) := by rw [← HN.out, hfv]
     rw [hfe] at hrg5
     have hk4 := q4.mapk
     have n5 := ne_cells hk4 q1
     have m5 := ne_cells hk4 kk
     have q5 := kept_grown q1 hg5 (fun i hi => by cases hi; exact n5)
     have kk5 := kept_grown kk hg5 (fun i hi => by cases hi; exact m5)
     have HS5 := hide (show RSt w w1.heap.size w5 p bm aq cq l (flushE p0) (upd left y false) cnt5 from ⟨hrg5, q5, own_kind q2 hg5 hk4, q3.grown hg5 q3.size (fun i hi => by cases hi; exact HLB.out)⟩)
     have hS0 : w4.drew.cell? ⟨p, 1, none⟩ = some (.map (some bm)) ∧ _ := ⟨(cells2 (w := w4.drew) q1).1.2, (cells3 (w := w4.drew) kk).1⟩
     have hS1 : w5.cell? ⟨p, 1, none⟩ = some (.map (some bm)) ∧ _ := ⟨(cells2 q5).1.2, (cells3 kk5).1⟩
     clear q1 kk ke q2 q3 q4 hrg3 st3 hfe b4 hk4 n5 m5 q5 kk5 hrg5
     refine wp_region_held_drew (S := (fun W => W.cell? ⟨p, 1, none⟩ = some (.map (some bm)) ∧ (W.cell? ⟨w3.heap.size, 0, none⟩ = some (.int .i64 y.1) ∧ W.cell? ⟨w3.heap.size, 1, none⟩ = some (.int .i64 y.2.1) ∧ W.cell? ⟨w3.heap.size, 2, none⟩ = some (.int .i64 y.2.2)))) (by kernel_rfl) (by first | exact hS0 | exact hS1) (fun hHeld => ?_)
     refine kK 0 ⟨some 29, .move (.tmp 5), 199, "l08_fdb.go:77", #[], none⟩ ?_
     refine kK 1 ⟨some 30, .nilCheck (.tmp 29), 0, "l08_fdb.go:77", #[⟨0, .data⟩], none⟩ ?_
     refine kK 2 ⟨some 31, .fieldAddr 204 (.tmp 30) 1, 0, "l08_fdb.go:77", #[⟨1, .data⟩], none⟩ ?_
     refine kK 3 ⟨some 32, .load 202 (.tmp 31), 202, "l08_fdb.go:77", #[⟨2, .data⟩], none⟩ ?_
     refine kK 4 ⟨some 33, .load 206 (.tmp 6), 206, "l08_fdb.go:77", #[], none⟩ ?_
     refine kR 5 ⟨none, .call ⟨.builtin .delete, #[.tmp 32, .tmp 33], #[202, 206]⟩, 0, "l08_fdb.go:77", #[⟨3, .data⟩, ⟨4, .data⟩], none⟩ (fun K hK => ?_)
     go_simp
     refine hK.out _ _ (by first | exact hS0 | exact hS1) (fun hHeld => ?_)
     clear hK K
     try simp only [Act.put, lA, lB, lC]
     refine wpAnyH_done (by kernel_rfl) ?_ _
     clear hS0 hS1 hr5 hHeld
     go_wp2
     go_roundw
     case rel => exact ⟨_, _, HS5.out⟩
     case measure => rw [HS5.out.rg.left_eq, HLE.out]; omega
   ·have hfv : flushE p0 v = some v := by unfold flushE; rw [hvs]; rfl
    rw [hvs] at hen
    clear hvs
    have b4 := below_two w3 (.cells #[.int .i64 y.1, .int .i64 y.2.1, .int .i64 y.2.2] 206) (.cells #[.int .i64 v.t, .int .i64 v.m, .int .i64 v.p, .int .i64 v.a, .bool true] 112)
    have q1 := kept_block st3.1 b4
    have q2 := gown_below st3.2.1 b4
    have q3 := gr_trans st3.2.2 b4
    have q4 := hrg3.below b4
    have kk := kept_block (block_last w3 (.cells #[.int .i64 y.1, .int .i64 y.2.1, .int .i64 y.2.2] 206)) (below_one _ (.cells #[.int .i64 v.t, .int .i64 v.m, .int .i64 v.p, .int .i64 v.a, .bool true] 112))
    have ke := block_last (w3.alloc (.cells #[.int .i64 y.1, .int .i64 y.2.1, .int .i64 y.2.2] 206)) (.cells #[.int .i64 v.t, .int .i64 v.m, .int .i64 v.p, .int .i64 v.a, .bool true] 112)
    rw [show (w3.alloc (.cells #[.int .i64 y.1, .int .i64 y.2.1, .int .i64 y.2.2] 206)).heap.size = w3.heap.size + 1 by simp] at ke
    have hfe : midF (flushE p0) (entsOf l) left = midF (flushE p0) (entsOf l) (upd left y false) := by rw [← HN.out, hfv, upd_self hgy]
    rw [hfe] at q4
    have HS4 := hide (show RSt w w1.heap.size ((w3.alloc (.cells #[.int .i64 y.1, .int .i64 y.2.1, .int .i64 y.2.2] 206)).alloc (.cells #[.int .i64 v.t, .int .i64 v.m, .int .i64 v.p, .int .i64 v.a, .bool true] 112)) p bm aq cq l (flushE p0) (upd left y false) cnt3 from ⟨q4, q1, q2, q3⟩)
    clear q1 q2 q3 q4 kk ke hrg3 st3 hfe b4
    go_wp2
    go_roundw
    case rel => exact ⟨_, _, HS4.out⟩
    case measure => rw [HS4.out.rg.left_eq, HLE.out]; exact hlt3

end Go.Proofs.YtdmplbmfkliiiaaGreat
