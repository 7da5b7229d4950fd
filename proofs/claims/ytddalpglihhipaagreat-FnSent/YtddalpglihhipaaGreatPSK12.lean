/-
  Packed: VtabDrop VtabDropS FdbPutS FdbImplL0 SameFdb.
-/
import Derived.Test.YtddalpglihhipaaGreatPSKW
import Derived.Test.YtddalpglihhipaaGreatPSFdbOkS
import Derived.Test.YtddalpglihhipaaGreatPSK01
import Derived.Test.YtddalpglihhipaaGreatPSK11
import Derived.Deep.RegionHeld3
namespace Go.Proofs.YtddalpglihhipaaGreat
open Go.RowKit

theorem GRow.take {α : Type} {F : Flat α} {w : World} {ao : Option Addr} {n c k : Nat} {l : List α} (h : GRow F w ao n c l) (hk : k ≤ n) : GRow F w ao k c (l.take k) where
 size := by have := h.size; simp; omega
 le := Nat.le_trans hk h.le
 top := h.top
 nil := h.nil
 cell := by
  rcases h.cell with h0 | ⟨b, off, ha, hc⟩
  ·exact .inl (by omega)
  ·refine .inr ⟨b, off, ha, fun i x hi j v hv => hc i x ?_ j v hv⟩
   rw [List.getElem?_take] at hi
   split at hi
   ·exact hi
   ·cases hi

theorem GRow.drop3 {w : World} {b off n c k : Nat} {l : List VR} (h : GRow vrowF w (some ⟨b, off, none⟩) n c l) (hk : k ≤ n) : GRow vrowF w (if c = k then some ⟨b, off, none⟩ else some ⟨b, off + k * 3, none⟩) (n - k) (c - k) (l.drop k) where
 size := by have := h.size; simp; omega
 le := by have := h.le; omega
 top := by have := h.top; omega
 nil := by split <;> (intro h; cases h)
 cell := by
  have hle := h.le
  by_cases hc0 : c = k
  ·exact .inl (by omega)
  ·rw [if_neg hc0]
   rcases h.cell with h0 | ⟨b', off', ha, hc⟩
   ·exact .inl (by omega)
   ·cases ha
    refine .inr ⟨b, off + k * 3, rfl, fun i x hi j v hv => ?_⟩
    rw [List.getElem?_drop] at hi
    have := hc (k + i) x hi j v hv
    have e3 : vrowF.k = 3 := rfl
    rw [e3] at this ⊢
    rw [show off + k * 3 + i * 3 + j = off + (k + i) * 3 + j by omega]
    exact this

set_option maxRecDepth 100000 in
set_option maxHeartbeats 4000000 in
theorem specDropRow_yes (b off n c : Nat) (o : Option Addr) (p q : Nat) (v : VT) (id : Int) (k : Nat) (w : World) (h : VTab w (some ⟨b, off, none⟩) n c o p q v) (hn : n ≤ 16777216) (hp : p ≤ 16777216) (hr : rowIdx v.rows id = some k) (hok : vtabOk v p = true) :
  Calls Tryz.prog 154 #[.agg #[.slice (some ⟨b, off, none⟩) n c, .slice o p q], .int .i64 id] w fun e w' => ∃ a' n' c' o' p' q', e = .returned (.tuple #[.agg #[.slice a' n' c', .slice o' p' q'], .bool (orV ⟨v.rows.take k ++ v.rows.drop (k + 1), v.own⟩ v).2]) ∧ VOwn w' w.heap.size a' n' c' o' p' q' (orV ⟨v.rows.take k ++ v.rows.drop (k + 1), v.own⟩ v).1 ∧ Below w.heap.size w w' := by
 have hkn : k < n := by
  obtain ⟨x, hx, -⟩ := rowIdx_some hr
  have := (List.getElem?_eq_some_iff.1 hx).1
  have := h.rows.size
  omega
 have hle := h.rows.le
 have htop := h.rows.top
 unfold maxLen at htop
 have hat : rowAt v.rows id = (k : Int) := by unfold rowAt; rw [hr]
 generalize hw1 : w.alloc (Obj.cells #[Value.slice (some ⟨b, off, none⟩) n c, Value.slice o p q] 29) = w1
 generalize hw2 : w1.alloc (Obj.cells #[Value.slice none 0 0, Value.slice none 0 0] 29) = w2
 have b01 : Below w.heap.size w w1 := by subst hw1; exact below_one _ _
 have b12 : Below w1.heap.size w1 w2 := by subst hw2; exact below_one _ _
 have b02 := gr_trans b01 b12
 have k1 : w2.heap[w1.heap.size]? = some (.cells #[.slice none 0 0, .slice none 0 0] 29) := by rw [← hw2]; exact block_last _ _
 have z2 : Hid (w1.heap.size < w2.heap.size) := hide (by rw [← hw2]; simp)
 obtain ⟨e0, e0x⟩ := box_two hw1 (Below.refl _ w1)
 have hc2 := box_two hw1 b12
 have h2 := h.below b02
 go_enter Tryz.func154, Tryz.ntmps154
 go_wp2_with (refine (specRowAt_any (some ⟨b, off, none⟩) n c v.rows o p q id _ h2.rows).mono ?_; rintro e w3 ⟨rfl, hb3⟩; rw [hat]; have hc3 := box_two hw1 (gr_trans b12 hb3))
 go_wp2_with (refine (specVtabOk_any (some ⟨b, off, none⟩) n c o p q v (p : Int) _ (h2.below hb3)).mono ?_; rintro e w4 ⟨rfl, hb4⟩; rw [hok]; have hc4 := box_two hw1 (gr_trans b12 (gr_trans hb3 hb4)))
 go_wp2_with fail
 refine (specCopyV_made (some ⟨b, off, none⟩) n c o p q v _ (h2.below (gr_trans hb3 hb4)) hn hp).mono ?_
 rintro e w5' ⟨a5, c5, o5, q5, rfl, hO5, hb5⟩
 generalize hw5 : w5'.alloc (Obj.cells #[Value.slice a5 n c5, Value.slice o5 p q5] 29) = w5
 have b55 : Below w5'.heap.size w5' w5 := by subst hw5; exact below_one _ _
 have b25 := gr_trans hb3 (gr_trans hb4 (gr_trans hb5 b55))
 have b05 := gr_trans b02 b25
 have b15 := gr_trans b12 b25
 have k5 : w5.heap[w5'.heap.size]? = some (.cells #[.slice a5 n c5, .slice o5 p q5] 29) := by rw [← hw5]; exact block_last _ _
 have hO5 := hO5.below b55
 have vv : Below w5.heap.size w5 w5.drew := gr_drew (Below.refl _ _)
 have vb : Below w2.heap.size w2 w5.drew := gr_drew b25
 have z51 : w5'.heap.size < w5.heap.size := by rw [← hw5]; simp
 have z5 : Hid (w5'.heap.size < w5.heap.size ∧ w2.heap.size ≤ w5'.heap.size ∧ w2.heap.size ≤ w4.heap.size) := hide ⟨z51, (gr_trans hb3 (gr_trans hb4 hb5)).size, (gr_trans hb3 hb4).size⟩
 clear z51
 have i1 : (0 : Int) ≤ (k : Int) := by omega
 have i2 : (k : Int) ≤ (c : Int) := by omega
 have i3 : (0 : Int) ≤ (k : Int) + 1 := by omega
 have i4 : (k : Int) + 1 ≤ (n : Int) := by omega
 have i5 : IntKind.i64.wrap ((k : Int) + 1) = (k : Int) + 1 := by rw [IntKind.wrap_i64]; omega
 go_wp2_with fail
 refine wp_region_held_drew (S := (fun W => W.cell? ⟨w.heap.size, 0, none⟩ = some (.slice (some ⟨b, off, none⟩) n c))) (by kernel_rfl) (kept_cell hc2.1 vb) (fun hHeld => ?_)
 refine kK 1 ⟨some 26, .fieldAddr 29 (.tmp 2) 0, 0, "l09_vlan.go:122", #[], none⟩ ?_
 refine kK 2 ⟨some 27, .load 26 (.tmp 26), 26, "l09_vlan.go:122", #[⟨1, .data⟩], none⟩ ?_
 refine kK 3 ⟨some 28, .move (.tmp 6), 3, "l09_vlan.go:122", #[], none⟩ ?_
 refine kK 4 ⟨some 29, .slice 26 (.tmp 27) none (some (.tmp 28)) none, 26, "l09_vlan.go:122", #[⟨2, .data⟩, ⟨3, .data⟩], none⟩ ?_
 refine kK 6 ⟨some 31, .fieldAddr 29 (.tmp 2) 0, 0, "l09_vlan.go:122", #[], none⟩ ?_
 refine kK 7 ⟨some 32, .load 26 (.tmp 31), 26, "l09_vlan.go:122", #[⟨6, .data⟩], none⟩ ?_
 refine kK 8 ⟨some 33, .move (.tmp 6), 3, "l09_vlan.go:122", #[], none⟩ ?_
 refine kK 9 ⟨some 34, .binOp .add 3 (.tmp 33) (.const (.int .i64 1)) 3, 3, "l09_vlan.go:122", #[⟨8, .data⟩], none⟩ ?_
 refine kK 10 ⟨some 35, .slice 26 (.tmp 32) (some (.tmp 34)) none none, 26, "l09_vlan.go:122", #[⟨7, .data⟩, ⟨9, .data⟩], none⟩ ?_
 refine tR [0] ?_
 refine AllReadyH.cons (o := ⟨some 25, .buildSlice 26 0 #[], 26, "l09_vlan.go:122", #[], none⟩) rfl (fun K hK => ?_) ?_
 ·go_simp
  first
  | refine made_new (K := K _) (fun wx hk hbx => ?_)
  | refine made_drew (K := K _) (fun wx hk hbx => ?_)
  have hR := flat_nil vrowF w5 wx 100 _ hk vv.size
  have vv := gr_trans vv hbx
  have vb := gr_trans vb hbx
  clear hk hbx
  refine hK.out _ _ (kept_cell hc2.1 vb) (fun hHeld => ?_)
  clear hK K
  try simp only [Act.put, lA, lB, lC]
  refine tR [5] ?_
  refine AllReadyH.cons (o := ⟨some 30, .call ⟨.builtin .append, #[.tmp 25, .tmp 29], #[26, 26]⟩, 26, "l09_vlan.go:122", #[⟨0, .data⟩, ⟨4, .data⟩], none⟩) rfl (fun K hK => ?_) ?_
  ·refine step_append_flat (F := vrowF) rfl _ _ 26 100 rfl w5.heap.size Tryz.underlying26 vrowInfo rfl (by decide) _ 0 [] rfl hR _ k c (v.rows.take k) rfl ((h.rows.below (gr_trans b05 vv)).take (by omega)) (by omega) vv.size ?_
   intro aoR cpR wx how hrow hgr hbx
   have hR := how
   have vv := vv.trans hbx
   have vb := vb.trans (hbx.mono b25.size)
   clear how hrow hgr hbx
   simp only [Nat.zero_add, List.nil_append] at hR ⊢
   refine hK.out _ _ (kept_cell hc2.1 vb) (fun hHeld => ?_)
   clear hK K
   try simp only [Act.put, lA, lB, lC]
   refine tR [11] ?_
   refine AllReadyH.cons (o := ⟨some 36, .call ⟨.builtin .append, #[.tmp 30, .tmp 35], #[26, 26]⟩, 26, "l09_vlan.go:122", #[⟨5, .data⟩, ⟨10, .data⟩, ⟨5, .chain⟩], none⟩) rfl (fun K hK => ?_) ?_
   ·refine step_append_flat (F := vrowF) rfl _ _ 26 100 rfl w5.heap.size Tryz.underlying26 vrowInfo rfl (by decide) _ k (v.rows.take k) rfl hR _ (n - (k + 1)) (c - (k + 1)) (v.rows.drop (k + 1)) rfl ((h.rows.below (gr_trans b05 vv)).drop3 (by omega)) (by omega) vv.size ?_
    intro aoR cpR wx how hrow hgr hbx
    have hR := how
    have vv := vv.trans hbx
    have vb := vb.trans (hbx.mono b25.size)
    clear how hrow hgr hbx
    refine hK.out _ _ (kept_cell hc2.1 vb) (fun hHeld => ?_)
    clear hK K
    try simp only [Act.put, lA, lB, lC]
    refine kK 12 ⟨some 37, .fieldAddr 29 (.tmp 7) 0, 0, "l09_vlan.go:122", #[⟨0, .phase⟩, ⟨1, .phase⟩, ⟨2, .phase⟩, ⟨3, .phase⟩, ⟨4, .phase⟩, ⟨5, .phase⟩, ⟨6, .phase⟩, ⟨7, .phase⟩, ⟨8, .phase⟩, ⟨9, .phase⟩, ⟨10, .phase⟩, ⟨11, .phase⟩], none⟩ ?_
    refine tR [13] ?_
    refine AllReadyH.cons (o := ⟨none, .store 26 (.tmp 37) (.tmp 36), 0, "l09_vlan.go:122", #[⟨12, .data⟩, ⟨11, .data⟩, ⟨11, .chain⟩, ⟨0, .phase⟩, ⟨1, .phase⟩, ⟨2, .phase⟩, ⟨3, .phase⟩, ⟨4, .phase⟩, ⟨5, .phase⟩, ⟨6, .phase⟩, ⟨7, .phase⟩, ⟨8, .phase⟩, ⟨9, .phase⟩, ⟨10, .phase⟩, ⟨11, .phase⟩], none⟩) rfl (fun K hK => ?_) ?_
    ·have hbx := kept_block k5 vv
     obtain ⟨⟨g0, g1⟩, f0, f1⟩ := cells2 hbx
     have hN := gown_other (hO5.below vv).own (grown_set (rb := w5'.heap.size) 0 (.slice aoR (k + (n - (k + 1))) cpR)) (box_ne (hO5.below vv).own hbx (by decide))
     have hR := gown_apart hR (grown_set (rb := w5'.heap.size) 0 (.slice aoR (k + (n - (k + 1))) cpR)) (by intro b hb; cases hb; exact z5.out.1)
     have kX := set_block5 (j := 0) hbx (.slice aoR (k + (n - (k + 1))) cpR)
     go_simp
     have vb := below_set vb z5.out.2.1 0 (.slice aoR (k + (n - (k + 1))) cpR)
     refine hK.out _ _ (kept_cell hc2.1 vb) (fun hHeld => ?_)
     clear hK K
     try simp only [Act.put, lA, lB, lC]
     refine wpAnyH_done (by kernel_rfl) ?_ _
     have kX : (World.setCell wx ⟨w5'.heap.size, 0, none⟩ (.slice aoR (k + (n - (k + 1))) cpR)).heap[w5'.heap.size]? = some (.cells #[Value.slice aoR (k + (n - (k + 1))) cpR, .slice o5 p q5] 29) := kX
     generalize World.setCell wx ⟨w5'.heap.size, 0, none⟩ (.slice aoR (k + (n - (k + 1))) cpR) = w6 at hR hN kX vb ⊢
     generalize k + (n - (k + 1)) = m at hR kX ⊢
     generalize (if c = k + 1 then some (⟨b, off, none⟩ : Addr) else some ⟨b, off + (k + 1) * 3, none⟩) = ad
     obtain ⟨⟨x0, x1⟩, -⟩ := cells2 kX
     have y0 := kept_cell hc2.1 vb
     have y1 := kept_cell hc2.2 vb
     have hV : VOwn w6 w2.heap.size aoR m cpR o5 p q5 ⟨v.rows.take k ++ v.rows.drop (k + 1), v.own⟩ := ⟨gown_lt hR b25.size, gown_lt hN z5.out.2.2, h.own.byte⟩
     have HV := hide hV
     clear hR hN hV hO5
     go_wp2_with fail
     refine (specOr_made w2.heap.size aoR m cpR o5 p q5 _ (some ⟨b, off, none⟩) n c o p q v _ HV.out (h.below (gr_trans b02 vb)) hn hp vb.size).mono ?_
     rintro e w7 ⟨a7, n7, c7, o7, p7, q7, rfl, hO7, hb7⟩
     obtain ⟨⟨g0, g1⟩, f0, f1⟩ := cells2 (kept_block k1 (gr_trans vb hb7))
     have HB := hide (below_set (below_set (gr_trans (gr_trans b02 vb) hb7) b01.size 0 (.slice a7 n7 c7)) b01.size 1 (.slice o7 p7 q7))
     have HO := hide ((hO7.set2 (g := w1.heap.size) z2.out (.slice a7 n7 c7) (.slice o7 p7 q7)).lt (base' := w.heap.size) b02.size)
     clear hO7
     go_wp2
     exact bodyPost_ret (v := .tuple #[.agg #[.slice a7 n7 c7, .slice o7 p7 q7], .bool (orV ⟨v.rows.take k ++ v.rows.drop (k + 1), v.own⟩ v).2]) (by simp [results, Tryz.results154, go_sem, *]) rfl ⟨_, _, _, _, _, _, rfl, HO.out, HB.out⟩
    exact AllReadyH.nil
   exact AllReadyH.nil
  exact AllReadyH.nil
 exact AllReadyH.nil

set_option maxRecDepth 100000 in
set_option maxHeartbeats 4000000 in
theorem specDropRow_no (a : Option Addr) (n c : Nat) (o : Option Addr) (p q : Nat) (v : VT) (id : Int) (w : World) (h : VTab w a n c o p q v) (hn : n ≤ 16777216) (hp : p ≤ 16777216) (hno : vtabOk v p = false ∨ rowIdx v.rows id = none) :
  Calls Tryz.prog 154 #[.agg #[.slice a n c, .slice o p q], .int .i64 id] w fun e w' => ∃ a' c' o' q', e = .returned (.tuple #[.agg #[.slice a' n c', .slice o' p q'], .bool false]) ∧ VOwn w' w.heap.size a' n c' o' p q' v ∧ Below w.heap.size w w' := by
 generalize hw1 : w.alloc (Obj.cells #[Value.slice a n c, Value.slice o p q] 29) = w1
 generalize hw2 : w1.alloc (Obj.cells #[Value.slice none 0 0, Value.slice none 0 0] 29) = w2
 have b01 : Below w.heap.size w w1 := by subst hw1; exact below_one _ _
 have b12 : Below w1.heap.size w1 w2 := by subst hw2; exact below_one _ _
 have b02 := gr_trans b01 b12
 have k1 : w2.heap[w1.heap.size]? = some (.cells #[.slice none 0 0, .slice none 0 0] 29) := by rw [← hw2]; exact block_last _ _
 have z2 : Hid (w1.heap.size < w2.heap.size) := hide (by rw [← hw2]; simp)
 have hc2 := box_two hw1 b12
 have h2 := h.below b02
 cases hok : vtabOk v p
 ·generalize hat : rowAt v.rows id = k
  have HA := hide hat
  clear hat
  go_enter Tryz.func154, Tryz.ntmps154
  go_wp2_with (refine (specRowAt_any a n c v.rows o p q id _ h2.rows).mono ?_; rintro e w3 ⟨rfl, hb3⟩; rw [HA.out]; have hc3 := box_two hw1 (gr_trans b12 hb3))
  go_wp2_with (refine (specVtabOk_any a n c o p q v (p : Int) _ (h2.below hb3)).mono ?_; rintro e w4 ⟨rfl, hb4⟩; rw [hok]; have hc4 := box_two hw1 (gr_trans b12 (gr_trans hb3 hb4)))
  go_wp2_with fail
  refine (specCopyV_made a n c o p q v _ (h2.below (gr_trans hb3 hb4)) hn hp).mono ?_
  rintro e w5 ⟨a', c', o', q', rfl, hO, hb5⟩
  have b25 := gr_trans hb3 (gr_trans hb4 hb5)
  obtain ⟨⟨g0, g1⟩, f0, f1⟩ := cells2 (kept_block k1 b25)
  have HB := hide (below_set (below_set (gr_trans b02 b25) b01.size 0 (.slice a' n c')) b01.size 1 (.slice o' p q'))
  have HO := hide ((hO.set2 (g := w1.heap.size) (Nat.lt_of_lt_of_le z2.out (gr_trans hb3 hb4).size) (.slice a' n c') (.slice o' p q')).lt (base' := w.heap.size) (Nat.le_trans b02.size (gr_trans hb3 hb4).size))
  clear hO
  go_wp2
  exact bodyPost_ret (v := .tuple #[.agg #[.slice a' n c', .slice o' p q'], .bool false]) (by simp [results, Tryz.results154, go_sem, *]) rfl ⟨_, _, _, _, rfl, HO.out, HB.out⟩
 ·have hr : rowIdx v.rows id = none := by
   rcases hno with h | h
   ·rw [hok] at h; cases h
   ·exact h
  have HA : Hid (rowAt v.rows id = -1) := hide (by unfold rowAt; rw [hr])
  clear hr hno
  go_enter Tryz.func154, Tryz.ntmps154
  go_wp2_with (refine (specRowAt_any a n c v.rows o p q id _ h2.rows).mono ?_; rintro e w3 ⟨rfl, hb3⟩; rw [HA.out]; have hc3 := box_two hw1 (gr_trans b12 hb3))
  go_wp2_with (refine (specVtabOk_any a n c o p q v (p : Int) _ (h2.below hb3)).mono ?_; rintro e w4 ⟨rfl, hb4⟩; rw [hok]; have hc4 := box_two hw1 (gr_trans b12 (gr_trans hb3 hb4)))
  go_wp2_with fail
  refine (specCopyV_made a n c o p q v _ (h2.below (gr_trans hb3 hb4)) hn hp).mono ?_
  rintro e w5 ⟨a', c', o', q', rfl, hO, hb5⟩
  have b25 := gr_trans hb3 (gr_trans hb4 hb5)
  obtain ⟨⟨g0, g1⟩, f0, f1⟩ := cells2 (kept_block k1 b25)
  have HB := hide (below_set (below_set (gr_trans b02 b25) b01.size 0 (.slice a' n c')) b01.size 1 (.slice o' p q'))
  have HO := hide ((hO.set2 (g := w1.heap.size) (Nat.lt_of_lt_of_le z2.out (gr_trans hb3 hb4).size) (.slice a' n c') (.slice o' p q')).lt (base' := w.heap.size) (Nat.le_trans b02.size (gr_trans hb3 hb4).size))
  clear hO
  go_wp2
  exact bodyPost_ret (v := .tuple #[.agg #[.slice a' n c', .slice o' p q'], .bool false]) (by simp [results, Tryz.results154, go_sem, *]) rfl ⟨_, _, _, _, rfl, HO.out, HB.out⟩

theorem specDropRow_made (a : Option Addr) (n c : Nat) (o : Option Addr) (p q : Nat) (v : VT) (id : Int) (w : World) (h : VTab w a n c o p q v) (hn : n ≤ 16777216) (hp : p ≤ 16777216) :
  Calls Tryz.prog 154 #[.agg #[.slice a n c, .slice o p q], .int .i64 id] w fun e w' => ∃ a' n' c' o' p' q', e = .returned (.tuple #[.agg #[.slice a' n' c', .slice o' p' q'], .bool (dropRow v id).2]) ∧ VOwn w' w.heap.size a' n' c' o' p' q' (dropRow v id).1 ∧ Below w.heap.size w w' := by
 have hl := h.own.size
 by_cases hno : vtabOk v p = false ∨ rowIdx v.rows id = none
 ·have hd : dropRow v id = (v, false) := by
   unfold dropRow
   rw [hl]
   rcases hno with h | h
   ·rw [h]
    cases rowIdx v.rows id <;> rfl
   ·rw [h]
  rw [hd]
  refine (specDropRow_no a n c o p q v id w h hn hp hno).mono ?_
  rintro e w' ⟨a', c', o', q', rfl, hO, hb⟩
  exact ⟨a', n, c', o', p, q', rfl, hO, hb⟩
 ·have hok : vtabOk v p = true := by
   cases h1 : vtabOk v p
   ·exact absurd (Or.inl h1) hno
   ·rfl
  cases hr : rowIdx v.rows id with
  | none => exact absurd (Or.inr hr) hno
  | some k =>
   have hd : dropRow v id = orV ⟨v.rows.take k ++ v.rows.drop (k + 1), v.own⟩ v := by
    unfold dropRow
    rw [hl, hr, hok]
    rfl
   rw [hd]
   have hkn : k < n := by
    have := (List.findIdx?_eq_some_iff_getElem.1 hr).1
    have := h.rows.size
    omega
   obtain ⟨x, b, off, -, rfl, -⟩ := vrow_at h.rows k hkn
   exact specDropRow_yes b off n c o p q v id k w h hn hp hr hok

theorem atF_found {l : List FE} {t m : Int} {k : Nat} {x : FE} (h : ∀ i y, i < k → l[i]? = some y → both y t m = false) (hx : l[k]? = some x) (hb : both x t m = true) : atF l t m = k := by
 have hk := (List.getElem?_eq_some_iff.1 hx).1
 have : l.findIdx? (fun e => both e t m) = some k := by
  rw [List.findIdx?_eq_some_iff_getElem]
  refine ⟨hk, ?_, fun j hj => ?_⟩
  ·rw [List.getElem?_eq_getElem hk] at hx
   cases hx
   exact hb
  ·have := h j l[j] hj (List.getElem?_eq_getElem (by omega))
   simp [this]
 unfold atF
 rw [this]

theorem atF_none {l : List FE} {t m : Int} (h : ∀ i y, i < l.length → l[i]? = some y → both y t m = false) : atF l t m = -1 := by
 have : l.findIdx? (fun e => both e t m) = none := by
  rw [List.findIdx?_eq_none_iff]
  intro x hx
  obtain ⟨i, hi, rfl⟩ := List.getElem_of_mem hx
  exact h i _ hi (List.getElem?_eq_getElem hi)
 unfold atF
 rw [this]

theorem no_next {l : List FE} {t m : Int} {k : Nat} {x : FE} (h : ∀ j y, j < k → l[j]? = some y → both y t m = false) (hx : l[k]? = some x) (hb : both x t m = false) : ∀ j y, j < k + 1 → l[j]? = some y → both y t m = false := by
 intro j y hj hy
 by_cases e : j = k
 ·subst e
  rw [hx] at hy
  cases hy
  exact hb
 ·exact h j y (by omega) hy

set_option maxRecDepth 100000 in
set_option maxHeartbeats 2000000 in
theorem specAt_any (ao : Option Addr) (n cap : Nat) (l : List FE) (t m : Int) (w : World) (h : GRow fentF w ao n cap l) :
  Calls Tryz.prog 120 #[.slice ao n cap, .int .i64 t, .int .i64 m] w fun r w' => r = .returned (.int .i64 (atF l t m)) ∧ w' = w := by
 have hle := h.le
 have htop := h.top
 unfold maxLen at htop
 have hsz := h.size
 go_enter Tryz.func120, Tryz.ntmps120
 go_wp2
 go_loop [7] (fun i => ∃ k : Nat, k ≤ n ∧ i = .int .i64 k ∧ ∀ j y, j < k → l[j]? = some y → both y t m = false) (fun i => n - (intOf i).toNat)
 case atStart => exact ⟨0, Nat.zero_le _, rfl, fun j y hj => by omega⟩
 case round =>
  obtain ⟨k, hk, rfl, hno⟩ := hrel
  by_cases hlt : k < n
  ·obtain ⟨x, b, off, hx, rfl, c0, c1, -⟩ := fent_at h k hlt
   cases t1 : (x.t == t)
   ·have HO := hide (no_next hno hx (by unfold both; rw [t1]; rfl))
    clear hno
    go_wp2
    go_round
    case rel => exact ⟨k + 1, by omega, by go_num, HO.out⟩
    case measure => simp [intOf]; omega
   ·cases t2 : (x.m == m)
    ·have HO := hide (no_next hno hx (by unfold both; rw [t1, t2]; rfl))
     clear hno
     go_wp2
     go_round
     case rel => exact ⟨k + 1, by omega, by go_num, HO.out⟩
     case measure => simp [intOf]; omega
    ·have HF := hide (atF_found hno hx (by unfold both; rw [t1, t2]; rfl))
     clear hno
     go_wp2
     go_ret
     exact ⟨(by rw [HF.out]; rfl), rfl⟩
  ·have hkn : k = n := by omega
   have HF := hide (atF_none (l := l) (t := t) (m := m) (fun i y hi hy => hno i y (by omega) hy))
   clear hno
   subst hkn
   go_wp2
   go_ret
   exact ⟨(by rw [HF.out]; rfl), rfl⟩

theorem fentInfo : (Tryz.prog.info? 97).map (fun i => (i.zero, i.size, i.bytes)) = some (some (.agg #[.int .i64 0, .int .i64 0, .int .i64 0, .int .i64 0, .bool false]), fentF.k, 40) := by kernel_rfl

theorem fent_append (w : World) {ops : Array Oper} {rest : List Oper} {o : Oper} {a : Act} {Q : Exit → Act → World → Prop} (hgd : o.guard = none)
  (s x : Operand) (ho : o.op = Op.call { callee := Callee.builtin Builtin.append, args := #[s, x], argTypes := #[25, 25] }) (base : Nat)
  (v : Value) (n : Nat) (xs : List FE) (hs : a.eval s = v) (hown : w.ownsRow base 97 5 v n (fentF.all xs)) (ao : Option Addr) (m c : Nat) (zs : List FE)
  (hx : a.eval x = .slice ao m c) (hrow : GRow fentF w ao m c zs) (hsm : n + m ≤ 137438953472) (hbase : base ≤ w.heap.size)
  (h : ∀ ao' cap' w', w'.ownsRow base 97 5 (.slice ao' (n + m) cap') (n + m) (fentF.all (xs ++ zs)) → GRow fentF w' ao' (n + m) cap' (xs ++ zs) → w.grownBy w' v.ownBlock → Below base w w' → wpList Tryz.prog ops Q rest (a.put o.dst (.slice ao' (n + m) cap')) w') :
  wpList Tryz.prog ops Q (o :: rest) a w :=
 wpList_append_flat (F := fentF) w hgd s x 25 97 ho base Tryz.underlying25 fentInfo rfl (by decide) v n xs hs hown ao m c zs hx hrow hsm hbase h

theorem kept_base {w w' : World} {B i : Nat} {o : Obj} (h : w.heap[i]? = some o) (hb : Below B w w') (hi : i < B) : w'.heap[i]? = some o := by rw [hb.block i hi]; exact h

set_option maxRecDepth 100000 in
set_option maxHeartbeats 1000000 in
theorem specCopyF_any (ao : Option Addr) (n cap : Nat) (l : List FE) (w : World) (h : GRow fentF w ao n cap l) (hn : n ≤ 16777216) :
  Calls Tryz.prog 115 #[.slice ao n cap] w fun r w' => ∃ ao' cap', r = .returned (.slice ao' n cap') ∧ w'.ownsRow w.heap.size 97 5 (.slice ao' n cap') n (fentF.all l) ∧ GRow fentF w' ao' n cap' l ∧ Below w.heap.size w w' := by
 go_enter Tryz.func115, Tryz.ntmps115
 go_wp2_with (at_builtin; refine fent_append _ rfl _ _ rfl w.heap.size _ 0 [] rfl (flat_nil fentF w _ 97 w.heap.size (block_last w _) (Nat.le_refl _)) ao n cap l rfl (h.below (below_one _ _)) (by omega) (by simp) ?_)
 intro ao' cap' w' how hr hgr hb
 have how : w'.ownsRow w.heap.size 97 5 (.slice ao' n cap') n (fentF.all l) := by simpa using how
 have hr : GRow fentF w' ao' n cap' l := by simpa using hr
 have HO := hide how
 have HB := hide ((below_one w _).trans hb)
 clear how hgr hb
 go_wp2
 go_ret
 exact ⟨ao', cap', (by simp), HO.out, hr, HB.out⟩

theorem putGo_yes {e x : FE} {zs r : List FE} (ha : ahead x e.t e.m = false) (hb : both x e.t e.m = false) : (zs ++ [e]) ++ [x] ++ putGo e true r = zs ++ putGo e false (x :: r) := by
 rw [show putGo e false (x :: r) = e :: x :: putGo e true r by simp [putGo, ha, hb]]
 simp
theorem putGo_same {e x : FE} {zs r : List FE} (ha : ahead x e.t e.m = false) (hb : both x e.t e.m = true) : (zs ++ [e]) ++ putGo e true r = zs ++ putGo e false (x :: r) := by
 rw [show putGo e false (x :: r) = e :: putGo e true r by simp [putGo, ha, hb]]
 simp
theorem putGo_keep {e x : FE} {d : Bool} {zs r : List FE} (ha : d = true ∨ ahead x e.t e.m = true) (hb : both x e.t e.m = false) : zs ++ [x] ++ putGo e d r = zs ++ putGo e d (x :: r) := by
 have : (!d && !ahead x e.t e.m) = false := by rcases ha with h | h <;> simp [h]
 rw [show putGo e d (x :: r) = x :: putGo e d r by rw [putGo, this, hb]; rfl]
 simp
theorem putGo_drop {e x : FE} {d : Bool} {zs r : List FE} (ha : d = true ∨ ahead x e.t e.m = true) (hb : both x e.t e.m = true) : zs ++ putGo e d r = zs ++ putGo e d (x :: r) := by
 have : (!d && !ahead x e.t e.m) = false := by rcases ha with h | h <;> simp [h]
 rw [show putGo e d (x :: r) = putGo e d r by rw [putGo, this, hb]; rfl]

theorem drop_at8 {l : List FE} {k : Nat} {x : FE} (h : l[k]? = some x) : l.drop k = x :: l.drop (k + 1) := by
 have hk := (List.getElem?_eq_some_iff.1 h).1
 rw [List.drop_eq_getElem_cons hk]
 rw [List.getElem?_eq_getElem hk] at h
 cases h
 rfl

set_option maxRecDepth 100000 in
set_option maxHeartbeats 1000000 in
theorem clone_any (ao : Option Addr) (n cap : Nat) (l : List FE) (w : World) (h : GRow fentF w ao n cap l) (hn : n ≤ 16777216) :
  Calls Tryz.prog 107 #[.slice ao n cap] w fun r w' => ∃ ao' cap', r = .returned (.slice ao' n cap') ∧ w'.ownsRow w.heap.size 97 5 (.slice ao' n cap') n (fentF.all l) ∧ GRow fentF w' ao' n cap' l ∧ Below w.heap.size w w' := by
 cases ao with
 | none =>
  have hc0 := h.nil rfl
  have hn0 : n = 0 := by have := h.le; omega
  subst hc0 hn0
  have hl : l = [] := List.eq_nil_of_length_eq_zero h.size
  subst hl
  have heq : ∀ W, (binOp .eql 25 (.slice none 0 0) (.slice none 0 0)).run Tryz.prog W = .ok (.bool true) W := fun _ => by kernel_rfl
  go_enter Tryz.func107, Tryz.ntmps107
  go_wp2
  go_ret
  exact ⟨none, 0, rfl, World.ownsRow_nil _ _ _ _, grow_nil _ _, Below.refl _ _⟩
 | some a =>
  have heq : ∀ W, (binOp .eql 25 (.slice (some a) n cap) (.slice none 0 0)).run Tryz.prog W = .ok (.bool false) W := fun _ => by kernel_rfl
  go_enter Tryz.func107, Tryz.ntmps107
  go_wp2_with (at_builtin; refine fent_append _ rfl _ _ rfl w.heap.size _ 0 [] rfl (flat_nil fentF w _ 97 w.heap.size (block_last w _) (Nat.le_refl _)) (some a) n cap l rfl (h.below (below_one _ _)) (by omega) (by simp) ?_)
  intro ao' cap' w' how hr hgr hb
  have how : w'.ownsRow w.heap.size 97 5 (.slice ao' n cap') n (fentF.all l) := by simpa using how
  have hr : GRow fentF w' ao' n cap' l := by simpa using hr
  have HO := hide how
  have HB := hide ((below_one w _).trans hb)
  clear how hgr hb
  go_wp2
  go_ret
  exact ⟨ao', cap', (by simp), HO.out, hr, HB.out⟩

theorem fent_neq (x : FE) (w : World) : (binOp .neq 97 (.agg #[.int .i64 x.t, .int .i64 x.m, .int .i64 x.p, .int .i64 x.a, .bool x.s]) (.agg #[.int .i64 x.t, .int .i64 x.m, .int .i64 x.p, .int .i64 x.a, .bool x.s])).run Tryz.prog w = .ok (.bool false) w := by
 have u3 := Tryz.underlying3
 have a3 := Tryz.isAgg3
 have z3 := Tryz.sizeOf3
 have u4 := Tryz.underlying4
 have a4 := Tryz.isAgg4
 have z4 := Tryz.sizeOf4
 have hS : Tryz.prog.underlying 97 = some (.struct (Tryz.prog.fieldsOf 97)) := by kernel_rfl
 have hp : Tryz.prog.stoodInHeld 97 = false := by kernel_rfl
 rw [run_neq_struct, show (10000 : Nat) = 9999 + 1 from rfl, run_equalIn_agg w 9999 97 _ _ hS hp]
 simp only [Program.fieldsOf, Tryz.underlying97]
 go_simp

set_option maxRecDepth 100000 in
set_option maxHeartbeats 2000000 in
theorem sameFdb_same (ao : Option Addr) (n c : Nat) (ao' : Option Addr) (n' c' : Nat) (l : List FE) (w : World) (hl : GRow fentF w ao n c l) (hl' : GRow fentF w ao' n' c' l) :
  Calls Tryz.prog 16 #[.slice ao n c, .slice ao' n' c'] w fun r w' => r = .returned (.bool true) ∧ Below w.heap.size w w' := by
 have hs := hl.size
 have hs' := hl'.size
 have htop := Nat.le_trans hl.le hl.top
 unfold maxLen at htop
 have hnn : n' = n := by omega
 subst hnn
 have hneq := fent_neq
 have hgd : Tryz.prog.eqGuardType Tryz.prog.depth 97 = false := by kernel_rfl
 go_enter Tryz.func16, Tryz.ntmps16
 go_wp2
 go_loopw [5] (fun i wr => ∃ k : Nat, k ≤ n' ∧ i = .int .i64 k ∧ Below w.heap.size w wr) (fun i _ => n' - (intOf i).toNat)
 case atStart => exact ⟨0, Nat.zero_le _, rfl, Below.refl _ _⟩
 case round =>
  obtain ⟨k, hk, rfl, hb⟩ := hrel
  by_cases hlt : k < n'
  ·obtain ⟨x, b, off, hx, rfl, -⟩ := fent_at (hl.below hb) k hlt
   obtain ⟨y, b', off', hy, rfl, -⟩ := fent_at (hl'.below hb) k hlt
   rw [hx] at hy
   cases hy
   have i1 : (0 : Int) ≤ (k : Int) := by omega
   have i2 : (k : Int) < (n' : Int) := by omega
   have vv : Below wr.heap.size wr wr.drew := gr_drew (Below.refl _ _)
   have CX : Hid (∀ W, Below wr.heap.size wr W → ((W.cell? ⟨b, off + k * 5, none⟩ = some (.int .i64 x.t) ∧ W.cell? ⟨b, off + k * 5 + 1, none⟩ = some (.int .i64 x.m) ∧ W.cell? ⟨b, off + k * 5 + 2, none⟩ = some (.int .i64 x.p) ∧ W.cell? ⟨b, off + k * 5 + 3, none⟩ = some (.int .i64 x.a) ∧ W.cell? ⟨b, off + k * 5 + 4, none⟩ = some (.bool x.s)) ∧ (W.cell? ⟨b', off' + k * 5, none⟩ = some (.int .i64 x.t) ∧ W.cell? ⟨b', off' + k * 5 + 1, none⟩ = some (.int .i64 x.m) ∧ W.cell? ⟨b', off' + k * 5 + 2, none⟩ = some (.int .i64 x.p) ∧ W.cell? ⟨b', off' + k * 5 + 3, none⟩ = some (.int .i64 x.a) ∧ W.cell? ⟨b', off' + k * 5 + 4, none⟩ = some (.bool x.s)))) := fun W h => ⟨(at5 (hl.below hb) h).2 k x hx, (at5 (hl'.below hb) h).2 k x hx⟩
   have HB := hide hb
   clear hb hx
   go_wp2_with fail
   refine wp_region_held_drew (S := (fun W => (W.cell? ⟨b, off + k * 5, none⟩ = some (.int .i64 x.t) ∧ W.cell? ⟨b, off + k * 5 + 1, none⟩ = some (.int .i64 x.m) ∧ W.cell? ⟨b, off + k * 5 + 2, none⟩ = some (.int .i64 x.p) ∧ W.cell? ⟨b, off + k * 5 + 3, none⟩ = some (.int .i64 x.a) ∧ W.cell? ⟨b, off + k * 5 + 4, none⟩ = some (.bool x.s)) ∧ (W.cell? ⟨b', off' + k * 5, none⟩ = some (.int .i64 x.t) ∧ W.cell? ⟨b', off' + k * 5 + 1, none⟩ = some (.int .i64 x.m) ∧ W.cell? ⟨b', off' + k * 5 + 2, none⟩ = some (.int .i64 x.p) ∧ W.cell? ⟨b', off' + k * 5 + 3, none⟩ = some (.int .i64 x.a) ∧ W.cell? ⟨b', off' + k * 5 + 4, none⟩ = some (.bool x.s)))) (by kernel_rfl) (CX.out _ vv) (fun hHeld => ?_)
   refine kK 0 ⟨some 17, .move (.tmp 0), 25, "laws.go:57", #[], none⟩ ?_
   refine kK 1 ⟨some 18, .move (.tmp 5), 3, "laws.go:57", #[], none⟩ ?_
   refine kK 2 ⟨some 19, .indexAddr 25 (.tmp 17) (.tmp 18), 0, "laws.go:57", #[⟨0, .data⟩, ⟨1, .data⟩], none⟩ ?_
   refine kK 3 ⟨some 20, .load 97 (.tmp 19), 97, "laws.go:57", #[⟨2, .data⟩], none⟩ ?_
   refine kK 4 ⟨some 21, .move (.tmp 1), 25, "laws.go:57", #[], none⟩ ?_
   refine kK 5 ⟨some 22, .move (.tmp 5), 3, "laws.go:57", #[], none⟩ ?_
   refine kK 6 ⟨some 23, .indexAddr 25 (.tmp 21) (.tmp 22), 0, "laws.go:57", #[⟨4, .data⟩, ⟨5, .data⟩], none⟩ ?_
   refine kK 7 ⟨some 24, .load 97 (.tmp 23), 97, "laws.go:57", #[⟨6, .data⟩], none⟩ ?_
   refine kK 8 ⟨some 25, .binOp .neq 97 (.tmp 20) (.tmp 24) 97, 4, "laws.go:57", #[⟨3, .data⟩, ⟨7, .data⟩], none⟩ ?_
   refine wpAnyH_done (by kernel_rfl) ?_ _
   clear CX hHeld
   go_wp2
   go_roundw
   case rel => exact ⟨k + 1, by omega, by go_num, gr_trans HB.out vv⟩
   case measure => simp [intOf]; omega
  ·have hk' : k = n' := by omega
   subst hk'
   go_wp2
   go_ret
   exact ⟨rfl, hb⟩

end Go.Proofs.YtddalpglihhipaaGreat
