/-
  Packed: FdbList FdbImplR BrInner3.
-/
import Derived.Test.YtfknffdlmcckkaaGreatPTKW
import Derived.Test.YtfknffdlmcckkaaGreatPTFdbTable
import Derived.Test.YtfknffdlmcckkaaGreatPTK01
import Derived.Test.YtfknffdlmcckkaaGreatPTK25
import Derived.Test.YtfknffdlmcckkaaGreatPTK32
namespace Go.Proofs.YtfknffdlmcckkaaGreat
open Go.RowKit

abbrev q336 : Oper := ⟨some 18, .move (.tmp 0), 114, "l08_fdb.go:173", #[], none⟩
abbrev q337 : Oper := ⟨some 19, .nilCheck (.tmp 18), 0, "l08_fdb.go:173", #[⟨0, .data⟩], none⟩
abbrev q338 : Oper := ⟨some 20, .fieldAddr 119 (.tmp 19) 1, 0, "l08_fdb.go:173", #[⟨1, .data⟩], none⟩
abbrev q339 : Oper := ⟨some 21, .load 117 (.tmp 20), 117, "l08_fdb.go:173", #[⟨2, .data⟩], none⟩
abbrev q340 : Oper := ⟨some 22, .load 121 (.tmp 5), 121, "l08_fdb.go:173", #[], none⟩
abbrev q341 : Oper := ⟨some 23, .lookup 117 (.tmp 21) (.tmp 22) true, 152, "l08_fdb.go:173", #[⟨3, .data⟩, ⟨4, .data⟩], none⟩
abbrev q342 : Oper := ⟨some 17, .move (.tmp 23), 152, "l08_fdb.go:173", #[⟨5, .data⟩], none⟩
abbrev q343 : Oper := ⟨some 24, .extract (.tmp 17) 0, 49, "l08_fdb.go:173", #[⟨6, .data⟩], none⟩
abbrev q344 : Oper := ⟨some 25, .extract (.tmp 17) 1, 4, "l08_fdb.go:173", #[⟨6, .data⟩, { on := 10, ground := Ground.gcOnly Departure.lateStores }], none⟩
abbrev q345 : Oper := ⟨some 6, .alloc 49, 0, "l08_fdb.go:173", #[], none⟩
abbrev q346 : Oper := ⟨none, .store 49 (.tmp 6) (.tmp 24), 0, "l08_fdb.go:173", #[⟨9, .data⟩, ⟨7, .data⟩, ⟨0, .phase⟩, ⟨1, .phase⟩, ⟨2, .phase⟩, ⟨3, .phase⟩, ⟨4, .phase⟩, ⟨5, .phase⟩, ⟨6, .phase⟩, ⟨7, .phase⟩, { on := 8, ground := Ground.textOnly Departure.lateStores }, ⟨9, .phase⟩], none⟩
abbrev q347 : Oper := ⟨some 7, .assign (.tmp 25), 4, "l08_fdb.go:173", #[⟨8, .data⟩, ⟨10, .chain⟩, ⟨0, .phase⟩, ⟨1, .phase⟩, ⟨2, .phase⟩, ⟨3, .phase⟩, ⟨4, .phase⟩, ⟨5, .phase⟩, ⟨6, .phase⟩, ⟨7, .phase⟩, ⟨8, .phase⟩, ⟨9, .phase⟩, ⟨10, .phase⟩], none⟩

set_option maxRecDepth 100000 in
set_option maxHeartbeats 8000000 in
theorem list_any {N : Nat} (w : World) (base p bm : Nat) (ks : List FK) (g : FK → Option FE) (h : TabN N w base p bm ks g) :
  Calls Tryz.prog 89 #[.pointer (some ⟨p, 0, none⟩)] w fun r w' => ∃ ao' cap', r = .returned (.slice ao' (ks.filterMap g).length cap') ∧ w'.ownsRow w.heap.size 49 5 (.slice ao' (ks.filterMap g).length cap') (ks.filterMap g).length (fentF.all (ks.filterMap g)) ∧ GRow fentF w' ao' (ks.filterMap g).length cap' (ks.filterMap g) ∧ Below w.heap.size w w' := by
 obtain ⟨ao, cap, hbox, hown⟩ := h.box
 have hrow := grow_own (F := fkF) hown
 have hmap := h.map
 have hoks := h.oks
 have hfew := h.few
 have htop := Nat.le_trans hrow.le hrow.top
 unfold maxLen at htop
 obtain ⟨⟨p0, p1⟩, -⟩ := cells2 hbox
 clear h hown
 go_enter Tryz.func89, Tryz.ntmps89
 go_wp2
 go_loopw [3, 13] (fun o i wr => ∃ (k : Nat) (zs : List FE) (az : Option Addr) (cz nz : Nat), k ≤ ks.length ∧ i = .int .i64 k ∧ o = .slice az nz cz ∧ zs.length = nz ∧ nz ≤ k ∧ wr.ownsRow w.heap.size 49 5 (.slice az nz cz) nz (fentF.all zs) ∧ zs ++ (ks.drop k).filterMap g = ks.filterMap g ∧ Below w.heap.size w wr) (fun _ i _ => ks.length - (intOf i).toNat)
 case atStart => exact ⟨0, [], none, 0, 0, Nat.zero_le _, rfl, rfl, rfl, Nat.zero_le _, World.ownsRow_nil _ _ _ _, by simp, Below.refl _ _⟩
 case round =>
  obtain ⟨k, zs, az, cz, nz, hk, rfl, rfl, hzs, hnz, how, hz, hb⟩ := hrel
  by_cases hlt : k < ks.length
  ·obtain ⟨y, b, off, hy, rfl, a0, a1, a2⟩ := fk_at (hrow.below hb) k hlt
   have hyk := hoks y (List.mem_of_getElem? hy)
   have hdr : ks.drop k = y :: ks.drop (k + 1) := by
    obtain ⟨h1, rfl⟩ := List.getElem?_eq_some_iff.1 hy
    exact List.drop_eq_getElem_cons h1
   have hpx := kept_block hbox hb
   have hmap := hmap.kept hb
   clear hy
   cases hgy : g y with
   | some e =>
    have hS : ∀ W, Below (wr.alloc (.cells #[.int .i64 y.1, .int .i64 y.2.1, .int .i64 y.2.2] 121)).heap.size (wr.alloc (.cells #[.int .i64 y.1, .int .i64 y.2.1, .int .i64 y.2.2] 121)) W → (W.cell? ⟨p, 1, none⟩ = some (.map (some bm)) ∧ (W.cell? ⟨wr.heap.size, 0, none⟩ = some (.int .i64 y.1) ∧ W.cell? ⟨wr.heap.size, 1, none⟩ = some (.int .i64 y.2.1) ∧ W.cell? ⟨wr.heap.size, 2, none⟩ = some (.int .i64 y.2.2)) ∧ (Instr.lookup 117 (.map (some bm)) (.agg #[.int .i64 y.1, .int .i64 y.2.1, .int .i64 y.2.2]) true).run Tryz.prog W = .ok (.tuple #[.agg #[.int .i64 e.t, .int .i64 e.m, .int .i64 e.p, .int .i64 e.a, .bool e.s], .bool true]) W) := by
     intro W hW
     have hW1 : Below wr.heap.size wr W := gr_trans (below_one wr (.cells #[.int .i64 y.1, .int .i64 y.2.1, .int .i64 y.2.2] 121)) hW
     refine ⟨(cells2 (kept_block hpx hW1)).1.2, (cells3 (kept_block (block_last wr (.cells #[.int .i64 y.1, .int .i64 y.2.1, .int .i64 y.2.2] 121)) hW)).1, ?_⟩
     have := (hmap.kept hW1).look true hyk
     rw [hgy] at this
     exact this
    have HSS := hide hS
    clear hS
    go_wp2_with fail
    refine wp_region_held_drew (S := (fun W => W.cell? ⟨p, 1, none⟩ = some (.map (some bm)) ∧ (W.cell? ⟨wr.heap.size, 0, none⟩ = some (.int .i64 y.1) ∧ W.cell? ⟨wr.heap.size, 1, none⟩ = some (.int .i64 y.2.1) ∧ W.cell? ⟨wr.heap.size, 2, none⟩ = some (.int .i64 y.2.2)) ∧ (Instr.lookup 117 (.map (some bm)) (.agg #[.int .i64 y.1, .int .i64 y.2.1, .int .i64 y.2.2]) true).run Tryz.prog W = .ok (.tuple #[.agg #[.int .i64 e.t, .int .i64 e.m, .int .i64 e.p, .int .i64 e.a, .bool e.s], .bool true]) W)) (by kernel_rfl) (by first | exact HSS.out _ (gr_drew (Below.refl _ _)) | exact HSS.out _ (gr_drew (below_one _ _))) (fun hHeld => ?_)
    refine kK 0 q336 ?_
    refine kK 1 q337 ?_
    refine kK 2 q338 ?_
    refine kK 3 q339 ?_
    refine kK 4 q340 ?_
    refine kK 5 q341 ?_
    refine kK 6 q342 ?_
    refine kK 7 q343 ?_
    refine kK 8 q344 ?_
    refine tR [9] ?_
    refine AllReadyH.cons (o := q345) rfl (fun K hK => ?_) ?_
    ·go_simp
     refine hK.out _ _ (by first | exact HSS.out _ (gr_drew (Below.refl _ _)) | exact HSS.out _ (gr_drew (below_one _ _))) (fun hHeld => ?_)
     clear hK K
     try simp only [Act.put, lA, lB, lC]
     refine tR [10] ?_
     refine AllReadyH.cons (o := q346) rfl (fun K hK => ?_) ?_
     ·go_simp
      refine hK.out _ _ (by first | exact HSS.out _ (gr_drew (Below.refl _ _)) | exact HSS.out _ (gr_drew (below_one _ _))) (fun hHeld => ?_)
      clear hK K
      try simp only [Act.put, lA, lB, lC]
      refine kK 11 q347 ?_
      refine wpAnyH_done (by kernel_rfl) ?_ _
      have o2 : (((wr.alloc (.cells #[.int .i64 y.1, .int .i64 y.2.1, .int .i64 y.2.2] 121)).alloc (.cells #[.int .i64 e.t, .int .i64 e.m, .int .i64 e.p, .int .i64 e.a, .bool e.s] 49)).drew).ownsRow w.heap.size 49 5 (.slice az nz cz) nz (fentF.all zs) := gown_below how (gr_drew (gr_alloc (below_one wr (.cells #[.int .i64 y.1, .int .i64 y.2.1, .int .i64 y.2.2] 121)) (.cells #[.int .i64 e.t, .int .i64 e.m, .int .i64 e.p, .int .i64 e.a, .bool e.s] 49)))
      have b2 : Below w.heap.size w (((wr.alloc (.cells #[.int .i64 y.1, .int .i64 y.2.1, .int .i64 y.2.2] 121)).alloc (.cells #[.int .i64 e.t, .int .i64 e.m, .int .i64 e.p, .int .i64 e.a, .bool e.s] 49)).drew) := gr_trans hb (gr_drew (gr_alloc (below_one wr (.cells #[.int .i64 y.1, .int .i64 y.2.1, .int .i64 y.2.2] 121)) (.cells #[.int .i64 e.t, .int .i64 e.m, .int .i64 e.p, .int .i64 e.a, .bool e.s] 49)))
      have x2 : (((wr.alloc (.cells #[.int .i64 y.1, .int .i64 y.2.1, .int .i64 y.2.2] 121)).alloc (.cells #[.int .i64 e.t, .int .i64 e.m, .int .i64 e.p, .int .i64 e.a, .bool e.s] 49)).drew).heap[wr.heap.size + 1]? = some (.cells #[.int .i64 e.t, .int .i64 e.m, .int .i64 e.p, .int .i64 e.a, .bool e.s] 49) := by
       have := block_last (wr.alloc (.cells #[.int .i64 y.1, .int .i64 y.2.1, .int .i64 y.2.2] 121)) (.cells #[.int .i64 e.t, .int .i64 e.m, .int .i64 e.p, .int .i64 e.a, .bool e.s] 49)
       rw [show (wr.alloc (.cells #[.int .i64 y.1, .int .i64 y.2.1, .int .i64 y.2.2] 121)).heap.size = wr.heap.size + 1 by simp] at this
       exact this
      clear HSS hHeld how hb hpx hmap
      generalize hw2 : ((wr.alloc (.cells #[.int .i64 y.1, .int .i64 y.2.1, .int .i64 y.2.2] 121)).alloc (.cells #[.int .i64 e.t, .int .i64 e.m, .int .i64 e.p, .int .i64 e.a, .bool e.s] 49)).drew = w2 at *
      clear hw2
      obtain ⟨⟨x0, x1, x3, x4, x5⟩, -⟩ := cells5 x2
      have o3 := gown_below o2 (below_one w2 (.cells #[.int .i64 e.t, .int .i64 e.m, .int .i64 e.p, .int .i64 e.a, .bool e.s] 49))
      have HBR := hide (gr_trans b2 (below_one w2 (.cells #[.int .i64 e.t, .int .i64 e.m, .int .i64 e.p, .int .i64 e.a, .bool e.s] 49)))
      have hbase9 : w.heap.size ≤ (w2.alloc (.cells #[.int .i64 e.t, .int .i64 e.m, .int .i64 e.p, .int .i64 e.a, .bool e.s] 49)).heap.size := HBR.out.size
      have hl1 : (zs ++ [e]).length = nz + 1 := by simp [hzs]
      have HL := hide hl1
      have HQ := hide (show zs ++ [e] ++ (ks.drop (k + 1)).filterMap g = ks.filterMap g by rw [← hz, hdr, List.filterMap_cons, hgy, List.append_assoc]; rfl)
      clear o2 b2 hz hl1 x2
      go_wp2_with (at_builtin; refine fent_append _ rfl _ _ rfl w.heap.size _ nz zs rfl o3 _ 1 1 [e] rfl (grow_one fentF _ e _ _ rfl) (by omega) hbase9 ?_)
      intro ao9 cap9 w9 how9 hr9 hgr9 hb9
      have HB9 := hide (HBR.out.trans hb9)
      have HO := hide how9
      clear how9 hr9 hgr9 hb9 o3 HBR x0 x1 x3 x4 x5
      go_wp2
      go_roundw
      case rel => exact ⟨k + 1, zs ++ [e], ao9, cap9, nz + 1, by omega, by go_num, rfl, HL.out, by omega, HO.out, HQ.out, HB9.out⟩
      case measure => simp [intOf]; omega
     exact AllReadyH.nil
    exact AllReadyH.nil
   | none =>
    have hS : ∀ W, Below (wr.alloc (.cells #[.int .i64 y.1, .int .i64 y.2.1, .int .i64 y.2.2] 121)).heap.size (wr.alloc (.cells #[.int .i64 y.1, .int .i64 y.2.1, .int .i64 y.2.2] 121)) W → (W.cell? ⟨p, 1, none⟩ = some (.map (some bm)) ∧ (W.cell? ⟨wr.heap.size, 0, none⟩ = some (.int .i64 y.1) ∧ W.cell? ⟨wr.heap.size, 1, none⟩ = some (.int .i64 y.2.1) ∧ W.cell? ⟨wr.heap.size, 2, none⟩ = some (.int .i64 y.2.2)) ∧ (Instr.lookup 117 (.map (some bm)) (.agg #[.int .i64 y.1, .int .i64 y.2.1, .int .i64 y.2.2]) true).run Tryz.prog W = .ok (.tuple #[.agg #[.int .i64 0, .int .i64 0, .int .i64 0, .int .i64 0, .bool false], .bool false]) W) := by
     intro W hW
     have hW1 : Below wr.heap.size wr W := gr_trans (below_one wr (.cells #[.int .i64 y.1, .int .i64 y.2.1, .int .i64 y.2.2] 121)) hW
     refine ⟨(cells2 (kept_block hpx hW1)).1.2, (cells3 (kept_block (block_last wr (.cells #[.int .i64 y.1, .int .i64 y.2.1, .int .i64 y.2.2] 121)) hW)).1, ?_⟩
     have := (hmap.kept hW1).look true hyk
     rw [hgy] at this
     exact this
    have HSS := hide hS
    clear hS
    go_wp2_with fail
    refine wp_region_held_drew (S := (fun W => W.cell? ⟨p, 1, none⟩ = some (.map (some bm)) ∧ (W.cell? ⟨wr.heap.size, 0, none⟩ = some (.int .i64 y.1) ∧ W.cell? ⟨wr.heap.size, 1, none⟩ = some (.int .i64 y.2.1) ∧ W.cell? ⟨wr.heap.size, 2, none⟩ = some (.int .i64 y.2.2)) ∧ (Instr.lookup 117 (.map (some bm)) (.agg #[.int .i64 y.1, .int .i64 y.2.1, .int .i64 y.2.2]) true).run Tryz.prog W = .ok (.tuple #[.agg #[.int .i64 0, .int .i64 0, .int .i64 0, .int .i64 0, .bool false], .bool false]) W)) (by kernel_rfl) (by first | exact HSS.out _ (gr_drew (Below.refl _ _)) | exact HSS.out _ (gr_drew (below_one _ _))) (fun hHeld => ?_)
    refine kK 0 q336 ?_
    refine kK 1 q337 ?_
    refine kK 2 q338 ?_
    refine kK 3 q339 ?_
    refine kK 4 q340 ?_
    refine kK 5 q341 ?_
    refine kK 6 q342 ?_
    refine kK 7 q343 ?_
    refine kK 8 q344 ?_
    refine tR [9] ?_
    refine AllReadyH.cons (o := q345) rfl (fun K hK => ?_) ?_
    ·go_simp
     refine hK.out _ _ (by first | exact HSS.out _ (gr_drew (Below.refl _ _)) | exact HSS.out _ (gr_drew (below_one _ _))) (fun hHeld => ?_)
     clear hK K
     try simp only [Act.put, lA, lB, lC]
     refine tR [10] ?_
     refine AllReadyH.cons (o := q346) rfl (fun K hK => ?_) ?_
     ·go_simp
      refine hK.out _ _ (by first | exact HSS.out _ (gr_drew (Below.refl _ _)) | exact HSS.out _ (gr_drew (below_one _ _))) (fun hHeld => ?_)
      clear hK K
      try simp only [Act.put, lA, lB, lC]
      refine kK 11 q347 ?_
      refine wpAnyH_done (by kernel_rfl) ?_ _
      have o2 : (((wr.alloc (.cells #[.int .i64 y.1, .int .i64 y.2.1, .int .i64 y.2.2] 121)).alloc (.cells #[.int .i64 0, .int .i64 0, .int .i64 0, .int .i64 0, .bool false] 49)).drew).ownsRow w.heap.size 49 5 (.slice az nz cz) nz (fentF.all zs) := gown_below how (gr_drew (gr_alloc (below_one wr (.cells #[.int .i64 y.1, .int .i64 y.2.1, .int .i64 y.2.2] 121)) (.cells #[.int .i64 0, .int .i64 0, .int .i64 0, .int .i64 0, .bool false] 49)))
      have b2 : Below w.heap.size w (((wr.alloc (.cells #[.int .i64 y.1, .int .i64 y.2.1, .int .i64 y.2.2] 121)).alloc (.cells #[.int .i64 0, .int .i64 0, .int .i64 0, .int .i64 0, .bool false] 49)).drew) := gr_trans hb (gr_drew (gr_alloc (below_one wr (.cells #[.int .i64 y.1, .int .i64 y.2.1, .int .i64 y.2.2] 121)) (.cells #[.int .i64 0, .int .i64 0, .int .i64 0, .int .i64 0, .bool false] 49)))
      have x2 : (((wr.alloc (.cells #[.int .i64 y.1, .int .i64 y.2.1, .int .i64 y.2.2] 121)).alloc (.cells #[.int .i64 0, .int .i64 0, .int .i64 0, .int .i64 0, .bool false] 49)).drew).heap[wr.heap.size + 1]? = some (.cells #[.int .i64 0, .int .i64 0, .int .i64 0, .int .i64 0, .bool false] 49) := by
       have := block_last (wr.alloc (.cells #[.int .i64 y.1, .int .i64 y.2.1, .int .i64 y.2.2] 121)) (.cells #[.int .i64 0, .int .i64 0, .int .i64 0, .int .i64 0, .bool false] 49)
       rw [show (wr.alloc (.cells #[.int .i64 y.1, .int .i64 y.2.1, .int .i64 y.2.2] 121)).heap.size = wr.heap.size + 1 by simp] at this
       exact this
      clear HSS hHeld how hb hpx hmap
      generalize hw2 : ((wr.alloc (.cells #[.int .i64 y.1, .int .i64 y.2.1, .int .i64 y.2.2] 121)).alloc (.cells #[.int .i64 0, .int .i64 0, .int .i64 0, .int .i64 0, .bool false] 49)).drew = w2 at *
      clear hw2
      have HQ := hide (show zs ++ (ks.drop (k + 1)).filterMap g = ks.filterMap g by rw [← hz, hdr, List.filterMap_cons, hgy])
      have HO := hide o2
      have HB9 := hide b2
      clear o2 b2 hz x2
      go_wp2
      go_roundw
      case rel => exact ⟨k + 1, zs, az, cz, nz, by omega, by go_num, rfl, hzs, by omega, HO.out, HQ.out, HB9.out⟩
      case measure => simp [intOf]; omega
     exact AllReadyH.nil
    exact AllReadyH.nil
  ·have hkn : k = ks.length := by omega
   subst hkn
   rw [List.drop_eq_nil_of_le (Nat.le_refl _)] at hz
   have hz : zs = ks.filterMap g := by simpa using hz
   have hl : nz = (ks.filterMap g).length := by rw [← hz]; exact hzs.symm
   rw [hz] at how
   subst hl
   have HO := hide how
   have HR := hide (grow_own how)
   have HB := hide hb
   clear how hb
   go_wp2
   go_ret
   exact ⟨_, _, rfl, HO.out, HR.out, HB.out⟩

theorem ne_cells {w : World} {b i : Nat} {cs : Array Value} {T : TypeId} (hk : ∀ cs T, w.heap[b]? ≠ some (.cells cs T)) (h : w.heap[i]? = some (.cells cs T)) : b ≠ i := by
 intro e
 subst e
 exact hk _ _ h

theorem own_kind {w w' : World} {base k : Nat} {e : TypeId} {v : Value} {n : Nat} {xs : List Value} (h : w.ownsRow base e k v n xs) {b : Nat} (hg : w.grownBy w' (some b)) (hk : ∀ cs T, w.heap[b]? ≠ some (.cells cs T)) : w'.ownsRow base e k v n xs := by
 refine gown_other h hg ?_
 intro i hi e1
 subst e1
 rcases h.2 with ⟨rfl, _⟩ | ⟨g, cap, cur, rfl, _, hh, _⟩
 ·cases hi
 ·cases hi
  exact hk _ _ hh

theorem Ranging.iter {P : Program} {α β : Type} {M : MK P α β} {w : World} {b r n : Nat} {g : α → Option β} {left : α → Bool} {cnt : Nat} (h : Ranging M w b r n g left cnt) : ∀ cs T, w.heap[r]? ≠ some (.cells cs T) := by
 obtain ⟨es, clock, since, seen, c0, hb, he, hr, -⟩ := h
 intro cs T e
 rw [hr] at e
 cases e

theorem Ranging.mapk {P : Program} {α β : Type} {M : MK P α β} {w : World} {b r n : Nat} {g : α → Option β} {left : α → Bool} {cnt : Nat} (h : Ranging M w b r n g left cnt) : ∀ cs T, w.heap[b]? ≠ some (.cells cs T) := by
 obtain ⟨es, clock, since, seen, c0, hb, -⟩ := h
 intro cs T e
 rw [hb] at e
 cases e

structure RSt (w : World) (it : Nat) (wr : World) (p bm : Nat) (aq : Option Addr) (cq : Nat) (l : List FE) (f : FE → Option FE) (left : FK → Bool) (cnt : Nat) : Prop where
 rg : Ranging mE wr bm it 16777216 (midF f (entsOf l) left) left cnt
 box : wr.heap[p]? = some (.cells #[.slice aq (keysOf l).length cq, .map (some bm)] 119)
 own : wr.ownsRow w.heap.size 121 3 (.slice aq (keysOf l).length cq) (keysOf l).length (fkF.all (keysOf l))
 bel : Below w.heap.size w wr

theorem RSt.turned {w : World} {it : Nat} {wr w' : World} {p bm : Nat} {aq : Option Addr} {cq : Nat} {l : List FE} {f : FE → Option FE} {left : FK → Bool} {cnt j : Nat} (h : RSt w it wr p bm aq cq l f left cnt) (hg : wr.grownBy w' (some j)) (hk : ∀ cs T, wr.heap[j]? ≠ some (.cells cs T)) (hj : w.heap.size ≤ j) :
  w'.heap[p]? = some (.cells #[.slice aq (keysOf l).length cq, .map (some bm)] 119) ∧ w'.ownsRow w.heap.size 121 3 (.slice aq (keysOf l).length cq) (keysOf l).length (fkF.all (keysOf l)) ∧ Below w.heap.size w w' :=
 ⟨kept_grown h.box hg (fun i hi => by cases hi; exact ne_cells hk h.box), own_kind h.own hg hk, h.bel.grown hg h.bel.size (fun i hi => by cases hi; exact hj)⟩

theorem RSt.tab {w : World} {it : Nat} {wr : World} {p bm : Nat} {aq : Option Addr} {cq : Nat} {l : List FE} {f : FE → Option FE} {left : FK → Bool} {cnt : Nat} (h : RSt w it wr p bm aq cq l f left cnt) (hl : ∀ k, left k = false) (h1 : w.heap.size ≤ p) (h2 : w.heap.size ≤ bm) (h3 : ∀ k ∈ keysOf l, FKok k) (h4 : (keysOf l).length ≤ 16777216) :
  Tab wr w.heap.size p bm (keysOf l) (fun k => (entsOf l k).bind f) :=
 ⟨⟨aq, cq, h.box, h.own⟩, by have := h.rg.is; rw [mid_end f (entsOf l) hl] at this; exact this, h1, h2, h3, h4⟩

def flushE (p : Int) (e : FE) : Option FE := if (e.s || (e.p != p)) = true then some e else none

theorem flush_is (l : List FE) (p : Int) : flushF l p = l.filterMap (flushE p) := by
 induction l with
 | nil => rfl
 | cons x r ih =>
  unfold flushF at *
  unfold flushE at *
  rw [List.filter_cons, List.filterMap_cons, ih]
  cases (x.s || (x.p != p)) <;> rfl

set_option maxRecDepth 100000 in
set_option maxHeartbeats 8000000 in
theorem implAge_made (ao : Option Addr) (n cap : Nat) (l : List FE) (w : World) (h : GRow fentF w ao n cap l) (hn : n ≤ 16777216) (hR : ∀ x ∈ l, x.Rng) :
  Calls Tryz.prog 43 #[.slice ao n cap] w fun r w' => ∃ ao' cap', r = .returned (.slice ao' (ageF l).length cap') ∧ w'.ownsRow w.heap.size 49 5 (.slice ao' (ageF l).length cap') (ageF l).length (fentF.all (ageF l)) ∧ GRow fentF w' ao' (ageF l).length cap' (ageF l) ∧ Below w.heap.size w w' := by
 rw [show ageF l = l.filterMap ageE from rfl]
 go_enter Tryz.func43, Tryz.ntmps43
 go_wp2_with fail
 refine (tableOf_any ao n cap l _ h hn hR).mono ?_
 rintro r w1 ⟨p, bm, rfl, tab, hb1⟩
 obtain ⟨aq, cq, hbox, hown⟩ := tab.box
 obtain ⟨⟨pq0, pq1⟩, -⟩ := cells2 hbox
 have hmap := tab.map
 have HLP := hide tab.lp
 have HLB := hide tab.lb
 have HOK := hide tab.oks
 have HFW := hide tab.few
 have hs1 := hb1.size
 clear tab
 go_wp2_with (first | (at_range; refine wpList_range_fe _ rfl _ rfl bm 16777216 (entsOf l) rfl hmap ?_; intro w2 cnt2 hrg2 hb2 hs2) | go_in)
 go_frame
 have st2 : RSt w w1.heap.size w2 p bm aq cq l ageE (fun k => (entsOf l k).isSome) cnt2 := ⟨by rw [mid_start]; exact hrg2, kept_block hbox hb2, gown_below hown hb2, gr_trans hb1 hb2⟩
 have HS2 := hide st2
 clear st2 hrg2 hb2 hown hbox hmap pq0 pq1 hb1
 go_loopw [13] (fun _ wr => ∃ left cnt, RSt w w1.heap.size wr p bm aq cq l ageE left cnt) (fun _ wr => wr.rangeLeft bm w1.heap.size)
 case atStart => exact ⟨_, _, HS2.out⟩
 case round =>
  obtain ⟨left, cnt, st⟩ := hrel
  clear HS2
  have hrg := st.rg
  have HST := hide st
  go_wp2_with (first | (at_next; refine wpList_next_fe _ rfl _ rfl bm w1.heap.size 16777216 _ left cnt rfl hrg ?_ ?_) | go_in)
  ·intro hl0
   have hT : Tab wr w.heap.size p bm (keysOf l) (fun k => (entsOf l k).bind ageE) := st.tab hl0 HLP.out HLB.out HOK.out HFW.out
   have HB := hide st.bel
   clear hrg st HST
   go_wp2_with fail
   refine (list_any _ _ p bm _ _ hT).mono ?_
   rintro r w9 ⟨ao9, cap9, rfl, ho9, hr9, hb9⟩
   rw [out_bind (ents_map l) ageE] at ho9 hr9
   have HO := hide (gown_lt ho9 (base' := w.heap.size) HB.out.size)
   have HR := hide hr9
   have HB9 := hide (gr_trans HB.out hb9)
   clear ho9 hr9 hb9 hT
   go_wp2
   go_ret
   exact ⟨_, _, (by rw [out_bind (ents_map l) ageE]; rfl), HO.out, HR.out, HB9.out⟩
  ·intro s hs
   rcases s with ⟨y, v, w3, cnt3⟩
   obtain ⟨hyk, hly, hgy, hrg3, hlt3, hg3, hen⟩ := hs
   dsimp only at hyk hly hgy hrg3 hlt3 hg3 hen ⊢
   have hv := hR v (ents_mem (mid_at hly hgy))
   have HN := hide (mid_next hly hgy)
   have hls : upd left y false y = false := upd_same _ _ _
   have st3 := st.turned hg3 (st.rg.iter) (by omega)
   have HLE := hide hrg.left_eq
   clear hrg st HST
   cases hvs : v.s
   ·have HVS := hide hvs
    by_cases hva : v.a < 4
    ·have hfv : ageE v = some (⟨v.t, v.m, v.p, v.a + 1, v.s⟩ : FE) := by unfold ageE; rw [hvs]; simp [hva]
     rw [hvs] at hen
     clear hvs
     have hw : IntKind.i64.wrap (v.a + 1) = v.a + 1 := wrap_at _ (by have := hv.2.2.2; omega)
     have b4 := below_two w3 (.cells #[.int .i64 y.1, .int .i64 y.2.1, .int .i64 y.2.2] 121) (.cells #[.int .i64 v.t, .int .i64 v.m, .int .i64 v.p, .int .i64 (v.a + 1), .bool false] 49)
     have q1 := kept_block st3.1 b4
     have q2 := gown_below st3.2.1 b4
     have q3 := gr_trans st3.2.2 b4
     have q4 := hrg3.below b4
     have kk := kept_block (block_last w3 (.cells #[.int .i64 y.1, .int .i64 y.2.1, .int .i64 y.2.2] 121)) (below_one _ (.cells #[.int .i64 v.t, .int .i64 v.m, .int .i64 v.p, .int .i64 (v.a + 1), .bool false] 49))
     have ke := block_last (w3.alloc (.cells #[.int .i64 y.1, .int .i64 y.2.1, .int .i64 y.2.2] 121)) (.cells #[.int .i64 v.t, .int .i64 v.m, .int .i64 v.p, .int .i64 (v.a + 1), .bool false] 49)
     rw [show (w3.alloc (.cells #[.int .i64 y.1, .int .i64 y.2.1, .int .i64 y.2.2] 121)).heap.size = w3.heap.size + 1 by simp] at ke
     have hfe : upd (midF ageE (entsOf l) left) y (some (⟨v.t, v.m, v.p, v.a + 1, v.s⟩ : FE)) = midF ageE (entsOf l) (upd left y false) := by rw [← HN.out, hfv]
     have HFE := hide hfe
     clear hfe
     go_wp2_with fail
     clear hen
     generalize hw4 : (w3.alloc (.cells #[.int .i64 y.1, .int .i64 y.2.1, .int .i64 y.2.2] 121)).alloc (.cells #[.int .i64 v.t, .int .i64 v.m, .int .i64 v.p, .int .i64 (v.a + 1), .bool false] 49) = w4 at *
     obtain ⟨w5, hr5, hrg5, hg5, -⟩ := Ranging.store (w := w4.drew) (q4.kept rfl rfl) (by unfold maxLen; omega) hyk (by rw [hgy]; rfl) (⟨v.t, v.m, v.p, v.a + 1, v.s⟩ : FE)
     have hr5 : (Instr.mapUpdate 117 (.map (some bm)) (.agg #[.int .i64 y.1, .int .i64 y.2.1, .int .i64 y.2.2]) (.agg #[.int .i64 v.t, .int .i64 v.m, .int .i64 v.p, .int .i64 (v.a + 1), .bool v.s])).run Tryz.prog w4.drew = .ok () w5 := hr5
     rw [HVS.out] at hr5
     have hg5 : w4.grownBy w5 (some bm) := ⟨hg5.os, hg5.tape, hg5.output, hg5.size, hg5.block⟩
     rw [HFE.out] at hrg5
     have hk4 := q4.mapk
     have n5 := ne_cells hk4 q1
     have m5 := ne_cells hk4 kk
     have o5 := ne_cells hk4 ke
     have q5 := kept_grown q1 hg5 (fun i hi => by cases hi; exact n5)
     have kk5 := kept_grown kk hg5 (fun i hi => by cases hi; exact m5)
     have ke5 := kept_grown ke hg5 (fun i hi => by cases hi; exact o5)
     have HS5 := hide (show RSt w w1.heap.size w5 p bm aq cq l ageE (upd left y false) cnt3 from ⟨hrg5, q5, own_kind q2 hg5 hk4, q3.grown hg5 q3.size (fun i hi => by cases hi; exact HLB.out)⟩)
     have hS0 : w4.drew.cell? ⟨p, 1, none⟩ = some (.map (some bm)) ∧ _ ∧ _ := ⟨(cells2 (w := w4.drew) q1).1.2, (cells3 (w := w4.drew) kk).1, (cells5 (w := w4.drew) ke).1⟩
     have hS1 : w5.cell? ⟨p, 1, none⟩ = some (.map (some bm)) ∧ _ ∧ _ := ⟨(cells2 q5).1.2, (cells3 kk5).1, (cells5 ke5).1⟩
     clear q1 q2 q3 q4 hrg3 st3 b4 hk4 n5 m5 o5 q5 kk5 ke5 hrg5 kk ke
     refine wp_region_held_drew (S := (fun W => W.cell? ⟨p, 1, none⟩ = some (.map (some bm)) ∧ (W.cell? ⟨w3.heap.size, 0, none⟩ = some (.int .i64 y.1) ∧ W.cell? ⟨w3.heap.size, 1, none⟩ = some (.int .i64 y.2.1) ∧ W.cell? ⟨w3.heap.size, 2, none⟩ = some (.int .i64 y.2.2)) ∧ (W.cell? ⟨w3.heap.size + 1, 0, none⟩ = some (.int .i64 v.t) ∧ W.cell? ⟨w3.heap.size + 1, 1, none⟩ = some (.int .i64 v.m) ∧ W.cell? ⟨w3.heap.size + 1, 2, none⟩ = some (.int .i64 v.p) ∧ W.cell? ⟨w3.heap.size + 1, 3, none⟩ = some (.int .i64 (v.a + 1)) ∧ W.cell? ⟨w3.heap.size + 1, 4, none⟩ = some (.bool false)))) (by kernel_rfl) (by first | exact hS0 | exact hS1) (fun hHeld => ?_)
     refine kK 0 ⟨some 22, .move (.tmp 3), 114, "l08_fdb.go:67", #[], none⟩ ?_
     refine kK 1 ⟨some 23, .nilCheck (.tmp 22), 0, "l08_fdb.go:67", #[⟨0, .data⟩], none⟩ ?_
     refine kK 2 ⟨some 24, .fieldAddr 119 (.tmp 23) 1, 0, "l08_fdb.go:67", #[⟨1, .data⟩], none⟩ ?_
     refine kK 3 ⟨some 25, .load 117 (.tmp 24), 117, "l08_fdb.go:67", #[⟨2, .data⟩], none⟩ ?_
     refine kK 4 ⟨some 26, .load 121 (.tmp 4), 121, "l08_fdb.go:67", #[], none⟩ ?_
     refine kK 5 ⟨some 27, .load 49 (.tmp 5), 49, "l08_fdb.go:67", #[], none⟩ ?_
     refine tR [6] ?_
     refine AllReadyH.cons (o := ⟨none, .mapUpdate 117 (.tmp 25) (.tmp 26) (.tmp 27), 0, "l08_fdb.go:67", #[⟨3, .data⟩, ⟨4, .data⟩, ⟨5, .data⟩, ⟨0, .phase⟩, ⟨1, .phase⟩, ⟨2, .phase⟩, ⟨3, .phase⟩, ⟨4, .phase⟩, ⟨5, .phase⟩], none⟩) rfl (fun K hK => ?_) ?_
     ·go_simp
      refine hK.out _ _ (by first | exact hS0 | exact hS1) (fun hHeld => ?_)
      clear hK K
      try simp only [Act.put, lA, lB, lC]
      refine wpAnyH_done (by kernel_rfl) ?_ _
      clear hS0 hS1 hr5 hHeld
      go_wp2
      go_roundw
      case rel => exact ⟨_, _, HS5.out⟩
      case measure => rw [HS5.out.rg.left_eq, HLE.out]; exact hlt3
     exact AllReadyH.nil
    ·have hfv : ageE v = none := by unfold ageE; rw [hvs]; simp [hva]
     have hva2 : (4 : Int) ≤ v.a := by omega
     rw [hvs] at hen
     clear hvs
     have b4 := below_two w3 (.cells #[.int .i64 y.1, .int .i64 y.2.1, .int .i64 y.2.2] 121) (.cells #[.int .i64 v.t, .int .i64 v.m, .int .i64 v.p, .int .i64 v.a, .bool false] 49)
     have q1 := kept_block st3.1 b4
     have q2 := gown_below st3.2.1 b4
     have q3 := gr_trans st3.2.2 b4
     have q4 := hrg3.below b4
     have kk := kept_block (block_last w3 (.cells #[.int .i64 y.1, .int .i64 y.2.1, .int .i64 y.2.2] 121)) (below_one _ (.cells #[.int .i64 v.t, .int .i64 v.m, .int .i64 v.p, .int .i64 v.a, .bool false] 49))
     have ke := block_last (w3.alloc (.cells #[.int .i64 y.1, .int .i64 y.2.1, .int .i64 y.2.2] 121)) (.cells #[.int .i64 v.t, .int .i64 v.m, .int .i64 v.p, .int .i64 v.a, .bool false] 49)
     rw [show (w3.alloc (.cells #[.int .i64 y.1, .int .i64 y.2.1, .int .i64 y.2.2] 121)).heap.size = w3.heap.size + 1 by simp] at ke
     go_wp2_with fail
     clear hen
     generalize hw4 : (w3.alloc (.cells #[.int .i64 y.1, .int .i64 y.2.1, .int .i64 y.2.2] 121)).alloc (.cells #[.int .i64 v.t, .int .i64 v.m, .int .i64 v.p, .int .i64 v.a, .bool false] 49) = w4 at *
     obtain ⟨w5, cnt5, hr5, hrg5, hle5, hg5, -⟩ := Ranging.drop (w := w4.drew) (q4.kept rfl rfl) hyk hls 0
     have hr5 : (Builtin.delete_ #[117, 121] 0 #[.map (some bm), .agg #[.int .i64 y.1, .int .i64 y.2.1, .int .i64 y.2.2]]).run Tryz.prog w4.drew = .ok (.tuple #[]) w5 := hr5
     have hg5 : w4.grownBy w5 (some bm) := ⟨hg5.os, hg5.tape, hg5.output, hg5.size, hg5.block⟩
     have hfe : upd (midF ageE (entsOf l) left) y none = midF ageE (entsOf l) (upd left y false) := by rw [← HN.out, hfv]
     rw [hfe] at hrg5
     have hk4 := q4.mapk
     have n5 := ne_cells hk4 q1
     have m5 := ne_cells hk4 kk
     have q5 := kept_grown q1 hg5 (fun i hi => by cases hi; exact n5)
     have kk5 := kept_grown kk hg5 (fun i hi => by cases hi; exact m5)
     have HS5 := hide (show RSt w w1.heap.size w5 p bm aq cq l ageE (upd left y false) cnt5 from ⟨hrg5, q5, own_kind q2 hg5 hk4, q3.grown hg5 q3.size (fun i hi => by cases hi; exact HLB.out)⟩)
     have hS0 : w4.drew.cell? ⟨p, 1, none⟩ = some (.map (some bm)) ∧ _ := ⟨(cells2 (w := w4.drew) q1).1.2, (cells3 (w := w4.drew) kk).1⟩
     have hS1 : w5.cell? ⟨p, 1, none⟩ = some (.map (some bm)) ∧ _ := ⟨(cells2 q5).1.2, (cells3 kk5).1⟩
     clear q1 kk ke q2 q3 q4 hrg3 st3 hfe b4 hk4 n5 m5 q5 kk5 hrg5
     refine wp_region_held_drew (S := (fun W => W.cell? ⟨p, 1, none⟩ = some (.map (some bm)) ∧ (W.cell? ⟨w3.heap.size, 0, none⟩ = some (.int .i64 y.1) ∧ W.cell? ⟨w3.heap.size, 1, none⟩ = some (.int .i64 y.2.1) ∧ W.cell? ⟨w3.heap.size, 2, none⟩ = some (.int .i64 y.2.2)))) (by kernel_rfl) (by first | exact hS0 | exact hS1) (fun hHeld => ?_)
     refine kK 0 ⟨some 35, .move (.tmp 3), 114, "l08_fdb.go:64", #[], none⟩ ?_
     refine kK 1 ⟨some 36, .nilCheck (.tmp 35), 0, "l08_fdb.go:64", #[⟨0, .data⟩], none⟩ ?_
     refine kK 2 ⟨some 37, .fieldAddr 119 (.tmp 36) 1, 0, "l08_fdb.go:64", #[⟨1, .data⟩], none⟩ ?_
     refine kK 3 ⟨some 38, .load 117 (.tmp 37), 117, "l08_fdb.go:64", #[⟨2, .data⟩], none⟩ ?_
     refine kK 4 ⟨some 39, .load 121 (.tmp 4), 121, "l08_fdb.go:64", #[], none⟩ ?_
     refine tR [5] ?_
     refine AllReadyH.cons (o := ⟨none, .call ⟨.builtin .delete, #[.tmp 38, .tmp 39], #[117, 121]⟩, 0, "l08_fdb.go:64", #[⟨3, .data⟩, ⟨4, .data⟩], none⟩) rfl (fun K hK => ?_) ?_
     ·go_simp
      refine hK.out _ _ (by first | exact hS0 | exact hS1) (fun hHeld => ?_)
      clear hK K
      try simp only [Act.put, lA, lB, lC]
      refine wpAnyH_done (by kernel_rfl) ?_ _
      clear hS0 hS1 hr5 hHeld
      go_wp2
      go_roundw
      case rel => exact ⟨_, _, HS5.out⟩
      case measure => rw [HS5.out.rg.left_eq, HLE.out]; omega
     exact AllReadyH.nil
   ·have hfv : ageE v = some v := by unfold ageE; rw [hvs]; rfl
    rw [hvs] at hen
    clear hvs
    have b4 := below_two w3 (.cells #[.int .i64 y.1, .int .i64 y.2.1, .int .i64 y.2.2] 121) (.cells #[.int .i64 v.t, .int .i64 v.m, .int .i64 v.p, .int .i64 v.a, .bool true] 49)
    have q1 := kept_block st3.1 b4
    have q2 := gown_below st3.2.1 b4
    have q3 := gr_trans st3.2.2 b4
    have q4 := hrg3.below b4
    have kk := kept_block (block_last w3 (.cells #[.int .i64 y.1, .int .i64 y.2.1, .int .i64 y.2.2] 121)) (below_one _ (.cells #[.int .i64 v.t, .int .i64 v.m, .int .i64 v.p, .int .i64 v.a, .bool true] 49))
    have ke := block_last (w3.alloc (.cells #[.int .i64 y.1, .int .i64 y.2.1, .int .i64 y.2.2] 121)) (.cells #[.int .i64 v.t, .int .i64 v.m, .int .i64 v.p, .int .i64 v.a, .bool true] 49)
    rw [show (w3.alloc (.cells #[.int .i64 y.1, .int .i64 y.2.1, .int .i64 y.2.2] 121)).heap.size = w3.heap.size + 1 by simp] at ke
    have hfe : midF ageE (entsOf l) left = midF ageE (entsOf l) (upd left y false) := by rw [← HN.out, hfv, upd_self hgy]
    rw [hfe] at q4
    have HS4 := hide (show RSt w w1.heap.size ((w3.alloc (.cells #[.int .i64 y.1, .int .i64 y.2.1, .int .i64 y.2.2] 121)).alloc (.cells #[.int .i64 v.t, .int .i64 v.m, .int .i64 v.p, .int .i64 v.a, .bool true] 49)) p bm aq cq l ageE (upd left y false) cnt3 from ⟨q4, q1, q2, q3⟩)
    clear q1 q2 q3 q4 kk ke hrg3 st3 hfe b4
    go_wp2
    go_roundw
    case rel => exact ⟨_, _, HS4.out⟩
    case measure => rw [HS4.out.rg.left_eq, HLE.out]; exact hlt3

set_option maxRecDepth 100000 in
set_option maxHeartbeats 8000000 in
theorem implFlush_rng (ao : Option Addr) (n cap : Nat) (l : List FE) (p0 : Int) (w : World) (h : GRow fentF w ao n cap l) (hn : n ≤ 16777216) (hR : ∀ x ∈ l, x.Rng) :
  Calls Tryz.prog 87 #[.slice ao n cap, .int .i64 p0] w fun r w' => ∃ ao' cap', r = .returned (.slice ao' (flushF l p0).length cap') ∧ w'.ownsRow w.heap.size 49 5 (.slice ao' (flushF l p0).length cap') (flushF l p0).length (fentF.all (flushF l p0)) ∧ GRow fentF w' ao' (flushF l p0).length cap' (flushF l p0) ∧ Below w.heap.size w w' := by
 rw [flush_is l p0]
 go_enter Tryz.func87, Tryz.ntmps87
 go_wp2_with fail
 refine (tableOf_any ao n cap l _ h hn hR).mono ?_
 rintro r w1 ⟨p, bm, rfl, tab, hb1⟩
 obtain ⟨aq, cq, hbox, hown⟩ := tab.box
 obtain ⟨⟨pq0, pq1⟩, -⟩ := cells2 hbox
 have hmap := tab.map
 have HLP := hide tab.lp
 have HLB := hide tab.lb
 have HOK := hide tab.oks
 have HFW := hide tab.few
 have hs1 := hb1.size
 clear tab
 go_wp2_with (first | (at_range; refine wpList_range_fe _ rfl _ rfl bm 16777216 (entsOf l) rfl hmap ?_; intro w2 cnt2 hrg2 hb2 hs2) | go_in)
 go_frame
 have st2 : RSt w w1.heap.size w2 p bm aq cq l (flushE p0) (fun k => (entsOf l k).isSome) cnt2 := ⟨by rw [mid_start]; exact hrg2, kept_block hbox hb2, gown_below hown hb2, gr_trans hb1 hb2⟩
 have HS2 := hide st2
 clear st2 hrg2 hb2 hown hbox hmap pq0 pq1 hb1
 go_loopw [15] (fun _ wr => ∃ left cnt, RSt w w1.heap.size wr p bm aq cq l (flushE p0) left cnt) (fun _ wr => wr.rangeLeft bm w1.heap.size)
 case atStart => exact ⟨_, _, HS2.out⟩
 case round =>
  obtain ⟨left, cnt, st⟩ := hrel
  clear HS2
  have hrg := st.rg
  have HST := hide st
  go_wp2_with (first | (at_next; refine wpList_next_fe _ rfl _ rfl bm w1.heap.size 16777216 _ left cnt rfl hrg ?_ ?_) | go_in)
  ·intro hl0
   have hT : Tab wr w.heap.size p bm (keysOf l) (fun k => (entsOf l k).bind (flushE p0)) := st.tab hl0 HLP.out HLB.out HOK.out HFW.out
   have HB := hide st.bel
   clear hrg st HST
   go_wp2_with fail
   refine (list_any _ _ p bm _ _ hT).mono ?_
   rintro r w9 ⟨ao9, cap9, rfl, ho9, hr9, hb9⟩
   rw [out_bind (ents_map l) (flushE p0)] at ho9 hr9
   have HO := hide (gown_lt ho9 (base' := w.heap.size) HB.out.size)
   have HR := hide hr9
   have HB9 := hide (gr_trans HB.out hb9)
   clear ho9 hr9 hb9 hT
   go_wp2
   go_ret
   exact ⟨_, _, (by rw [out_bind (ents_map l) (flushE p0)]; rfl), HO.out, HR.out, HB9.out⟩
  ·intro s hs
   rcases s with ⟨y, v, w3, cnt3⟩
   obtain ⟨hyk, hly, hgy, hrg3, hlt3, hg3, hen⟩ := hs
   dsimp only at hyk hly hgy hrg3 hlt3 hg3 hen ⊢
   have hv := hR v (ents_mem (mid_at hly hgy))
   have HN := hide (mid_next hly hgy)
   have hls : upd left y false y = false := upd_same _ _ _
   have st3 := st.turned hg3 (st.rg.iter) (by omega)
   have HLE := hide hrg.left_eq
   clear hrg st HST
   cases hvs : v.s
   ·cases hvp : (v.p == p0)
    ·have hfv : flushE p0 v = some v := by unfold flushE; rw [hvs]; simp at hvp; simp [hvp]
     rw [hvs] at hen
     clear hvs
     have b4 := below_two w3 (.cells #[.int .i64 y.1, .int .i64 y.2.1, .int .i64 y.2.2] 121) (.cells #[.int .i64 v.t, .int .i64 v.m, .int .i64 v.p, .int .i64 v.a, .bool false] 49)
     have q1 := kept_block st3.1 b4
     have q2 := gown_below st3.2.1 b4
     have q3 := gr_trans st3.2.2 b4
     have q4 := hrg3.below b4
     have kk := kept_block (block_last w3 (.cells #[.int .i64 y.1, .int .i64 y.2.1, .int .i64 y.2.2] 121)) (below_one _ (.cells #[.int .i64 v.t, .int .i64 v.m, .int .i64 v.p, .int .i64 v.a, .bool false] 49))
     have ke := block_last (w3.alloc (.cells #[.int .i64 y.1, .int .i64 y.2.1, .int .i64 y.2.2] 121)) (.cells #[.int .i64 v.t, .int .i64 v.m, .int .i64 v.p, .int .i64 v.a, .bool false] 49)
     rw [show (w3.alloc (.cells #[.int .i64 y.1, .int .i64 y.2.1, .int .i64 y.2.2] 121)).heap.size = w3.heap.size + 1 by simp] at ke
     have hfe : midF (flushE p0) (entsOf l) left = midF (flushE p0) (entsOf l) (upd left y false) := by rw [← HN.out, hfv, upd_self hgy]
     rw [hfe] at q4
     have HS4 := hide (show RSt w w1.heap.size ((w3.alloc (.cells #[.int .i64 y.1, .int .i64 y.2.1, .int .i64 y.2.2] 121)).alloc (.cells #[.int .i64 v.t, .int .i64 v.m, .int .i64 v.p, .int .i64 v.a, .bool false] 49)) p bm aq cq l (flushE p0) (upd left y false) cnt3 from ⟨q4, q1, q2, q3⟩)
     clear q1 q2 q3 q4 kk ke hrg3 st3 hfe b4
     go_wp2
     go_roundw
     case rel => exact ⟨_, _, HS4.out⟩
     case measure => rw [HS4.out.rg.left_eq, HLE.out]; exact hlt3
    ·have hfv : flushE p0 v = none := by unfold flushE; rw [hvs]; simp at hvp; simp [hvp]
     rw [hvs] at hen
     clear hvs
     have b4 := below_two w3 (.cells #[.int .i64 y.1, .int .i64 y.2.1, .int .i64 y.2.2] 121) (.cells #[.int .i64 v.t, .int .i64 v.m, .int .i64 v.p, .int .i64 v.a, .bool false] 49)
     have q1 := kept_block st3.1 b4
     have q2 := gown_below st3.2.1 b4
     have q3 := gr_trans st3.2.2 b4
     have q4 := hrg3.below b4
     have kk := kept_block (block_last w3 (.cells #[.int .i64 y.1, .int .i64 y.2.1, .int .i64 y.2.2] 121)) (below_one _ (.cells #[.int .i64 v.t, .int .i64 v.m, .int .i64 v.p, .int .i64 v.a, .bool false] 49))
     have ke := block_last (w3.alloc (.cells #[.int .i64 y.1, .int .i64 y.2.1, .int .i64 y.2.2] 121)) (.cells #[.int .i64 v.t, .int .i64 v.m, .int .i64 v.p, .int .i64 v.a, .bool false] 49)
     rw [show (w3.alloc (.cells #[.int .i64 y.1, .int .i64 y.2.1, .int .i64 y.2.2] 121)).heap.size = w3.heap.size + 1 by simp] at ke
     go_wp2_with fail
     clear hen
     generalize hw4 : (w3.alloc (.cells #[.int .i64 y.1, .int .i64 y.2.1, .int .i64 y.2.2] 121)).alloc (.cells #[.int .i64 v.t, .int .i64 v.m, .int .i64 v.p, .int .i64 v.a, .bool false] 49) = w4 at *
     obtain ⟨w5, cnt5, hr5, hrg5, hle5, hg5, -⟩ := Ranging.drop (w := w4.drew) (q4.kept rfl rfl) hyk hls 0
     have hr5 : (Builtin.delete_ #[117, 121] 0 #[.map (some bm), .agg #[.int .i64 y.1, .int .i64 y.2.1, .int .i64 y.2.2]]).run Tryz.prog w4.drew = .ok (.tuple #[]) w5 := hr5
     have hg5 : w4.grownBy w5 (some bm) := ⟨hg5.os, hg5.tape, hg5.output, hg5.size, hg5.block⟩
     have hfe : upd (midF (flushE p0) (entsOf l) left) y none = midF (flushE p0) (entsOf l) (upd left y false) := by rw [← HN.out, hfv]
     rw [hfe] at hrg5
     have hk4 := q4.mapk
     have n5 := ne_cells hk4 q1
     have m5 := ne_cells hk4 kk
     have q5 := kept_grown q1 hg5 (fun i hi => by cases hi; exact n5)
     have kk5 := kept_grown kk hg5 (fun i hi => by cases hi; exact m5)
     have HS5 := hide (show RSt w w1.heap.size w5 p bm aq cq l (flushE p0) (upd left y false) cnt5 from ⟨hrg5, q5, own_kind q2 hg5 hk4, q3.grown hg5 q3.size (fun i hi => by cases hi; exact HLB.out)⟩)
     have hS0 : w4.drew.cell? ⟨p, 1, none⟩ = some (.map (some bm)) ∧ _ := ⟨(cells2 (w := w4.drew) q1).1.2, (cells3 (w := w4.drew) kk).1⟩
     have hS1 : w5.cell? ⟨p, 1, none⟩ = some (.map (some bm)) ∧ _ := ⟨(cells2 q5).1.2, (cells3 kk5).1⟩
     clear q1 kk ke q2 q3 q4 hrg3 st3 hfe b4 hk4 n5 m5 q5 kk5 hrg5
     refine wp_region_held_drew (S := (fun W => W.cell? ⟨p, 1, none⟩ = some (.map (some bm)) ∧ (W.cell? ⟨w3.heap.size, 0, none⟩ = some (.int .i64 y.1) ∧ W.cell? ⟨w3.heap.size, 1, none⟩ = some (.int .i64 y.2.1) ∧ W.cell? ⟨w3.heap.size, 2, none⟩ = some (.int .i64 y.2.2)))) (by kernel_rfl) (by first | exact hS0 | exact hS1) (fun hHeld => ?_)
     refine kK 0 ⟨some 29, .move (.tmp 5), 114, "l08_fdb.go:77", #[], none⟩ ?_
     refine kK 1 ⟨some 30, .nilCheck (.tmp 29), 0, "l08_fdb.go:77", #[⟨0, .data⟩], none⟩ ?_
     refine kK 2 ⟨some 31, .fieldAddr 119 (.tmp 30) 1, 0, "l08_fdb.go:77", #[⟨1, .data⟩], none⟩ ?_
     refine kK 3 ⟨some 32, .load 117 (.tmp 31), 117, "l08_fdb.go:77", #[⟨2, .data⟩], none⟩ ?_
     refine kK 4 ⟨some 33, .load 121 (.tmp 6), 121, "l08_fdb.go:77", #[], none⟩ ?_
     refine tR [5] ?_
     refine AllReadyH.cons (o := ⟨none, .call ⟨.builtin .delete, #[.tmp 32, .tmp 33], #[117, 121]⟩, 0, "l08_fdb.go:77", #[⟨3, .data⟩, ⟨4, .data⟩], none⟩) rfl (fun K hK => ?_) ?_
     ·go_simp
      refine hK.out _ _ (by first | exact hS0 | exact hS1) (fun hHeld => ?_)
      clear hK K
      try simp only [Act.put, lA, lB, lC]
      refine wpAnyH_done (by kernel_rfl) ?_ _
      clear hS0 hS1 hr5 hHeld
      go_wp2
      go_roundw
      case rel => exact ⟨_, _, HS5.out⟩
      case measure => rw [HS5.out.rg.left_eq, HLE.out]; omega
     exact AllReadyH.nil
   ·have hfv : flushE p0 v = some v := by unfold flushE; rw [hvs]; rfl
    rw [hvs] at hen
    clear hvs
    have b4 := below_two w3 (.cells #[.int .i64 y.1, .int .i64 y.2.1, .int .i64 y.2.2] 121) (.cells #[.int .i64 v.t, .int .i64 v.m, .int .i64 v.p, .int .i64 v.a, .bool true] 49)
    have q1 := kept_block st3.1 b4
    have q2 := gown_below st3.2.1 b4
    have q3 := gr_trans st3.2.2 b4
    have q4 := hrg3.below b4
    have kk := kept_block (block_last w3 (.cells #[.int .i64 y.1, .int .i64 y.2.1, .int .i64 y.2.2] 121)) (below_one _ (.cells #[.int .i64 v.t, .int .i64 v.m, .int .i64 v.p, .int .i64 v.a, .bool true] 49))
    have ke := block_last (w3.alloc (.cells #[.int .i64 y.1, .int .i64 y.2.1, .int .i64 y.2.2] 121)) (.cells #[.int .i64 v.t, .int .i64 v.m, .int .i64 v.p, .int .i64 v.a, .bool true] 49)
    rw [show (w3.alloc (.cells #[.int .i64 y.1, .int .i64 y.2.1, .int .i64 y.2.2] 121)).heap.size = w3.heap.size + 1 by simp] at ke
    have hfe : midF (flushE p0) (entsOf l) left = midF (flushE p0) (entsOf l) (upd left y false) := by rw [← HN.out, hfv, upd_self hgy]
    rw [hfe] at q4
    have HS4 := hide (show RSt w w1.heap.size ((w3.alloc (.cells #[.int .i64 y.1, .int .i64 y.2.1, .int .i64 y.2.2] 121)).alloc (.cells #[.int .i64 v.t, .int .i64 v.m, .int .i64 v.p, .int .i64 v.a, .bool true] 49)) p bm aq cq l (flushE p0) (upd left y false) cnt3 from ⟨q4, q1, q2, q3⟩)
    clear q1 q2 q3 q4 kk ke hrg3 st3 hfe b4
    go_wp2
    go_roundw
    case rel => exact ⟨_, _, HS4.out⟩
    case measure => rw [HS4.out.rg.left_eq, HLE.out]; exact hlt3

def quietTo (bits : Int) : Nat → List Int
 | 0 => []
 | k + 1 => if bitOf bits (k : Int) = true then quietTo bits k else quietTo bits k ++ [(k : Int)]

theorem quiet_flush (bits : Int) (l : List FE) : ∀ k, (quietTo bits k).foldl flushF l = flushTo bits l k
 | 0 => rfl
 | k + 1 => by
  rw [quietTo, flushTo]
  split
  ·exact quiet_flush bits l k
  ·rw [List.foldl_append, quiet_flush bits l k]
   rfl

theorem quiet_len (bits : Int) : ∀ k, (quietTo bits k).length ≤ k
 | 0 => Nat.le_refl _
 | k + 1 => by
  rw [quietTo]
  have := quiet_len bits k
  split
  ·omega
  ·simp; omega

theorem sendsB_rng : ∀ b0 b1 b2 b3 b4 b5 : Bool, ∀ n : Fin 7, 0 ≤ sendsB (six b0 b1 b2 b3 b4 b5) n.val ∧ sendsB (six b0 b1 b2 b3 b4 b5) n.val ≤ 63 := by
 decide +kernel

theorem sends_rng (id : Int) (l : List PT) : 0 ≤ sendsOf id l ∧ sendsOf id l ≤ 63 := by
 unfold sendsOf
 rw [sends_is]
 generalize (fun i : Nat => decide (roleOf id l (i : Int) ≤ 2)) = f
 have hn : min l.length 6 ≤ 6 := Nat.min_le_right _ _
 generalize min l.length 6 = m at hn
 have e : ∀ j, j < 6 → f j = six (f 0) (f 1) (f 2) (f 3) (f 4) (f 5) j := by
  intro j hj
  rcases (show j = 0 ∨ j = 1 ∨ j = 2 ∨ j = 3 ∨ j = 4 ∨ j = 5 by omega) with rfl | rfl | rfl | rfl | rfl | rfl <;> rfl
 rw [sendsB_cut f _ m (fun j hj => e j (by omega))]
 exact sendsB_rng (f 0) (f 1) (f 2) (f 3) (f 4) (f 5) ⟨m, by omega⟩

theorem has_sends (id : Int) (l : List PT) (k : Nat) (hk : k ≤ 7) : hasP (sendsOf id l) (k : Int) = bitOf (sendsOf id l) (k : Int) := by
 have := sends_rng id l
 exact hasP_same (by unfold I64; omega) (Or.inl (by omega))

set_option maxRecDepth 100000 in
set_option maxHeartbeats 4000000 in
theorem implQuiet_made (id : Int) (a : Option Addr) (n c : Nat) (l : List PT) (w : World) (h : GRow ptF w a n c l) (hn : n ≤ 6) (bits : Int) (hbits : sendsOf id l = bits) :
  Calls Tryz.prog 86 #[.slice a n c, .int .i64 id] w fun e w' => ∃ ao cap, e = .returned (.slice ao (quietTo bits n).length cap) ∧ w'.ownsRow w.heap.size 3 1 (.slice ao (quietTo bits n).length cap) (quietTo bits n).length (intF.all (quietTo bits n)) ∧ Below w.heap.size w w' := by
 have HBI : Hid (∀ k : Nat, k ≤ 7 → hasP bits (k : Int) = bitOf bits (k : Int)) := hide (fun k hk => by rw [← hbits]; exact has_sends id l k hk)
 have HBT := hide hbits
 clear hbits
 go_enter Tryz.func86, Tryz.ntmps86
 go_wp2_with fail
 refine (implSends_any id a n c l _ h).mono ?_
 rintro e w1 ⟨rfl, hb1⟩
 rw [HBT.out]
 go_wp2_with fail
 go_loopw [6, 13] (fun p i wr => ∃ (k : Nat) (ao : Option Addr) (cap : Nat), k ≤ n ∧ i = .int .i64 k ∧ p = .slice ao (quietTo bits k).length cap ∧ wr.ownsRow w.heap.size 3 1 (.slice ao (quietTo bits k).length cap) (quietTo bits k).length (intF.all (quietTo bits k)) ∧ Below w.heap.size w wr) (fun _ i _ => n - (intOf i).toNat)
 case atStart => exact ⟨0, none, 0, Nat.zero_le _, rfl, rfl, World.ownsRow_nil _ _ _ _, hb1⟩
 case round =>
  obtain ⟨k, ao, cap, hk, rfl, rfl, own, hb⟩ := hrel
  clear hb1
  by_cases hlt : k < n
  ·have i1 : (0 : Int) ≤ (k : Int) := by omega
   have i2 : (k : Int) < (n : Int) := by omega
   have HLQ := hide (quiet_len bits k)
   go_wp2_with fail
   refine (implHasPort_any bits (k : Int) (by omega) _).mono ?_
   rintro e w2 ⟨rfl, e2⟩
   obtain rfl := e2.symm
   rw [HBI.out k (by omega)]
   cases hbk : bitOf bits (k : Int)
   ·have HF : Hid (quietTo bits (k + 1) = quietTo bits k ++ [(k : Int)]) := hide (by rw [quietTo, if_neg (by rw [hbk]; decide)])
    clear hbk
    generalize hwa : wr.alloc (Obj.cells #[Value.int .i64 k] 3) = wa
    have bra : Below wr.heap.size wr wa := by subst hwa; exact below_one _ _
    have ka : wa.heap[wr.heap.size]? = some (.cells #[.int .i64 k] 3) := by rw [← hwa]; exact block_last _ _
    have gone : GRow intF wa (some ⟨wr.heap.size, 0, none⟩) 1 1 [(k : Int)] := grow_own (F := intF) (own_one intF (x := (k : Int)) (base := 0) ka rfl (Nat.zero_le _))
    have hI2 := gown_below own bra
    have HBA := hide (gr_trans hb bra)
    clear own hb
    generalize hq : (quietTo bits k).length = q at *
    go_wp2_with (at_builtin; refine wpList_append_flat (F := intF) _ rfl _ _ 27 3 rfl w.heap.size Tryz.underlying27 Tryz.infoI64 rfl (by decide) _ q (quietTo bits k) rfl hI2 (some ⟨wr.heap.size, 0, none⟩) 1 1 [(k : Int)] rfl gone (by have := HLQ.out; omega) HBA.out.size ?_)
    intro a7 c7 w7 how hr hgr hb7
    have HB7 := hide (HBA.out.trans hb7)
    have HQ1 : Hid ((quietTo bits (k + 1)).length = q + 1) := hide (by rw [HF.out, List.length_append, hq]; rfl)
    rw [← HF.out] at how
    have HO := hide how
    clear how hr hgr hb7 hI2 gone ka hq
    go_wp2
    go_roundw
    case rel => exact ⟨k + 1, a7, c7, by omega, by go_num, by rw [HQ1.out], by rw [HQ1.out]; exact HO.out, HB7.out⟩
    case measure => simp [intOf]; omega
   ·have HF : Hid (quietTo bits (k + 1) = quietTo bits k) := hide (by rw [quietTo, if_pos hbk])
    have HO := hide own
    clear hbk own
    go_wp2
    go_roundw
    case rel => exact ⟨k + 1, ao, cap, by omega, by go_num, by rw [HF.out], by rw [HF.out]; exact HO.out, hb⟩
    case measure => simp [intOf]; omega
  ·have hkn : k = n := by omega
   subst hkn
   have HO := hide own
   clear own
   go_wp2
   go_ret
   exact ⟨ao, cap, rfl, HO.out, hb⟩

theorem flush_rngF {l : List FE} (h : ∀ x ∈ l, x.Rng) (p : Int) : ∀ x ∈ flushF l p, x.Rng := fun x hx => h x (List.mem_filter.1 hx).1

theorem folds_rng (qs : List Int) : ∀ {l : List FE}, (∀ x ∈ l, x.Rng) → ∀ x ∈ qs.foldl flushF l, x.Rng := by
 induction qs with
 | nil => exact fun h => h
 | cons q qs ih => exact fun h => ih (flush_rngF h q)

theorem folds_len (qs : List Int) : ∀ {l : List FE}, (qs.foldl flushF l).length ≤ l.length := by
 induction qs with
 | nil => exact Nat.le_refl _
 | cons q qs ih => exact Nat.le_trans ih (List.length_filter_le _ _)

theorem int_at {w : World} {base : Nat} {ao : Option Addr} {n cap : Nat} {l : List Int} (h : w.ownsRow base 3 1 (.slice ao n cap) n (intF.all l)) (i : Nat) (hi : i < n) : ∃ (z : Int) (b off : Nat), l[i]? = some z ∧ ao = some ⟨b, off, none⟩ ∧ w.cell? ⟨b, off + i, none⟩ = some (.int .i64 z) := by
 obtain ⟨z, b, off, hz, ha, hc⟩ := (grow_own (F := intF) h).at i hi
 exact ⟨z, b, off, hz, ha, by have := hc 0 _ rfl; simpa [intF] using this⟩

theorem take_succ_fold {qs : List Int} {k : Nat} {z : Int} (hz : qs[k]? = some z) (l : List FE) : (qs.take (k + 1)).foldl flushF l = flushF ((qs.take k).foldl flushF l) z := by
 rw [List.take_add_one, hz, List.foldl_append]
 rfl

set_option maxRecDepth 100000 in
set_option maxHeartbeats 8000000 in
theorem implTurned_made (base : Nat) (a : Option Addr) (n c : Nat) (fa : Option Addr) (fn fc : Nat) (ra : Option Addr) (rn rc : Nat) (oa : Option Addr) (on oc : Nat) (B : BR) (w : World) (h : BrOwn w base a n c fa fn fc ra rn rc oa on oc B) (hbase : base ≤ w.heap.size) (hn : n ≤ 6) (hfn : fn ≤ 16777216) (hv : 0 ≤ B.vers ∧ B.vers ≤ 1000000) (hR : ∀ x ∈ B.f, x.Rng) :
  Calls Tryz.prog 39 #[.agg #[.slice a n c, .int .i64 B.id, .string B.name, .slice none 0 0, .slice fa fn fc, .slice ra rn rc, .slice oa on oc, .int .i64 B.ticks, .int .i64 B.parse, .int .i64 B.word, .int .i64 B.drops, .int .i64 B.vers]] w fun e w' => ∃ (fa2 : Option Addr) (fn2 fc2 : Nat), e = .returned (.agg #[.int .i64 B.id, .string B.name, .slice a n c, .slice fa2 fn2 fc2, .slice ra rn rc, .slice oa on oc, .int .i64 B.ticks, .int .i64 B.parse, .int .i64 B.word, .int .i64 B.drops, .int .i64 (oneMore B.vers)]) ∧ BrOwn w' base a n c fa2 fn2 fc2 ra rn rc oa on oc (turned B) ∧ Below w.heap.size w w' := by
 have hpl := hide (grow_own (F := ptF) h.ports).size
 have HFL := hide (grow_own (F := fentF) h.f).size
 generalize hw1 : w.alloc (Obj.cells #[.slice a n c, .int .i64 B.id, .string B.name, .slice none 0 0, .slice fa fn fc, .slice ra rn rc, .slice oa on oc, .int .i64 B.ticks, .int .i64 B.parse, .int .i64 B.word, .int .i64 B.drops, .int .i64 B.vers] 68) = w1
 generalize hw2 : w1.alloc (Obj.cells #[.int .i64 0, .string ⟨#[]⟩, .slice none 0 0, .slice none 0 0, .slice none 0 0, .slice none 0 0, .int .i64 0, .int .i64 0, .int .i64 0, .int .i64 0, .int .i64 0] 31) = w2
 have b01 : Below w.heap.size w w1 := by rw [← hw1]; exact below_one _ _
 have b12 : Below w1.heap.size w1 w2 := by rw [← hw2]; exact below_one _ _
 have z1 : w.heap.size < w1.heap.size := by rw [← hw1]; simp
 have st2 : IbSt w w2 w1.heap.size w.heap.size #[.int .i64 0, .string ⟨#[]⟩, .slice none 0 0, .slice none 0 0, .slice none 0 0, .slice none 0 0, .int .i64 0, .int .i64 0, .int .i64 0, .int .i64 0, .int .i64 0] #[.slice a n c, .int .i64 B.id, .string B.name, .slice none 0 0, .slice fa fn fc, .slice ra rn rc, .slice oa on oc, .int .i64 B.ticks, .int .i64 B.parse, .int .i64 B.word, .int .i64 B.drops, .int .i64 B.vers] 31 68 := ⟨kept_block (by rw [← hw1]; exact block_last _ _) b12, by rw [← hw2]; exact block_last _ _, gr_trans b01 b12, Nat.le_refl _, Nat.le_of_lt z1, Nat.ne_of_gt z1⟩
 have own2 := h.below (gr_trans b01 b12)
 obtain ⟨x0, x1, x2, x3, x4, x5, x6, x7, x8, x9, x10, x11⟩ := cells12 st2.box
 have f11 := frozen8 st2.box 11
 obtain ⟨V, hV⟩ : ∃ V, V = oneMore B.vers := ⟨_, rfl⟩
 have HV := hide hV
 have HVR := hide hv
 have HR := hide hR
 clear hv hR z1 b01 b12
 go_enter Tryz.func39, Tryz.ntmps39
 go_wp2_with fail
 refine (implOne_any B.vers _ HVR.out.2 HVR.out.1).mono ?_
 rintro e w3 ⟨rfl, e3⟩
 obtain rfl := e3.symm
 rw [← hV]
 clear hV hw1 hw2
 generalize hRR : w1.heap.size = R at *
 have st4 := st2.put 11 (.int .i64 V) (cs' := #[.slice a n c, .int .i64 B.id, .string B.name, .slice none 0 0, .slice fa fn fc, .slice ra rn rc, .slice oa on oc, .int .i64 B.ticks, .int .i64 B.parse, .int .i64 B.word, .int .i64 B.drops, .int .i64 V]) rfl
 have own4 := own2.other st2.box (by decide) (by decide) (by decide) (by decide) 11 (.int .i64 V)
 generalize hw4 : w2.setCell ⟨w.heap.size, 11, none⟩ (.int .i64 V) = w4 at st4 own4
 go_upto_region 2 with fail
 clear x0 x1 x2 x3 x4 x5 x6 x7 x8 x9 x10 x11 f11 st2 own2
 try rw [hw4]
 clear hw4
 obtain ⟨x0, x1, x2, x3, x4, x5, x6, x7, x8, x9, x10, x11⟩ := cells12 st4.box
 generalize hbits : sendsOf B.id B.ports = bits
 have HBI := hide hbits
 go_wp2_with fail
 refine (implQuiet_made B.id a n c B.ports _ (grow_own (F := ptF) own4.ports) hn bits hbits).mono ?_
 rintro e w5 ⟨aq, cq, rfl, oq, hb5⟩
 have st5 := st4.later hb5
 have own5 := own4.below hb5
 have HQ6 := hide (Nat.le_trans (quiet_len bits n) hn)
 have HQF := hide (quiet_flush bits B.f n)
 have oq := gown_lt oq (base' := w.heap.size) st4.below.size
 clear x0 x1 x2 x3 x4 x5 x6 x7 x8 x9 x10 x11 st4 own4 hb5 hbits
 generalize hqs : quietTo bits n = qs at *
 generalize hqn : qs.length = qn at *
 have HQN := hide hqn
 clear hqn hqs
 go_wp2_with fail
 go_loopw [18] (fun i wr => ∃ (k : Nat) (fa2 : Option Addr) (fn2 fc2 : Nat), k ≤ qn ∧ i = .int .i64 k ∧ fn2 ≤ fn ∧ IbSt w wr R w.heap.size #[.int .i64 0, .string ⟨#[]⟩, .slice none 0 0, .slice none 0 0, .slice none 0 0, .slice none 0 0, .int .i64 0, .int .i64 0, .int .i64 0, .int .i64 0, .int .i64 0] #[.slice a n c, .int .i64 B.id, .string B.name, .slice none 0 0, .slice fa2 fn2 fc2, .slice ra rn rc, .slice oa on oc, .int .i64 B.ticks, .int .i64 B.parse, .int .i64 B.word, .int .i64 B.drops, .int .i64 V] 31 68 ∧ BrOwn wr base a n c fa2 fn2 fc2 ra rn rc oa on oc { B with f := (qs.take k).foldl flushF B.f } ∧ wr.ownsRow w.heap.size 3 1 (.slice aq qn cq) qn (intF.all qs)) (fun i _ => qn - (intOf i).toNat)
 case atStart => exact ⟨0, fa, fn, fc, Nat.zero_le _, rfl, Nat.le_refl _, st5, own5, oq⟩
 case round =>
  obtain ⟨k, fa2, fn2, fc2, hk, rfl, hf2, st, own, oq⟩ := hrel
  have hq6 : qn ≤ 6 := HQ6.out
  clear st5 own5
  obtain ⟨x0, x1, x2, x3, x4, x5, x6, x7, x8, x9, x10, x11⟩ := cells12 st.box
  by_cases hlt : k < qn
  ·have i1 : (0 : Int) ≤ (k : Int) := by omega
   have i2 : (k : Int) < (qn : Int) := by omega
   obtain ⟨z, qb, qo, hz, rfl, cz⟩ := int_at oq k hlt
   have HF := hide (take_succ_fold hz B.f)
   have HRF : Hid (∀ x ∈ (qs.take k).foldl flushF B.f, x.Rng) := hide (folds_rng _ HR.out)
   have HLF : Hid (((qs.take (k + 1)).foldl flushF B.f).length ≤ fn) := hide (by have := folds_len (qs.take (k + 1)) (l := B.f); have := HFL.out; omega)
   clear hz
   generalize hLS : (qs.take k).foldl flushF B.f = ls at *
   go_wp2_with fail
   refine (implFlush_rng fa2 fn2 fc2 ls z _ (grow_own (F := fentF) own.f) (by omega) HRF.out).mono ?_
   rintro e w7 ⟨fa7, fc7, rfl, o7, -, hb7⟩
   have st7 := st.later hb7
   have oq7 := gown_below oq hb7
   have o7 := gown_lt o7 (base' := base) (Nat.le_trans hbase st.below.size)
   have own7 := (own.below hb7).putF (Below.refl _ _) o7
   clear x0 x1 x2 x3 x4 x5 x6 x7 x8 x9 x10 x11 hb7 o7 st own cz oq
   obtain ⟨x0, x1, x2, x3, x4, x5, x6, x7, x8, x9, x10, x11⟩ := cells12 st7.box
   have f4 := frozen8 st7.box 4
   rw [← HF.out] at own7 ⊢
   generalize hL : ((qs.take (k + 1)).foldl flushF B.f).length = L at *
   have HST := hide (st7.put 4 (.slice fa7 L fc7) (cs' := #[.slice a n c, .int .i64 B.id, .string B.name, .slice none 0 0, .slice fa7 L fc7, .slice ra rn rc, .slice oa on oc, .int .i64 B.ticks, .int .i64 B.parse, .int .i64 B.word, .int .i64 B.drops, .int .i64 V]) rfl)
   have HOW := hide (own7.other st7.box (by decide) (by decide) (by decide) (by decide) 4 (.slice fa7 L fc7))
   have HOQ := hide (st7.stay oq7 (by decide) 4 (.slice fa7 L fc7))
   clear st7 own7 oq7 hL
   go_wp2
   go_roundw
   case rel => exact ⟨k + 1, fa7, L, fc7, by omega, by go_num, HLF.out, HST.out, HOW.out, HOQ.out⟩
   case measure => simp [intOf]; omega
  ·have hkn : k = qn := by omega
   subst hkn
   have HT : Hid (turned B = { B with vers := V, f := (qs.take k).foldl flushF B.f }) := hide (by unfold turned; rw [HBI.out, hpl.out, HV.out, ← HQF.out, List.take_of_length_le (by rw [HQN.out]; exact Nat.le_refl _)])
   have HST := hide st
   have HOW := hide own
   clear st own oq
   go_wp2_with fail
   refine (implFace_any a n c fa2 fn2 fc2 ra rn rc oa on oc { B with vers := V } _).mono ?_
   rintro e w8 ⟨rfl, hb8⟩
   have st8 := HST.out.later hb8
   have own8 := HOW.out.below hb8
   clear x0 x1 x2 x3 x4 x5 x6 x7 x8 x9 x10 x11 hb8
   obtain ⟨y0, y1, y2, y3, y4, y5, y6, y7, y8, y9, y10⟩ := cells11 st8.res
   have fr := frozen8 st8.res
   have fr0 := fr 0
   have fr1 := fr 1
   have fr2 := fr 2
   have fr3 := fr 3
   have fr4 := fr 4
   have fr5 := fr 5
   have fr6 := fr 6
   have fr7 := fr 7
   have fr8 := fr 8
   have fr9 := fr 9
   have fr10 := fr 10
   have HO := hide (own8.boxed11 st8.res (.int .i64 B.id) (.string B.name) (.slice a n c) (.slice fa2 fn2 fc2) (.slice ra rn rc) (.slice oa on oc) (.int .i64 B.ticks) (.int .i64 B.parse) (.int .i64 B.word) (.int .i64 B.drops) (.int .i64 V))
   have HB := hide (below_set11 st8.below st8.hR (.int .i64 B.id) (.string B.name) (.slice a n c) (.slice fa2 fn2 fc2) (.slice ra rn rc) (.slice oa on oc) (.int .i64 B.ticks) (.int .i64 B.parse) (.int .i64 B.word) (.int .i64 B.drops) (.int .i64 V))
   clear st8 own8 fr
   go_wp2
   exact bodyPost_ret (v := .agg #[.int .i64 B.id, .string B.name, .slice a n c, .slice fa2 fn2 fc2, .slice ra rn rc, .slice oa on oc, .int .i64 B.ticks, .int .i64 B.parse, .int .i64 B.word, .int .i64 B.drops, .int .i64 V]) (by simp [results, Tryz.results39, go_sem, *]) rfl ⟨fa2, fn2, fc2, (by rw [HV.out]), (by rw [HT.out]; exact ⟨HO.out.ports, HO.out.f, HO.out.v⟩), HB.out⟩

end Go.Proofs.YtfknffdlmcckkaaGreat
