/-
  An entry that is put in its place, as the specification has it.
-/
import Derived.Test.YtfknffdlmcckkaaGreatPTKW
import Derived.Test.YtfknffdlmcckkaaGreatPTK01
import Derived.Test.YtfknffdlmcckkaaGreatPTK11
namespace Go.Proofs.YtfknffdlmcckkaaGreat
open Go.RowKit

abbrev q147 : Oper := ⟨some 15, .move (.tmp 6), 4, "l08_fdb.go:51", #[], none⟩
abbrev q148 : Oper := ⟨some 16, .unOp .not 4 (.tmp 15), 4, "l08_fdb.go:51", #[⟨0, .data⟩], none⟩
abbrev q149 : Oper := ⟨some 17, .move (.tmp 16), 4, "l08_fdb.go:51", #[⟨1, .data⟩], none⟩
abbrev q150 : Oper := ⟨some 18, .move (.tmp 0), 25, "l08_fdb.go:51", #[⟨2, .guard⟩], some (2, true)⟩
abbrev q151 : Oper := ⟨some 19, .move (.tmp 7), 3, "l08_fdb.go:51", #[⟨2, .guard⟩], some (2, true)⟩
abbrev q152 : Oper := ⟨some 20, .indexAddr 25 (.tmp 18) (.tmp 19), 0, "l08_fdb.go:51", #[⟨3, .data⟩, ⟨4, .data⟩, ⟨2, .guard⟩], some (2, true)⟩
abbrev q153 : Oper := ⟨some 21, .load 49 (.tmp 20), 49, "l08_fdb.go:51", #[⟨5, .data⟩, ⟨2, .guard⟩], some (2, true)⟩
abbrev q154 : Oper := ⟨some 22, .fieldAddr 49 (.tmp 3) 0, 0, "l08_fdb.go:51", #[⟨2, .guard⟩], some (2, true)⟩
abbrev q155 : Oper := ⟨some 23, .load 3 (.tmp 22), 3, "l08_fdb.go:51", #[⟨7, .data⟩, ⟨2, .guard⟩], some (2, true)⟩
abbrev q156 : Oper := ⟨some 24, .fieldAddr 49 (.tmp 3) 1, 0, "l08_fdb.go:51", #[⟨2, .guard⟩], some (2, true)⟩
abbrev q157 : Oper := ⟨some 25, .load 3 (.tmp 24), 3, "l08_fdb.go:51", #[⟨9, .data⟩, ⟨2, .guard⟩], some (2, true)⟩
abbrev q158 : Oper := ⟨some 26, .call ⟨.value (.func 112), #[.tmp 21, .tmp 23, .tmp 25], #[49, 3, 3]⟩, 4, "l08_fdb.go:51", #[⟨6, .data⟩, ⟨8, .data⟩, ⟨10, .data⟩, ⟨2, .chain⟩, ⟨2, .guard⟩], some (2, true)⟩
abbrev q159 : Oper := ⟨some 27, .unOp .not 4 (.tmp 26), 4, "l08_fdb.go:51", #[⟨11, .data⟩, ⟨2, .guard⟩], some (2, true)⟩
abbrev q160 : Oper := ⟨some 28, .pick (.tmp 17) (.tmp 27) (.const (.bool false)), 4, "l08_fdb.go:51", #[⟨2, .data⟩, ⟨12, .data⟩], none⟩
abbrev q161 : Oper := ⟨some 33, .move (.tmp 0), 25, "l08_fdb.go:55", #[], none⟩
abbrev q162 : Oper := ⟨some 34, .move (.tmp 7), 3, "l08_fdb.go:55", #[], none⟩
abbrev q163 : Oper := ⟨some 35, .indexAddr 25 (.tmp 33) (.tmp 34), 0, "l08_fdb.go:55", #[⟨0, .data⟩, ⟨1, .data⟩], none⟩
abbrev q164 : Oper := ⟨some 36, .fieldAddr 49 (.tmp 35) 0, 0, "l08_fdb.go:55", #[⟨2, .data⟩], none⟩
abbrev q165 : Oper := ⟨some 37, .load 3 (.tmp 36), 3, "l08_fdb.go:55", #[⟨3, .data⟩], none⟩
abbrev q166 : Oper := ⟨some 38, .fieldAddr 49 (.tmp 3) 0, 0, "l08_fdb.go:55", #[], none⟩
abbrev q167 : Oper := ⟨some 39, .load 3 (.tmp 38), 3, "l08_fdb.go:55", #[⟨5, .data⟩], none⟩
abbrev q168 : Oper := ⟨some 40, .binOp .neq 3 (.tmp 37) (.tmp 39) 3, 4, "l08_fdb.go:55", #[⟨4, .data⟩, ⟨6, .data⟩], none⟩
abbrev q169 : Oper := ⟨some 41, .move (.tmp 40), 4, "l08_fdb.go:55", #[⟨7, .data⟩], none⟩
abbrev q170 : Oper := ⟨some 42, .move (.tmp 0), 25, "l08_fdb.go:55", #[⟨8, .guard⟩], some (8, false)⟩
abbrev q171 : Oper := ⟨some 43, .move (.tmp 7), 3, "l08_fdb.go:55", #[⟨8, .guard⟩], some (8, false)⟩
abbrev q172 : Oper := ⟨some 44, .indexAddr 25 (.tmp 42) (.tmp 43), 0, "l08_fdb.go:55", #[⟨9, .data⟩, ⟨10, .data⟩, ⟨8, .guard⟩], some (8, false)⟩
abbrev q173 : Oper := ⟨some 45, .fieldAddr 49 (.tmp 44) 1, 0, "l08_fdb.go:55", #[⟨11, .data⟩, ⟨8, .guard⟩], some (8, false)⟩
abbrev q174 : Oper := ⟨some 46, .load 3 (.tmp 45), 3, "l08_fdb.go:55", #[⟨12, .data⟩, ⟨8, .guard⟩], some (8, false)⟩
abbrev q175 : Oper := ⟨some 47, .fieldAddr 49 (.tmp 3) 1, 0, "l08_fdb.go:55", #[⟨8, .guard⟩], some (8, false)⟩
abbrev q176 : Oper := ⟨some 48, .load 3 (.tmp 47), 3, "l08_fdb.go:55", #[⟨14, .data⟩, ⟨8, .guard⟩], some (8, false)⟩
abbrev q177 : Oper := ⟨some 49, .binOp .neq 3 (.tmp 46) (.tmp 48) 3, 4, "l08_fdb.go:55", #[⟨13, .data⟩, ⟨15, .data⟩, ⟨8, .guard⟩], some (8, false)⟩
abbrev q178 : Oper := ⟨some 50, .pick (.tmp 41) (.const (.bool true)) (.tmp 49), 4, "l08_fdb.go:55", #[⟨8, .data⟩, ⟨16, .data⟩], none⟩

set_option maxRecDepth 100000 in
set_option maxHeartbeats 8000000 in
theorem specPutF_any (ao : Option Addr) (n cap : Nat) (l : List FE) (e : FE) (w : World) (h : GRow fentF w ao n cap l) (hn : n ≤ 16777216) :
  Calls Tryz.prog 119 #[.slice ao n cap, .agg #[.int .i64 e.t, .int .i64 e.m, .int .i64 e.p, .int .i64 e.a, .bool e.s]] w fun r w' => ∃ ao' cap', r = .returned (.slice ao' (putF8 e l).length cap') ∧ w'.ownsRow w.heap.size 49 5 (.slice ao' (putF8 e l).length cap') (putF8 e l).length (fentF.all (putF8 e l)) ∧ GRow fentF w' ao' (putF8 e l).length cap' (putF8 e l) ∧ Below w.heap.size w w' := by
 have hle := h.le
 have htop := h.top
 unfold maxLen at htop
 have hsz := h.size
 have k0 := kept_block (block_last w (.cells #[.int .i64 e.t, .int .i64 e.m, .int .i64 e.p, .int .i64 e.a, .bool e.s] 49)) (below_one _ (.cells #[] 49))
 have o0 : ((w.alloc (.cells #[.int .i64 e.t, .int .i64 e.m, .int .i64 e.p, .int .i64 e.a, .bool e.s] 49)).alloc (.cells #[] 49)).ownsRow (w.heap.size + 1) 49 5 (.slice (some ⟨w.heap.size + 1, 0, none⟩) 0 0) 0 (fentF.all []) := by
  have := flat_nil fentF (w.alloc (.cells #[.int .i64 e.t, .int .i64 e.m, .int .i64 e.p, .int .i64 e.a, .bool e.s] 49)) _ 49 _ (block_last (w.alloc (.cells #[.int .i64 e.t, .int .i64 e.m, .int .i64 e.p, .int .i64 e.a, .bool e.s] 49)) (.cells #[] 49)) (Nat.le_refl _)
  rw [show (w.alloc (.cells #[.int .i64 e.t, .int .i64 e.m, .int .i64 e.p, .int .i64 e.a, .bool e.s] 49)).heap.size = w.heap.size + 1 by simp] at this
  exact this
 have b0 := below_two w (.cells #[.int .i64 e.t, .int .i64 e.m, .int .i64 e.p, .int .i64 e.a, .bool e.s] 49) (.cells #[] 49)
 go_enter Tryz.func119, Tryz.ntmps119
 go_wp2_with fail
 go_loopw [5, 6, 7] (fun o d i wr => ∃ (k : Nat) (dd : Bool) (zs : List FE) (az : Option Addr) (cz nz : Nat), k ≤ n ∧ i = .int .i64 k ∧ d = .bool dd ∧ o = .slice az nz cz ∧ zs.length = nz ∧ nz ≤ 2 * k ∧ wr.ownsRow (w.heap.size + 1) 49 5 (.slice az nz cz) nz (fentF.all zs) ∧ zs ++ putGo e dd (l.drop k) = putGo e false l ∧ Below w.heap.size w wr ∧ wr.heap[w.heap.size]? = some (.cells #[.int .i64 e.t, .int .i64 e.m, .int .i64 e.p, .int .i64 e.a, .bool e.s] 49)) (fun _ _ i _ => n - (intOf i).toNat)
 case atStart => exact ⟨0, false, [], _, _, 0, Nat.zero_le _, rfl, rfl, rfl, rfl, Nat.zero_le _, o0, by simp, b0, k0⟩
 case round =>
  obtain ⟨k, dd, zs, az, cz, nz, hk, rfl, rfl, rfl, hzs, hnz, how, hz, hb, hbox⟩ := hrel
  clear k0 o0 b0
  by_cases hlt : k < n
  ·obtain ⟨x, b, off, hx, rfl, -⟩ := fent_at h k hlt
   have i1 : (0 : Int) ≤ (k : Int) := by omega
   have i2 : (k : Int) < (n : Int) := by omega
   have hbs := (Array.getElem?_eq_some_iff.1 hbox).1
   cases dd
   ·cases ha : ahead x e.t e.m
    ·have HA := hide ha
     have hr := h.below hb
     have kq := hbox
     have vv : Below wr.heap.size wr wr.drew := gr_drew (Below.refl _ _)
     go_wp2_with fail
     refine wp_region_held_drew (S := (fun W => (W.cell? ⟨b, off + k * 5, none⟩ = some (.int .i64 x.t) ∧ W.cell? ⟨b, off + k * 5 + 1, none⟩ = some (.int .i64 x.m) ∧ W.cell? ⟨b, off + k * 5 + 2, none⟩ = some (.int .i64 x.p) ∧ W.cell? ⟨b, off + k * 5 + 3, none⟩ = some (.int .i64 x.a) ∧ W.cell? ⟨b, off + k * 5 + 4, none⟩ = some (.bool x.s)) ∧ (W.cell? ⟨w.heap.size, 0, none⟩ = some (.int .i64 e.t) ∧ W.cell? ⟨w.heap.size, 1, none⟩ = some (.int .i64 e.m) ∧ W.cell? ⟨w.heap.size, 2, none⟩ = some (.int .i64 e.p) ∧ W.cell? ⟨w.heap.size, 3, none⟩ = some (.int .i64 e.a) ∧ W.cell? ⟨w.heap.size, 4, none⟩ = some (.bool e.s)))) (by kernel_rfl) (⟨(at5 hr vv).2 k x hx, (cells5 (kept_block kq vv)).1⟩) (fun hHeld => ?_)
     refine kK 0 q147 ?_
     refine kK 1 q148 ?_
     refine kK 2 q149 ?_
     refine kK 3 q150 ?_
     refine kK 4 q151 ?_
     refine kK 5 q152 ?_
     refine kK 6 q153 ?_
     refine kK 7 q154 ?_
     refine kK 8 q155 ?_
     refine kK 9 q156 ?_
     refine kK 10 q157 ?_
     refine tR [11] ?_
     refine AllReadyH.cons (o := q158) rfl (fun K hK => ?_) ?_
     ·go_simp
      refine (specAhead_any x e.t e.m _).mono ?_
      rintro r wx ⟨rfl, hbx⟩
      rw [HA.out]
      have vv := gr_trans vv hbx
      go_wp2_with fail
      refine hK.out _ _ (⟨(at5 hr vv).2 k x hx, (cells5 (kept_block kq vv)).1⟩) (fun hHeld => ?_)
      clear hK K
      try simp only [Act.put, lA, lB, lC]
      refine kK 12 q159 ?_
      refine kK 13 q160 ?_
      refine wpAnyH_done (by kernel_rfl) ?_ _
      have bx := gr_trans hb vv
      have kx := kept_block hbox vv
      have ox := gown_below (gown_below how vv) (below_one wx (.cells #[.int .i64 e.t, .int .i64 e.m, .int .i64 e.p, .int .i64 e.a, .bool e.s] 49))
      have HBX := hide (gr_trans bx (below_one wx (.cells #[.int .i64 e.t, .int .i64 e.m, .int .i64 e.p, .int .i64 e.a, .bool e.s] 49)))
      have KX := hide (kept_block kx (below_one wx (.cells #[.int .i64 e.t, .int .i64 e.m, .int .i64 e.p, .int .i64 e.a, .bool e.s] 49)))
      have hxs := bx.size
      have hxb := (Array.getElem?_eq_some_iff.1 kx).1
      obtain ⟨⟨x0, x1, x2, x3, x4⟩, -⟩ := cells5 kx
      clear kq vv hr hbx hb hbox how kx bx
      have hbase9 := (Array.getElem?_eq_some_iff.1 KX.out).1
      go_wp2_with (at_builtin; refine fent_append _ rfl _ _ rfl (w.heap.size + 1) _ nz zs rfl ox _ 1 1 [e] rfl (grow_one fentF _ e _ _ rfl) (by omega) hbase9 ?_)
      intro aq cq wq oq hrq hgrq hbq
      have kq := kept_base KX.out hbq (by omega)
      have bq : Below w.heap.size w wq := HBX.out.trans (hbq.mono (by omega))
      have hzq : (zs ++ [e]).length = nz + 1 := by simp [hzs]
      clear hrq hgrq hbq ox x0 x1 x2 x3 x4 KX HBX
      generalize hzz : zs ++ [e] = zq at *
      generalize hnn : nz + 1 = nq at *
      have hr := h.below bq
      have vv : Below wq.heap.size wq wq.drew := gr_drew (Below.refl _ _)
      cases t1 : (x.t != e.t)
      ·cases t2 : (x.m != e.m)
       ·have hbo : both x e.t e.m = true := by simp at t1 t2; exact both_iff.2 ⟨t1, t2⟩
        go_wp2_with fail
        refine wp_region_held_drew (S := (fun W => (W.cell? ⟨b, off + k * 5, none⟩ = some (.int .i64 x.t) ∧ W.cell? ⟨b, off + k * 5 + 1, none⟩ = some (.int .i64 x.m) ∧ W.cell? ⟨b, off + k * 5 + 2, none⟩ = some (.int .i64 x.p) ∧ W.cell? ⟨b, off + k * 5 + 3, none⟩ = some (.int .i64 x.a) ∧ W.cell? ⟨b, off + k * 5 + 4, none⟩ = some (.bool x.s)) ∧ (W.cell? ⟨w.heap.size, 0, none⟩ = some (.int .i64 e.t) ∧ W.cell? ⟨w.heap.size, 1, none⟩ = some (.int .i64 e.m) ∧ W.cell? ⟨w.heap.size, 2, none⟩ = some (.int .i64 e.p) ∧ W.cell? ⟨w.heap.size, 3, none⟩ = some (.int .i64 e.a) ∧ W.cell? ⟨w.heap.size, 4, none⟩ = some (.bool e.s)))) (by kernel_rfl) (⟨(at5 hr vv).2 k x hx, (cells5 (kept_block kq vv)).1⟩) (fun hHeld => ?_)
        refine kK 0 q161 ?_
        refine kK 1 q162 ?_
        refine kK 2 q163 ?_
        refine kK 3 q164 ?_
        refine kK 4 q165 ?_
        refine kK 5 q166 ?_
        refine kK 6 q167 ?_
        refine kK 7 q168 ?_
        refine kK 8 q169 ?_
        refine kK 9 q170 ?_
        refine kK 10 q171 ?_
        refine kK 11 q172 ?_
        refine kK 12 q173 ?_
        refine kK 13 q174 ?_
        refine kK 14 q175 ?_
        refine kK 15 q176 ?_
        refine kK 16 q177 ?_
        refine kK 17 q178 ?_
        refine wpAnyH_done (by kernel_rfl) ?_ _
        have HQ := hide (show zq ++ putGo e true (l.drop (k + 1)) = putGo e false l from (show zq ++ putGo e true (l.drop (k + 1)) = zs ++ putGo e false (x :: l.drop (k + 1)) by rw [← hzz]; exact putGo_same HA.out hbo).trans (by rw [← drop_at8 hx]; exact hz))
        have HO := hide (gown_below oq vv)
        have HB9 := hide (gr_trans bq vv)
        have HK9 := hide (kept_block kq vv)
        clear oq bq kq vv hr
        go_wp2
        go_roundw
        case rel => exact ⟨k + 1, true, zq, aq, cq, nq, by omega, by go_num, rfl, rfl, hzq, by omega, HO.out, HQ.out, HB9.out, HK9.out⟩
        case measure => simp [intOf]; omega
       ·have hbo : both x e.t e.m = false := by simp at t1 t2; exact both_not.2 (fun h => t2 h.2)
        go_wp2_with fail
        refine wp_region_held_drew (S := (fun W => (W.cell? ⟨b, off + k * 5, none⟩ = some (.int .i64 x.t) ∧ W.cell? ⟨b, off + k * 5 + 1, none⟩ = some (.int .i64 x.m) ∧ W.cell? ⟨b, off + k * 5 + 2, none⟩ = some (.int .i64 x.p) ∧ W.cell? ⟨b, off + k * 5 + 3, none⟩ = some (.int .i64 x.a) ∧ W.cell? ⟨b, off + k * 5 + 4, none⟩ = some (.bool x.s)) ∧ (W.cell? ⟨w.heap.size, 0, none⟩ = some (.int .i64 e.t) ∧ W.cell? ⟨w.heap.size, 1, none⟩ = some (.int .i64 e.m) ∧ W.cell? ⟨w.heap.size, 2, none⟩ = some (.int .i64 e.p) ∧ W.cell? ⟨w.heap.size, 3, none⟩ = some (.int .i64 e.a) ∧ W.cell? ⟨w.heap.size, 4, none⟩ = some (.bool e.s)))) (by kernel_rfl) (⟨(at5 hr vv).2 k x hx, (cells5 (kept_block kq vv)).1⟩) (fun hHeld => ?_)
        refine kK 0 q161 ?_
        refine kK 1 q162 ?_
        refine kK 2 q163 ?_
        refine kK 3 q164 ?_
        refine kK 4 q165 ?_
        refine kK 5 q166 ?_
        refine kK 6 q167 ?_
        refine kK 7 q168 ?_
        refine kK 8 q169 ?_
        refine kK 9 q170 ?_
        refine kK 10 q171 ?_
        refine kK 11 q172 ?_
        refine kK 12 q173 ?_
        refine kK 13 q174 ?_
        refine kK 14 q175 ?_
        refine kK 15 q176 ?_
        refine kK 16 q177 ?_
        refine kK 17 q178 ?_
        refine wpAnyH_done (by kernel_rfl) ?_ _
        obtain ⟨y0, y1, y2, y3, y4⟩ := (at5 hr vv).2 k x hx
        have hl1 : (zq ++ [x]).length = nq + 1 := by simp [hzq]
        have kd := kept_block kq vv
        have od := gown_below oq vv
        have bd := gr_trans bq vv
        clear vv hHeld
        generalize hwd : wq.drew = wd at *
        clear hwd
        have kq1 := kept_block kd (below_one wd (.cells #[.int .i64 x.t, .int .i64 x.m, .int .i64 x.p, .int .i64 x.a, .bool x.s] 49))
        have oq1 := gown_below od (below_one wd (.cells #[.int .i64 x.t, .int .i64 x.m, .int .i64 x.p, .int .i64 x.a, .bool x.s] 49))
        have HQ := hide (show zq ++ [x] ++ putGo e true (l.drop (k + 1)) = putGo e false l from (show zq ++ [x] ++ putGo e true (l.drop (k + 1)) = zs ++ putGo e false (x :: l.drop (k + 1)) by rw [← hzz]; exact putGo_yes HA.out hbo).trans (by rw [← drop_at8 hx]; exact hz))
        have HBQ := hide (gr_trans bd (below_one wd (.cells #[.int .i64 x.t, .int .i64 x.m, .int .i64 x.p, .int .i64 x.a, .bool x.s] 49)))
        have hbase9 := (Array.getElem?_eq_some_iff.1 kq1).1
        go_wp2_with (at_builtin; refine fent_append _ rfl _ _ rfl (w.heap.size + 1) _ nq zq rfl oq1 _ 1 1 [x] rfl (grow_one fentF _ x _ _ rfl) (by omega) hbase9 ?_)
        intro ao9 cap9 w9 how9 hr9 hgr9 hb9
        have kq9 := kept_base kq1 hb9 (by omega)
        have b9 : Below w.heap.size w w9 := HBQ.out.trans (hb9.mono (by omega))
        have HO := hide how9
        have HB9 := hide b9
        have HK9 := hide kq9
        have HL := hide hl1
        clear how9 hr9 hgr9 hb9 kq9 b9 oq1 kq1 kq oq bq hr hl1 HBQ kd od bd
        go_wp2
        go_roundw
        case rel => exact ⟨k + 1, true, zq ++ [x], ao9, cap9, nq + 1, by omega, by go_num, rfl, rfl, HL.out, by omega, HO.out, HQ.out, HB9.out, HK9.out⟩
        case measure => simp [intOf]; omega
      ·have hbo : both x e.t e.m = false := by simp at t1; exact both_not.2 (fun h => t1 h.1)
       go_wp2_with fail
       refine wp_region_held_drew (S := (fun W => (W.cell? ⟨b, off + k * 5, none⟩ = some (.int .i64 x.t) ∧ W.cell? ⟨b, off + k * 5 + 1, none⟩ = some (.int .i64 x.m) ∧ W.cell? ⟨b, off + k * 5 + 2, none⟩ = some (.int .i64 x.p) ∧ W.cell? ⟨b, off + k * 5 + 3, none⟩ = some (.int .i64 x.a) ∧ W.cell? ⟨b, off + k * 5 + 4, none⟩ = some (.bool x.s)) ∧ (W.cell? ⟨w.heap.size, 0, none⟩ = some (.int .i64 e.t) ∧ W.cell? ⟨w.heap.size, 1, none⟩ = some (.int .i64 e.m) ∧ W.cell? ⟨w.heap.size, 2, none⟩ = some (.int .i64 e.p) ∧ W.cell? ⟨w.heap.size, 3, none⟩ = some (.int .i64 e.a) ∧ W.cell? ⟨w.heap.size, 4, none⟩ = some (.bool e.s)))) (by kernel_rfl) (⟨(at5 hr vv).2 k x hx, (cells5 (kept_block kq vv)).1⟩) (fun hHeld => ?_)
       refine kK 0 q161 ?_
       refine kK 1 q162 ?_
       refine kK 2 q163 ?_
       refine kK 3 q164 ?_
       refine kK 4 q165 ?_
       refine kK 5 q166 ?_
       refine kK 6 q167 ?_
       refine kK 7 q168 ?_
       refine kK 8 q169 ?_
       refine kN 9 q170 ?_
       refine kN 10 q171 ?_
       refine kN 11 q172 ?_
       refine kN 12 q173 ?_
       refine kN 13 q174 ?_
       refine kN 14 q175 ?_
       refine kN 15 q176 ?_
       refine kN 16 q177 ?_
       refine kK 17 q178 ?_
       refine wpAnyH_done (by kernel_rfl) ?_ _
       obtain ⟨y0, y1, y2, y3, y4⟩ := (at5 hr vv).2 k x hx
       have hl1 : (zq ++ [x]).length = nq + 1 := by simp [hzq]
       have kd := kept_block kq vv
       have od := gown_below oq vv
       have bd := gr_trans bq vv
       clear vv hHeld
       generalize hwd : wq.drew = wd at *
       clear hwd
       have kq1 := kept_block kd (below_one wd (.cells #[.int .i64 x.t, .int .i64 x.m, .int .i64 x.p, .int .i64 x.a, .bool x.s] 49))
       have oq1 := gown_below od (below_one wd (.cells #[.int .i64 x.t, .int .i64 x.m, .int .i64 x.p, .int .i64 x.a, .bool x.s] 49))
       have HQ := hide (show zq ++ [x] ++ putGo e true (l.drop (k + 1)) = putGo e false l from (show zq ++ [x] ++ putGo e true (l.drop (k + 1)) = zs ++ putGo e false (x :: l.drop (k + 1)) by rw [← hzz]; exact putGo_yes HA.out hbo).trans (by rw [← drop_at8 hx]; exact hz))
       have HBQ := hide (gr_trans bd (below_one wd (.cells #[.int .i64 x.t, .int .i64 x.m, .int .i64 x.p, .int .i64 x.a, .bool x.s] 49)))
       have hbase9 := (Array.getElem?_eq_some_iff.1 kq1).1
       go_wp2_with (at_builtin; refine fent_append _ rfl _ _ rfl (w.heap.size + 1) _ nq zq rfl oq1 _ 1 1 [x] rfl (grow_one fentF _ x _ _ rfl) (by omega) hbase9 ?_)
       intro ao9 cap9 w9 how9 hr9 hgr9 hb9
       have kq9 := kept_base kq1 hb9 (by omega)
       have b9 : Below w.heap.size w w9 := HBQ.out.trans (hb9.mono (by omega))
       have HO := hide how9
       have HB9 := hide b9
       have HK9 := hide kq9
       have HL := hide hl1
       clear how9 hr9 hgr9 hb9 kq9 b9 oq1 kq1 kq oq bq hr hl1 HBQ kd od bd
       go_wp2
       go_roundw
       case rel => exact ⟨k + 1, true, zq ++ [x], ao9, cap9, nq + 1, by omega, by go_num, rfl, rfl, HL.out, by omega, HO.out, HQ.out, HB9.out, HK9.out⟩
       case measure => simp [intOf]; omega
     exact AllReadyH.nil
    ·have HA := hide ha
     have hr := h.below hb
     have kq := hbox
     have vv : Below wr.heap.size wr wr.drew := gr_drew (Below.refl _ _)
     go_wp2_with fail
     refine wp_region_held_drew (S := (fun W => (W.cell? ⟨b, off + k * 5, none⟩ = some (.int .i64 x.t) ∧ W.cell? ⟨b, off + k * 5 + 1, none⟩ = some (.int .i64 x.m) ∧ W.cell? ⟨b, off + k * 5 + 2, none⟩ = some (.int .i64 x.p) ∧ W.cell? ⟨b, off + k * 5 + 3, none⟩ = some (.int .i64 x.a) ∧ W.cell? ⟨b, off + k * 5 + 4, none⟩ = some (.bool x.s)) ∧ (W.cell? ⟨w.heap.size, 0, none⟩ = some (.int .i64 e.t) ∧ W.cell? ⟨w.heap.size, 1, none⟩ = some (.int .i64 e.m) ∧ W.cell? ⟨w.heap.size, 2, none⟩ = some (.int .i64 e.p) ∧ W.cell? ⟨w.heap.size, 3, none⟩ = some (.int .i64 e.a) ∧ W.cell? ⟨w.heap.size, 4, none⟩ = some (.bool e.s)))) (by kernel_rfl) (⟨(at5 hr vv).2 k x hx, (cells5 (kept_block kq vv)).1⟩) (fun hHeld => ?_)
     refine kK 0 q147 ?_
     refine kK 1 q148 ?_
     refine kK 2 q149 ?_
     refine kK 3 q150 ?_
     refine kK 4 q151 ?_
     refine kK 5 q152 ?_
     refine kK 6 q153 ?_
     refine kK 7 q154 ?_
     refine kK 8 q155 ?_
     refine kK 9 q156 ?_
     refine kK 10 q157 ?_
     refine tR [11] ?_
     refine AllReadyH.cons (o := q158) rfl (fun K hK => ?_) ?_
     ·go_simp
      refine (specAhead_any x e.t e.m _).mono ?_
      rintro r wx ⟨rfl, hbx⟩
      rw [HA.out]
      have vv := gr_trans vv hbx
      go_wp2_with fail
      refine hK.out _ _ (⟨(at5 hr vv).2 k x hx, (cells5 (kept_block kq vv)).1⟩) (fun hHeld => ?_)
      clear hK K
      try simp only [Act.put, lA, lB, lC]
      refine kK 12 q159 ?_
      refine kK 13 q160 ?_
      refine wpAnyH_done (by kernel_rfl) ?_ _
      have bq := gr_trans hb vv
      have kq1 := kept_block hbox vv
      have oq := gown_below how vv
      clear kq vv hr hbx hb hbox how
      have kq := kq1
      clear kq1
      generalize hwq : wx = wq at *
      clear hwq
      generalize hzz : zs = zq at *
      clear hzz
      generalize az = aq at *
      generalize cz = cq at *
      generalize nz = nq at *
      have hzq := hzs
      have hr := h.below bq
      have vv : Below wq.heap.size wq wq.drew := gr_drew (Below.refl _ _)
      cases t1 : (x.t != e.t)
      ·cases t2 : (x.m != e.m)
       ·have hbo : both x e.t e.m = true := by simp at t1 t2; exact both_iff.2 ⟨t1, t2⟩
        go_wp2_with fail
        refine wp_region_held_drew (S := (fun W => (W.cell? ⟨b, off + k * 5, none⟩ = some (.int .i64 x.t) ∧ W.cell? ⟨b, off + k * 5 + 1, none⟩ = some (.int .i64 x.m) ∧ W.cell? ⟨b, off + k * 5 + 2, none⟩ = some (.int .i64 x.p) ∧ W.cell? ⟨b, off + k * 5 + 3, none⟩ = some (.int .i64 x.a) ∧ W.cell? ⟨b, off + k * 5 + 4, none⟩ = some (.bool x.s)) ∧ (W.cell? ⟨w.heap.size, 0, none⟩ = some (.int .i64 e.t) ∧ W.cell? ⟨w.heap.size, 1, none⟩ = some (.int .i64 e.m) ∧ W.cell? ⟨w.heap.size, 2, none⟩ = some (.int .i64 e.p) ∧ W.cell? ⟨w.heap.size, 3, none⟩ = some (.int .i64 e.a) ∧ W.cell? ⟨w.heap.size, 4, none⟩ = some (.bool e.s)))) (by kernel_rfl) (⟨(at5 hr vv).2 k x hx, (cells5 (kept_block kq vv)).1⟩) (fun hHeld => ?_)
        refine kK 0 q161 ?_
        refine kK 1 q162 ?_
        refine kK 2 q163 ?_
        refine kK 3 q164 ?_
        refine kK 4 q165 ?_
        refine kK 5 q166 ?_
        refine kK 6 q167 ?_
        refine kK 7 q168 ?_
        refine kK 8 q169 ?_
        refine kK 9 q170 ?_
        refine kK 10 q171 ?_
        refine kK 11 q172 ?_
        refine kK 12 q173 ?_
        refine kK 13 q174 ?_
        refine kK 14 q175 ?_
        refine kK 15 q176 ?_
        refine kK 16 q177 ?_
        refine kK 17 q178 ?_
        refine wpAnyH_done (by kernel_rfl) ?_ _
        have HQ := hide (show zq ++ putGo e false (l.drop (k + 1)) = putGo e false l from (putGo_drop (.inr HA.out) hbo).trans (by rw [← drop_at8 hx]; exact hz))
        have HO := hide (gown_below oq vv)
        have HB9 := hide (gr_trans bq vv)
        have HK9 := hide (kept_block kq vv)
        clear oq bq kq vv hr
        go_wp2
        go_roundw
        case rel => exact ⟨k + 1, false, zq, aq, cq, nq, by omega, by go_num, rfl, rfl, hzq, by omega, HO.out, HQ.out, HB9.out, HK9.out⟩
        case measure => simp [intOf]; omega
       ·have hbo : both x e.t e.m = false := by simp at t1 t2; exact both_not.2 (fun h => t2 h.2)
        go_wp2_with fail
        refine wp_region_held_drew (S := (fun W => (W.cell? ⟨b, off + k * 5, none⟩ = some (.int .i64 x.t) ∧ W.cell? ⟨b, off + k * 5 + 1, none⟩ = some (.int .i64 x.m) ∧ W.cell? ⟨b, off + k * 5 + 2, none⟩ = some (.int .i64 x.p) ∧ W.cell? ⟨b, off + k * 5 + 3, none⟩ = some (.int .i64 x.a) ∧ W.cell? ⟨b, off + k * 5 + 4, none⟩ = some (.bool x.s)) ∧ (W.cell? ⟨w.heap.size, 0, none⟩ = some (.int .i64 e.t) ∧ W.cell? ⟨w.heap.size, 1, none⟩ = some (.int .i64 e.m) ∧ W.cell? ⟨w.heap.size, 2, none⟩ = some (.int .i64 e.p) ∧ W.cell? ⟨w.heap.size, 3, none⟩ = some (.int .i64 e.a) ∧ W.cell? ⟨w.heap.size, 4, none⟩ = some (.bool e.s)))) (by kernel_rfl) (⟨(at5 hr vv).2 k x hx, (cells5 (kept_block kq vv)).1⟩) (fun hHeld => ?_)
        refine kK 0 q161 ?_
        refine kK 1 q162 ?_
        refine kK 2 q163 ?_
        refine kK 3 q164 ?_
        refine kK 4 q165 ?_
        refine kK 5 q166 ?_
        refine kK 6 q167 ?_
        refine kK 7 q168 ?_
        refine kK 8 q169 ?_
        refine kK 9 q170 ?_
        refine kK 10 q171 ?_
        refine kK 11 q172 ?_
        refine kK 12 q173 ?_
        refine kK 13 q174 ?_
        refine kK 14 q175 ?_
        refine kK 15 q176 ?_
        refine kK 16 q177 ?_
        refine kK 17 q178 ?_
        refine wpAnyH_done (by kernel_rfl) ?_ _
        obtain ⟨y0, y1, y2, y3, y4⟩ := (at5 hr vv).2 k x hx
        have hl1 : (zq ++ [x]).length = nq + 1 := by simp [hzq]
        have kd := kept_block kq vv
        have od := gown_below oq vv
        have bd := gr_trans bq vv
        clear vv hHeld
        generalize hwd : wq.drew = wd at *
        clear hwd
        have kq1 := kept_block kd (below_one wd (.cells #[.int .i64 x.t, .int .i64 x.m, .int .i64 x.p, .int .i64 x.a, .bool x.s] 49))
        have oq1 := gown_below od (below_one wd (.cells #[.int .i64 x.t, .int .i64 x.m, .int .i64 x.p, .int .i64 x.a, .bool x.s] 49))
        have HQ := hide (show zq ++ [x] ++ putGo e false (l.drop (k + 1)) = putGo e false l from (putGo_keep (.inr HA.out) hbo).trans (by rw [← drop_at8 hx]; exact hz))
        have HBQ := hide (gr_trans bd (below_one wd (.cells #[.int .i64 x.t, .int .i64 x.m, .int .i64 x.p, .int .i64 x.a, .bool x.s] 49)))
        have hbase9 := (Array.getElem?_eq_some_iff.1 kq1).1
        go_wp2_with (at_builtin; refine fent_append _ rfl _ _ rfl (w.heap.size + 1) _ nq zq rfl oq1 _ 1 1 [x] rfl (grow_one fentF _ x _ _ rfl) (by omega) hbase9 ?_)
        intro ao9 cap9 w9 how9 hr9 hgr9 hb9
        have kq9 := kept_base kq1 hb9 (by omega)
        have b9 : Below w.heap.size w w9 := HBQ.out.trans (hb9.mono (by omega))
        have HO := hide how9
        have HB9 := hide b9
        have HK9 := hide kq9
        have HL := hide hl1
        clear how9 hr9 hgr9 hb9 kq9 b9 oq1 kq1 kq oq bq hr hl1 HBQ kd od bd
        go_wp2
        go_roundw
        case rel => exact ⟨k + 1, false, zq ++ [x], ao9, cap9, nq + 1, by omega, by go_num, rfl, rfl, HL.out, by omega, HO.out, HQ.out, HB9.out, HK9.out⟩
        case measure => simp [intOf]; omega
      ·have hbo : both x e.t e.m = false := by simp at t1; exact both_not.2 (fun h => t1 h.1)
       go_wp2_with fail
       refine wp_region_held_drew (S := (fun W => (W.cell? ⟨b, off + k * 5, none⟩ = some (.int .i64 x.t) ∧ W.cell? ⟨b, off + k * 5 + 1, none⟩ = some (.int .i64 x.m) ∧ W.cell? ⟨b, off + k * 5 + 2, none⟩ = some (.int .i64 x.p) ∧ W.cell? ⟨b, off + k * 5 + 3, none⟩ = some (.int .i64 x.a) ∧ W.cell? ⟨b, off + k * 5 + 4, none⟩ = some (.bool x.s)) ∧ (W.cell? ⟨w.heap.size, 0, none⟩ = some (.int .i64 e.t) ∧ W.cell? ⟨w.heap.size, 1, none⟩ = some (.int .i64 e.m) ∧ W.cell? ⟨w.heap.size, 2, none⟩ = some (.int .i64 e.p) ∧ W.cell? ⟨w.heap.size, 3, none⟩ = some (.int .i64 e.a) ∧ W.cell? ⟨w.heap.size, 4, none⟩ = some (.bool e.s)))) (by kernel_rfl) (⟨(at5 hr vv).2 k x hx, (cells5 (kept_block kq vv)).1⟩) (fun hHeld => ?_)
       refine kK 0 q161 ?_
       refine kK 1 q162 ?_
       refine kK 2 q163 ?_
       refine kK 3 q164 ?_
       refine kK 4 q165 ?_
       refine kK 5 q166 ?_
       refine kK 6 q167 ?_
       refine kK 7 q168 ?_
       refine kK 8 q169 ?_
       refine kN 9 q170 ?_
       refine kN 10 q171 ?_
       refine kN 11 q172 ?_
       refine kN 12 q173 ?_
       refine kN 13 q174 ?_
       refine kN 14 q175 ?_
       refine kN 15 q176 ?_
       refine kN 16 q177 ?_
       refine kK 17 q178 ?_
       refine wpAnyH_done (by kernel_rfl) ?_ _
       obtain ⟨y0, y1, y2, y3, y4⟩ := (at5 hr vv).2 k x hx
       have hl1 : (zq ++ [x]).length = nq + 1 := by simp [hzq]
       have kd := kept_block kq vv
       have od := gown_below oq vv
       have bd := gr_trans bq vv
       clear vv hHeld
       generalize hwd : wq.drew = wd at *
       clear hwd
       have kq1 := kept_block kd (below_one wd (.cells #[.int .i64 x.t, .int .i64 x.m, .int .i64 x.p, .int .i64 x.a, .bool x.s] 49))
       have oq1 := gown_below od (below_one wd (.cells #[.int .i64 x.t, .int .i64 x.m, .int .i64 x.p, .int .i64 x.a, .bool x.s] 49))
       have HQ := hide (show zq ++ [x] ++ putGo e false (l.drop (k + 1)) = putGo e false l from (putGo_keep (.inr HA.out) hbo).trans (by rw [← drop_at8 hx]; exact hz))
       have HBQ := hide (gr_trans bd (below_one wd (.cells #[.int .i64 x.t, .int .i64 x.m, .int .i64 x.p, .int .i64 x.a, .bool x.s] 49)))
       have hbase9 := (Array.getElem?_eq_some_iff.1 kq1).1
       go_wp2_with (at_builtin; refine fent_append _ rfl _ _ rfl (w.heap.size + 1) _ nq zq rfl oq1 _ 1 1 [x] rfl (grow_one fentF _ x _ _ rfl) (by omega) hbase9 ?_)
       intro ao9 cap9 w9 how9 hr9 hgr9 hb9
       have kq9 := kept_base kq1 hb9 (by omega)
       have b9 : Below w.heap.size w w9 := HBQ.out.trans (hb9.mono (by omega))
       have HO := hide how9
       have HB9 := hide b9
       have HK9 := hide kq9
       have HL := hide hl1
       clear how9 hr9 hgr9 hb9 kq9 b9 oq1 kq1 kq oq bq hr hl1 HBQ kd od bd
       go_wp2
       go_roundw
       case rel => exact ⟨k + 1, false, zq ++ [x], ao9, cap9, nq + 1, by omega, by go_num, rfl, rfl, HL.out, by omega, HO.out, HQ.out, HB9.out, HK9.out⟩
       case measure => simp [intOf]; omega
     exact AllReadyH.nil
   ·go_wp2_with fail
    refine wp_region_held_drew (S := (fun _ => True)) (by kernel_rfl) (trivial) (fun hHeld => ?_)
    refine kK 0 q147 ?_
    refine kK 1 q148 ?_
    refine kK 2 q149 ?_
    refine kN 3 q150 ?_
    refine kN 4 q151 ?_
    refine kN 5 q152 ?_
    refine kN 6 q153 ?_
    refine kN 7 q154 ?_
    refine kN 8 q155 ?_
    refine kN 9 q156 ?_
    refine kN 10 q157 ?_
    refine kN 11 q158 ?_
    refine kN 12 q159 ?_
    refine kK 13 q160 ?_
    refine wpAnyH_done (by kernel_rfl) ?_ _
    have vv : Below wr.heap.size wr wr.drew := gr_drew (Below.refl _ _)
    have bq := gr_trans hb vv
    have kq := kept_block hbox vv
    have oq := gown_below how vv
    clear vv hb hbox how
    generalize hwq : wr.drew = wq at *
    clear hwq
    generalize hzz : zs = zq at *
    clear hzz
    generalize az = aq at *
    generalize cz = cq at *
    generalize nz = nq at *
    have hzq := hzs
    have hr := h.below bq
    have vv : Below wq.heap.size wq wq.drew := gr_drew (Below.refl _ _)
    cases t1 : (x.t != e.t)
    ·cases t2 : (x.m != e.m)
     ·have hbo : both x e.t e.m = true := by simp at t1 t2; exact both_iff.2 ⟨t1, t2⟩
      go_wp2_with fail
      refine wp_region_held_drew (S := (fun W => (W.cell? ⟨b, off + k * 5, none⟩ = some (.int .i64 x.t) ∧ W.cell? ⟨b, off + k * 5 + 1, none⟩ = some (.int .i64 x.m) ∧ W.cell? ⟨b, off + k * 5 + 2, none⟩ = some (.int .i64 x.p) ∧ W.cell? ⟨b, off + k * 5 + 3, none⟩ = some (.int .i64 x.a) ∧ W.cell? ⟨b, off + k * 5 + 4, none⟩ = some (.bool x.s)) ∧ (W.cell? ⟨w.heap.size, 0, none⟩ = some (.int .i64 e.t) ∧ W.cell? ⟨w.heap.size, 1, none⟩ = some (.int .i64 e.m) ∧ W.cell? ⟨w.heap.size, 2, none⟩ = some (.int .i64 e.p) ∧ W.cell? ⟨w.heap.size, 3, none⟩ = some (.int .i64 e.a) ∧ W.cell? ⟨w.heap.size, 4, none⟩ = some (.bool e.s)))) (by kernel_rfl) (⟨(at5 hr vv).2 k x hx, (cells5 (kept_block kq vv)).1⟩) (fun hHeld => ?_)
      refine kK 0 q161 ?_
      refine kK 1 q162 ?_
      refine kK 2 q163 ?_
      refine kK 3 q164 ?_
      refine kK 4 q165 ?_
      refine kK 5 q166 ?_
      refine kK 6 q167 ?_
      refine kK 7 q168 ?_
      refine kK 8 q169 ?_
      refine kK 9 q170 ?_
      refine kK 10 q171 ?_
      refine kK 11 q172 ?_
      refine kK 12 q173 ?_
      refine kK 13 q174 ?_
      refine kK 14 q175 ?_
      refine kK 15 q176 ?_
      refine kK 16 q177 ?_
      refine kK 17 q178 ?_
      refine wpAnyH_done (by kernel_rfl) ?_ _
      have HQ := hide (show zq ++ putGo e true (l.drop (k + 1)) = putGo e false l from (putGo_drop (.inl rfl) hbo).trans (by rw [← drop_at8 hx]; exact hz))
      have HO := hide (gown_below oq vv)
      have HB9 := hide (gr_trans bq vv)
      have HK9 := hide (kept_block kq vv)
      clear oq bq kq vv hr
      go_wp2
      go_roundw
      case rel => exact ⟨k + 1, true, zq, aq, cq, nq, by omega, by go_num, rfl, rfl, hzq, by omega, HO.out, HQ.out, HB9.out, HK9.out⟩
      case measure => simp [intOf]; omega
     ·have hbo : both x e.t e.m = false := by simp at t1 t2; exact both_not.2 (fun h => t2 h.2)
      go_wp2_with fail
      refine wp_region_held_drew (S := (fun W => (W.cell? ⟨b, off + k * 5, none⟩ = some (.int .i64 x.t) ∧ W.cell? ⟨b, off + k * 5 + 1, none⟩ = some (.int .i64 x.m) ∧ W.cell? ⟨b, off + k * 5 + 2, none⟩ = some (.int .i64 x.p) ∧ W.cell? ⟨b, off + k * 5 + 3, none⟩ = some (.int .i64 x.a) ∧ W.cell? ⟨b, off + k * 5 + 4, none⟩ = some (.bool x.s)) ∧ (W.cell? ⟨w.heap.size, 0, none⟩ = some (.int .i64 e.t) ∧ W.cell? ⟨w.heap.size, 1, none⟩ = some (.int .i64 e.m) ∧ W.cell? ⟨w.heap.size, 2, none⟩ = some (.int .i64 e.p) ∧ W.cell? ⟨w.heap.size, 3, none⟩ = some (.int .i64 e.a) ∧ W.cell? ⟨w.heap.size, 4, none⟩ = some (.bool e.s)))) (by kernel_rfl) (⟨(at5 hr vv).2 k x hx, (cells5 (kept_block kq vv)).1⟩) (fun hHeld => ?_)
      refine kK 0 q161 ?_
      refine kK 1 q162 ?_
      refine kK 2 q163 ?_
      refine kK 3 q164 ?_
      refine kK 4 q165 ?_
      refine kK 5 q166 ?_
      refine kK 6 q167 ?_
      refine kK 7 q168 ?_
      refine kK 8 q169 ?_
      refine kK 9 q170 ?_
      refine kK 10 q171 ?_
      refine kK 11 q172 ?_
      refine kK 12 q173 ?_
      refine kK 13 q174 ?_
      refine kK 14 q175 ?_
      refine kK 15 q176 ?_
      refine kK 16 q177 ?_
      refine kK 17 q178 ?_
      refine wpAnyH_done (by kernel_rfl) ?_ _
      obtain ⟨y0, y1, y2, y3, y4⟩ := (at5 hr vv).2 k x hx
      have hl1 : (zq ++ [x]).length = nq + 1 := by simp [hzq]
      have kd := kept_block kq vv
      have od := gown_below oq vv
      have bd := gr_trans bq vv
      clear vv hHeld
      generalize hwd : wq.drew = wd at *
      clear hwd
      have kq1 := kept_block kd (below_one wd (.cells #[.int .i64 x.t, .int .i64 x.m, .int .i64 x.p, .int .i64 x.a, .bool x.s] 49))
      have oq1 := gown_below od (below_one wd (.cells #[.int .i64 x.t, .int .i64 x.m, .int .i64 x.p, .int .i64 x.a, .bool x.s] 49))
      have HQ := hide (show zq ++ [x] ++ putGo e true (l.drop (k + 1)) = putGo e false l from (putGo_keep (.inl rfl) hbo).trans (by rw [← drop_at8 hx]; exact hz))
      have HBQ := hide (gr_trans bd (below_one wd (.cells #[.int .i64 x.t, .int .i64 x.m, .int .i64 x.p, .int .i64 x.a, .bool x.s] 49)))
      have hbase9 := (Array.getElem?_eq_some_iff.1 kq1).1
      go_wp2_with (at_builtin; refine fent_append _ rfl _ _ rfl (w.heap.size + 1) _ nq zq rfl oq1 _ 1 1 [x] rfl (grow_one fentF _ x _ _ rfl) (by omega) hbase9 ?_)
      intro ao9 cap9 w9 how9 hr9 hgr9 hb9
      have kq9 := kept_base kq1 hb9 (by omega)
      have b9 : Below w.heap.size w w9 := HBQ.out.trans (hb9.mono (by omega))
      have HO := hide how9
      have HB9 := hide b9
      have HK9 := hide kq9
      have HL := hide hl1
      clear how9 hr9 hgr9 hb9 kq9 b9 oq1 kq1 kq oq bq hr hl1 HBQ kd od bd
      go_wp2
      go_roundw
      case rel => exact ⟨k + 1, true, zq ++ [x], ao9, cap9, nq + 1, by omega, by go_num, rfl, rfl, HL.out, by omega, HO.out, HQ.out, HB9.out, HK9.out⟩
      case measure => simp [intOf]; omega
    ·have hbo : both x e.t e.m = false := by simp at t1; exact both_not.2 (fun h => t1 h.1)
     go_wp2_with fail
     refine wp_region_held_drew (S := (fun W => (W.cell? ⟨b, off + k * 5, none⟩ = some (.int .i64 x.t) ∧ W.cell? ⟨b, off + k * 5 + 1, none⟩ = some (.int .i64 x.m) ∧ W.cell? ⟨b, off + k * 5 + 2, none⟩ = some (.int .i64 x.p) ∧ W.cell? ⟨b, off + k * 5 + 3, none⟩ = some (.int .i64 x.a) ∧ W.cell? ⟨b, off + k * 5 + 4, none⟩ = some (.bool x.s)) ∧ (W.cell? ⟨w.heap.size, 0, none⟩ = some (.int .i64 e.t) ∧ W.cell? ⟨w.heap.size, 1, none⟩ = some (.int .i64 e.m) ∧ W.cell? ⟨w.heap.size, 2, none⟩ = some (.int .i64 e.p) ∧ W.cell? ⟨w.heap.size, 3, none⟩ = some (.int .i64 e.a) ∧ W.cell? ⟨w.heap.size, 4, none⟩ = some (.bool e.s)))) (by kernel_rfl) (⟨(at5 hr vv).2 k x hx, (cells5 (kept_block kq vv)).1⟩) (fun hHeld => ?_)
     refine kK 0 q161 ?_
     refine kK 1 q162 ?_
     refine kK 2 q163 ?_
     refine kK 3 q164 ?_
     refine kK 4 q165 ?_
     refine kK 5 q166 ?_
     refine kK 6 q167 ?_
     refine kK 7 q168 ?_
     refine kK 8 q169 ?_
     refine kN 9 q170 ?_
     refine kN 10 q171 ?_
     refine kN 11 q172 ?_
     refine kN 12 q173 ?_
     refine kN 13 q174 ?_
     refine kN 14 q175 ?_
     refine kN 15 q176 ?_
     refine kN 16 q177 ?_
     refine kK 17 q178 ?_
     refine wpAnyH_done (by kernel_rfl) ?_ _
     obtain ⟨y0, y1, y2, y3, y4⟩ := (at5 hr vv).2 k x hx
     have hl1 : (zq ++ [x]).length = nq + 1 := by simp [hzq]
     have kd := kept_block kq vv
     have od := gown_below oq vv
     have bd := gr_trans bq vv
     clear vv hHeld
     generalize hwd : wq.drew = wd at *
     clear hwd
     have kq1 := kept_block kd (below_one wd (.cells #[.int .i64 x.t, .int .i64 x.m, .int .i64 x.p, .int .i64 x.a, .bool x.s] 49))
     have oq1 := gown_below od (below_one wd (.cells #[.int .i64 x.t, .int .i64 x.m, .int .i64 x.p, .int .i64 x.a, .bool x.s] 49))
     have HQ := hide (show zq ++ [x] ++ putGo e true (l.drop (k + 1)) = putGo e false l from (putGo_keep (.inl rfl) hbo).trans (by rw [← drop_at8 hx]; exact hz))
     have HBQ := hide (gr_trans bd (below_one wd (.cells #[.int .i64 x.t, .int .i64 x.m, .int .i64 x.p, .int .i64 x.a, .bool x.s] 49)))
     have hbase9 := (Array.getElem?_eq_some_iff.1 kq1).1
     go_wp2_with (at_builtin; refine fent_append _ rfl _ _ rfl (w.heap.size + 1) _ nq zq rfl oq1 _ 1 1 [x] rfl (grow_one fentF _ x _ _ rfl) (by omega) hbase9 ?_)
     intro ao9 cap9 w9 how9 hr9 hgr9 hb9
     have kq9 := kept_base kq1 hb9 (by omega)
     have b9 : Below w.heap.size w w9 := HBQ.out.trans (hb9.mono (by omega))
     have HO := hide how9
     have HB9 := hide b9
     have HK9 := hide kq9
     have HL := hide hl1
     clear how9 hr9 hgr9 hb9 kq9 b9 oq1 kq1 kq oq bq hr hl1 HBQ kd od bd
     go_wp2
     go_roundw
     case rel => exact ⟨k + 1, true, zq ++ [x], ao9, cap9, nq + 1, by omega, by go_num, rfl, rfl, HL.out, by omega, HO.out, HQ.out, HB9.out, HK9.out⟩
     case measure => simp [intOf]; omega
  ·have hkn : k = n := by omega
   subst hkn
   rw [List.drop_eq_nil_of_le (by omega)] at hz
   cases dd
   ·obtain ⟨⟨x0, x1, x2, x3, x4⟩, -⟩ := cells5 hbox
    have hbs := (Array.getElem?_eq_some_iff.1 hbox).1
    have hP : zs ++ [e] = putF8 e l := by simpa [putGo, putF8] using hz
    have how1 := gown_below how (below_one wr (.cells #[.int .i64 e.t, .int .i64 e.m, .int .i64 e.p, .int .i64 e.a, .bool e.s] 49))
    have HBR := hide (gr_trans hb (below_one wr (.cells #[.int .i64 e.t, .int .i64 e.m, .int .i64 e.p, .int .i64 e.a, .bool e.s] 49)))
    have hbase9 := (Array.getElem?_eq_some_iff.1 (kept_block hbox (below_one wr (.cells #[.int .i64 e.t, .int .i64 e.m, .int .i64 e.p, .int .i64 e.a, .bool e.s] 49)))).1
    go_wp2_with (at_builtin; refine fent_append _ rfl _ _ rfl (w.heap.size + 1) _ nz zs rfl how1 _ 1 1 [e] rfl (grow_one fentF _ e _ _ rfl) (by omega) hbase9 ?_)
    intro ao9 cap9 w9 how9 hr9 hgr9 hb9
    have hl : nz + 1 = (putF8 e l).length := by rw [← hP]; simp [hzs]
    have HL := hide hl
    have how9 := gown_lt how9 (base' := w.heap.size) (by omega)
    have HO : Hid (w9.ownsRow w.heap.size 49 5 (.slice ao9 (putF8 e l).length cap9) (putF8 e l).length (fentF.all (putF8 e l))) := by rw [← hl]; exact how9
    have HR : Hid (GRow fentF w9 ao9 (putF8 e l).length cap9 (putF8 e l)) := by rw [← hl]; exact hr9
    clear hl
    have HB9 := hide (HBR.out.trans (hb9.mono (by omega)))
    clear how9 hr9 hgr9 hb9 how1 x0 x1 x2 x3 x4
    go_wp2
    go_ret
    exact ⟨_, _, (by rw [← HL.out]; rfl), HO.out, HR.out, HB9.out⟩
   ·have hP : zs = putF8 e l := by simpa [putGo, putF8] using hz
    have hl : nz = (putF8 e l).length := by rw [← hP]; exact hzs.symm
    rw [hP] at how
    subst hl
    have HO := hide (gown_lt how (base' := w.heap.size) (by omega))
    have HR := hide (grow_own how)
    have HB := hide hb
    clear how hb hbox
    go_wp2
    go_ret
    exact ⟨_, _, rfl, HO.out, HR.out, HB.out⟩

end Go.Proofs.YtfknffdlmcckkaaGreat
