/-
  Packed: NetOkJ NetNewT.
-/
import Derived.Test.YtdmplbmfkliiiaaGreatPNKW
import Derived.Test.YtdmplbmfkliiiaaGreatPNK01
import Derived.Test.YtdmplbmfkliiiaaGreatPNK03
import Derived.Test.YtdmplbmfkliiiaaGreatPNK15
import Derived.Test.YtdmplbmfkliiiaaGreatPNK22
import Derived.Test.YtdmplbmfkliiiaaGreatPNNetOkT
namespace Go.Proofs.YtdmplbmfkliiiaaGreat
open Go.RowKit

abbrev q230 : Oper := ⟨some 30, .move (.tmp 7), 91, "l13_net.go:134", #[], none⟩
abbrev q231 : Oper := ⟨some 31, .binOp .eql 91 (.tmp 30) (.const (.pointer none)) 91, 4, "l13_net.go:134", #[⟨0, .data⟩], none⟩
abbrev q232 : Oper := ⟨some 32, .move (.tmp 31), 4, "l13_net.go:134", #[⟨1, .data⟩], none⟩
abbrev q233 : Oper := ⟨some 33, .move (.tmp 8), 91, "l13_net.go:134", #[⟨2, .guard⟩], some (2, false)⟩
abbrev q234 : Oper := ⟨some 34, .binOp .eql 91 (.tmp 33) (.const (.pointer none)) 91, 4, "l13_net.go:134", #[⟨3, .data⟩, ⟨2, .guard⟩], some (2, false)⟩
abbrev q235 : Oper := ⟨some 35, .pick (.tmp 32) (.const (.bool true)) (.tmp 34), 4, "l13_net.go:134", #[⟨2, .data⟩, ⟨4, .data⟩], none⟩
abbrev q236 : Oper := ⟨some 36, .move (.tmp 35), 4, "l13_net.go:134", #[⟨5, .data⟩, ⟨2, .chain⟩], none⟩
abbrev q237 : Oper := ⟨some 37, .fieldAddr 44 (.tmp 5) 0, 0, "l13_net.go:134", #[⟨6, .guard⟩], some (6, false)⟩
abbrev q238 : Oper := ⟨some 38, .load 3 (.tmp 37), 3, "l13_net.go:134", #[⟨7, .data⟩, ⟨6, .guard⟩], some (6, false)⟩
abbrev q239 : Oper := ⟨some 39, .fieldAddr 44 (.tmp 5) 2, 0, "l13_net.go:134", #[⟨6, .guard⟩], some (6, false)⟩
abbrev q240 : Oper := ⟨some 40, .load 3 (.tmp 39), 3, "l13_net.go:134", #[⟨9, .data⟩, ⟨6, .guard⟩], some (6, false)⟩
abbrev q241 : Oper := ⟨some 41, .binOp .eql 3 (.tmp 38) (.tmp 40) 3, 4, "l13_net.go:134", #[⟨8, .data⟩, ⟨10, .data⟩, ⟨6, .guard⟩], some (6, false)⟩
abbrev q242 : Oper := ⟨some 42, .pick (.tmp 36) (.const (.bool true)) (.tmp 41), 4, "l13_net.go:134", #[⟨6, .data⟩, ⟨11, .data⟩], none⟩
abbrev q243 : Oper := ⟨some 43, .move (.tmp 42), 4, "l13_net.go:134", #[⟨12, .data⟩, ⟨6, .chain⟩], none⟩
abbrev q244 : Oper := ⟨some 44, .move (.tmp 7), 91, "l13_net.go:134", #[⟨13, .guard⟩], some (13, false)⟩
abbrev q245 : Oper := ⟨some 45, .nilCheck (.tmp 44), 0, "l13_net.go:134", #[⟨14, .data⟩, ⟨13, .guard⟩], some (13, false)⟩
abbrev q246 : Oper := ⟨some 46, .fieldAddr 89 (.tmp 45) 0, 0, "l13_net.go:134", #[⟨15, .data⟩, ⟨13, .guard⟩], some (13, false)⟩
abbrev q247 : Oper := ⟨some 47, .load 4 (.tmp 46), 4, "l13_net.go:134", #[⟨16, .data⟩, ⟨13, .guard⟩], some (13, false)⟩
abbrev q248 : Oper := ⟨some 48, .move (.tmp 8), 91, "l13_net.go:134", #[⟨13, .guard⟩], some (13, false)⟩
abbrev q249 : Oper := ⟨some 49, .nilCheck (.tmp 48), 0, "l13_net.go:134", #[⟨18, .data⟩, ⟨13, .guard⟩], some (13, false)⟩
abbrev q250 : Oper := ⟨some 50, .fieldAddr 89 (.tmp 49) 0, 0, "l13_net.go:134", #[⟨19, .data⟩, ⟨13, .guard⟩], some (13, false)⟩
abbrev q251 : Oper := ⟨some 51, .load 4 (.tmp 50), 4, "l13_net.go:134", #[⟨20, .data⟩, ⟨13, .guard⟩], some (13, false)⟩
abbrev q252 : Oper := ⟨some 52, .binOp .neq 4 (.tmp 47) (.tmp 51) 4, 4, "l13_net.go:134", #[⟨17, .data⟩, ⟨21, .data⟩, ⟨13, .guard⟩], some (13, false)⟩
abbrev q253 : Oper := ⟨some 53, .pick (.tmp 43) (.const (.bool true)) (.tmp 52), 4, "l13_net.go:134", #[⟨13, .data⟩, ⟨22, .data⟩], none⟩

def endF : Flat (Int × Int) where
 k := 2
 cs := fun x => [.int .i64 x.1, .int .i64 x.2]
 len := fun _ => rfl
 pos := by decide
 one := fun _ v hv => by
  simp only [List.mem_cons, List.not_mem_nil, or_false] at hv
  rcases hv with rfl | rfl <;> rfl

theorem end_at {w : World} {ao : Option Addr} {len cap : Nat} {l : List (Int × Int)} (h : GRow endF w ao len cap l) (i : Nat) (hi : i < len) : ∃ (x : Int × Int) (b off : Nat), l[i]? = some x ∧ ao = some ⟨b, off, none⟩ ∧ w.cell? ⟨b, off + i * 2, none⟩ = some (.int .i64 x.1) ∧ w.cell? ⟨b, off + i * 2 + 1, none⟩ = some (.int .i64 x.2) := by
 obtain ⟨x, b, off, hx, ha, hc⟩ := h.at i hi
 exact ⟨x, b, off, hx, ha, hc 0 _ rfl, hc 1 _ rfl⟩

theorem endInfo : (Tryz.prog.info? 77).map (fun i => (i.zero, i.size, i.bytes)) = some (some (.agg #[.int .i64 0, .int .i64 0]), endF.k, 16) := by kernel_rfl

theorem ends_row {w : World} {g : Nat} {T : TypeId} {x : LK} (h : w.heap[g]? = some (.cells #[.int .i64 x.a, .int .i64 x.p, .int .i64 x.b, .int .i64 x.q] T)) : GRow endF w (some ⟨g, 0, none⟩) 2 2 [(x.a, x.p), (x.b, x.q)] := by
 obtain ⟨c0, c1, c2, c3⟩ := cells4n h
 refine ⟨rfl, Nat.le_refl _, by unfold maxLen; omega, (by intro e; cases e), .inr ⟨g, 0, rfl, ?_⟩⟩
 intro i y hi j v hv
 match i, hi with
 | 0, hi =>
  cases hi
  match j, hv with
  | 0, hv => cases hv; exact c0
  | 1, hv => cases hv; exact c1
 | 1, hi =>
  cases hi
  match j, hv with
  | 0, hv => cases hv; exact c2
  | 1, hv => cases hv; exact c3

theorem blk_lt {w : World} {g : Nat} {o : Obj} (h : w.heap[g]? = some o) : g + 1 ≤ w.heap.size := by
 by_cases hg : g < w.heap.size
 ·exact hg
 ·rw [Array.getElem?_eq_none (by omega)] at h; cases h

theorem ends_next {ls : List LK} {k : Nat} {x : LK} (h : ls[k]? = some x) : endsL (ls.take (k + 1)) = endsL (ls.take k) ++ [(x.a, x.p), (x.b, x.q)] := by
 rw [List.take_add_one, h, ends_app]
 rfl
theorem ends_split {ls : List LK} {k : Nat} {x : LK} (h : ls[k]? = some x) : endsL ls = endsL (ls.take k) ++ ((x.a, x.p) :: (x.b, x.q) :: endsL (ls.drop (k + 1))) := by
 obtain ⟨hk, rfl⟩ := List.getElem?_eq_some_iff.1 h
 rw [← ends_cons, ← ends_app, ← List.drop_eq_getElem_cons hk, List.take_append_drop]

set_option maxRecDepth 100000 in
set_option maxHeartbeats 2000000 in
theorem endIndex_any (a : Option Addr) (n c : Nat) (l : List (Int × Int)) (b p : Int) (w : World) (h : GRow endF w a n c l) :
  Calls Tryz.prog 125 #[.slice a n c, .agg #[.int .i64 b, .int .i64 p]] w fun e w' => ∃ k : Int, e = .returned (.int .i64 k) ∧ (0 ≤ k ↔ (b, p) ∈ l) ∧ Below w.heap.size w w' := by
 have hle := h.le
 have htop := h.top
 unfold maxLen at htop
 have hsz := h.size
 have hgd : Tryz.prog.eqGuardType Tryz.prog.depth 77 = false := by kernel_rfl
 generalize hw1 : w.alloc (Obj.cells #[.int .i64 b, .int .i64 p] 77) = w1
 have b01 : Below w.heap.size w w1 := by rw [← hw1]; exact below_one _ _
 have k1 : w1.heap[w.heap.size]? = some (.cells #[.int .i64 b, .int .i64 p] 77) := by rw [← hw1]; exact block_last _ _
 go_enter Tryz.func125, Tryz.ntmps125
 go_wp2_with fail
 clear hw1
 go_loopw [8] (fun i wr => ∃ k : Nat, k ≤ n ∧ i = .int .i64 k ∧ (∀ y ∈ l.take k, ¬ y = (b, p)) ∧ wr.heap[w.heap.size]? = some (.cells #[.int .i64 b, .int .i64 p] 77) ∧ Below w.heap.size w wr) (fun i _ => n - (intOf i).toNat)
 case atStart => exact ⟨0, Nat.zero_le _, rfl, by intro y hy; simp at hy, k1, b01⟩
 case round =>
  obtain ⟨k, hk, rfl, hno, hbox, hb⟩ := hrel
  clear k1 b01
  obtain ⟨u0, u1⟩ := cells2n hbox
  by_cases hlt : k < n
  ·obtain ⟨x, g, off, hx, rfl, ca0, ca1⟩ := end_at (h.below hb) k hlt
   have i1 : (0 : Int) ≤ (k : Int) := by omega
   have i2 : (k : Int) < (n : Int) := by omega
   have HX := hide hx
   have HN := hide hno
   have HB := hide (gr_drew hb)
   have HBOX : Hid (wr.drew.heap[w.heap.size]? = some (.cells #[.int .i64 b, .int .i64 p] 77)) := hide hbox
   clear hno hb hx hbox
   by_cases t1 : x = (b, p)
   ·have HF : Hid ((b, p) ∈ l) := hide (t1 ▸ List.mem_of_getElem? HX.out)
    have he : ∀ W, (binOp .eql 77 (.agg #[.int .i64 b, .int .i64 p]) (.agg #[.int .i64 x.1, .int .i64 x.2])).run Tryz.prog W = .ok (.bool true) W := fun W => by rw [end_eql, t1]; simp
    clear t1
    go_wp2_with fail
    go_region
    go_wp2
    go_ret
    exact ⟨(k : Int), rfl, ⟨fun _ => HF.out, fun _ => by omega⟩, HB.out⟩
   ·have HO := hide (all_next (P := fun y => ¬ y = (b, p)) HX.out HN.out t1)
    have he : ∀ W, (binOp .eql 77 (.agg #[.int .i64 b, .int .i64 p]) (.agg #[.int .i64 x.1, .int .i64 x.2])).run Tryz.prog W = .ok (.bool false) W := fun W => by
     rw [end_eql, show ((b == x.1) && (p == x.2)) = false by
      cases h1 : (b == x.1) && (p == x.2)
      ·rfl
      ·simp at h1; exact absurd (Prod.ext h1.1.symm h1.2.symm) t1]
    clear t1
    go_wp2_with fail
    go_region
    go_wp2
    go_roundw
    case rel => exact ⟨k + 1, by omega, by go_num, HO.out, HBOX.out, HB.out⟩
    case measure => simp [intOf]; omega
  ·have hkn : k = n := by omega
   rw [List.take_of_length_le (by omega)] at hno
   have HN := hide hno
   clear hno
   subst hkn
   go_wp2
   go_ret
   exact ⟨-1, rfl, ⟨fun e => by omega, fun hm => absurd rfl (HN.out _ hm)⟩, hb⟩

set_option maxRecDepth 100000 in
set_option maxHeartbeats 1000000 in
theorem endContains_any (a : Option Addr) (n c : Nat) (l : List (Int × Int)) (b p : Int) (w : World) (h : GRow endF w a n c l) :
  Calls Tryz.prog 85 #[.slice a n c, .agg #[.int .i64 b, .int .i64 p]] w fun e w' => Says ((b, p) ∈ l) w e w' := by
 generalize hw1 : w.alloc (Obj.cells #[.int .i64 b, .int .i64 p] 77) = w1
 have b01 : Below w.heap.size w w1 := by rw [← hw1]; exact below_one _ _
 have k1 : w1.heap[w.heap.size]? = some (.cells #[.int .i64 b, .int .i64 p] 77) := by rw [← hw1]; exact block_last _ _
 obtain ⟨u0, u1⟩ := cells2n k1
 go_enter Tryz.func85, Tryz.ntmps85
 go_wp2_with fail
 refine (endIndex_any a n c l b p _ (h.below b01)).mono ?_
 rintro e w2 ⟨k, rfl, hk, hb⟩
 have HK := hide hk
 have HB := hide (gr_trans b01 hb)
 clear hk hb u0 u1
 go_wp2
 go_ret
 exact ⟨decide (0 ≤ k), ret_bool (by simp), by rw [← HK.out]; simp, HB.out⟩

set_option maxRecDepth 100000 in
set_option maxHeartbeats 8000000 in
theorem implLinks_any (N : NV) (w : World) (h : NetRow w N) :
  Calls Tryz.prog 46 #[.agg #[.slice N.ba N.bn N.bc, .slice N.la N.ln N.lc, .slice N.sa N.sn N.sc]] w fun e w' => Says (LinksOk N.brs N.ls) w e w' := by
 obtain ⟨ba, bn, bc, bs, la, ln, lc, ls, sa, sn, sc, ss⟩ := N
 have hL := h.l
 have hle := Nat.le_trans hL.le hL.top
 unfold maxLen at hle
 have hsz := hL.size
 generalize hbR : NV.brs ⟨ba, bn, bc, bs, la, ln, lc, ls, sa, sn, sc, ss⟩ = bR
 have HBR := hide hbR
 clear hbR
 dsimp only at hL hle hsz ⊢
 generalize hw1 : w.alloc (Obj.cells #[.slice ba bn bc, .slice la ln lc, .slice sa sn sc] 31) = w1
 have b01 : Below w.heap.size w w1 := by rw [← hw1]; exact below_one _ _
 have k1 : w1.heap[w.heap.size]? = some (.cells #[.slice ba bn bc, .slice la ln lc, .slice sa sn sc] 31) := by rw [← hw1]; exact block_last _ _
 obtain ⟨x0, x1, x2⟩ := cells3m k1
 by_cases l9 : (ln : Int) > 9
 ·have HNO : Hid ((false = true) ↔ LinksOk bR ls) := hide (no_iff fun hp => by have := hp.1; omega)
  go_enter Tryz.func46, Tryz.ntmps46
  go_wp2
  go_ret
  exact ⟨false, rfl, HNO.out, b01⟩
 go_enter Tryz.func46, Tryz.ntmps46
 go_wp2_with fail
 clear x0 x1 x2 hw1
 go_loopw [3, 16] (fun t i wr => ∃ (k : Nat) (ta : Option Addr) (tc : Nat), k ≤ ln ∧ i = .int .i64 k ∧ t = .slice ta (2 * k) tc ∧ (∀ y ∈ ls.take k, EndsOk bR y) ∧ (endsL (ls.take k)).Nodup ∧ wr.ownsRow (w.heap.size + 1) 77 2 (.slice ta (2 * k) tc) (2 * k) (endF.all (endsL (ls.take k))) ∧ wr.heap[w.heap.size]? = some (.cells #[.slice ba bn bc, .slice la ln lc, .slice sa sn sc] 31) ∧ Below w.heap.size w wr) (fun _ i _ => ln - (intOf i).toNat)
 case atStart => exact ⟨0, none, 0, Nat.zero_le _, rfl, rfl, by intro y hy; simp at hy, by simp [endsL], World.ownsRow_nil _ _ _ _, k1, b01⟩
 case round =>
  obtain ⟨k, ta, tc, hk, rfl, rfl, hep, hnd, oT, hbox, hb⟩ := hrel
  clear k1 b01
  by_cases hlt : k < ln
  ·obtain ⟨x, lb, lo, hx, rfl, a0, a1, a2, a3⟩ := link_at (hL.below hb) k hlt
   have i1 : (0 : Int) ≤ (k : Int) := by omega
   have i2 : (k : Int) < (ln : Int) := by omega
   have hmem := List.mem_of_getElem? hx
   have HX := hide hx
   have HEP := hide hep
   have HNDP := hide hnd
   have hN : NetRow w ⟨ba, bn, bc, bs, some ⟨lb, lo, none⟩, ln, lc, ls, sa, sn, sc, ss⟩ := h
   generalize hwa : wr.alloc (Obj.cells #[.int .i64 x.a, .int .i64 x.p, .int .i64 x.b, .int .i64 x.q] 44) = wa
   have ba9 : Below wr.heap.size wr wa := by rw [← hwa]; exact below_one _ _
   have ka : wa.heap[wr.heap.size]? = some (.cells #[.int .i64 x.a, .int .i64 x.p, .int .i64 x.b, .int .i64 x.q] 44) := by rw [← hwa]; exact block_last _ _
   have kNe := kept_block hbox ba9
   have oT := gown_below oT ba9
   have b0a := gr_trans hb ba9
   obtain ⟨y0, y1, y2, y3⟩ := cells4n ka
   clear hx hep hnd hbox
   go_wp2_with fail
   refine (endsOf_any x _).mono ?_
   rintro e we ⟨rfl, hbe⟩
   have kL := kept_block ka hbe
   have kNe := kept_block kNe hbe
   have oT := gown_below oT hbe
   have b0e := gr_trans b0a hbe
   generalize hRR : wr.heap.size = L at *
   clear hwa y0 y1 y2 y3 ka ba9 hbe b0a a0 a1 a2 a3 hb
   generalize hwq : we.alloc (Obj.cells #[.int .i64 x.a, .int .i64 x.p, .int .i64 x.b, .int .i64 x.q] 78) = wq
   have bq0 : Below we.heap.size we wq := by rw [← hwq]; exact below_one _ _
   have kE : wq.heap[we.heap.size]? = some (.cells #[.int .i64 x.a, .int .i64 x.p, .int .i64 x.b, .int .i64 x.q] 78) := by rw [← hwq]; exact block_last _ _
   have kL := kept_block kL bq0
   have kNe := kept_block kNe bq0
   have oT := gown_below oT bq0
   have bq := gr_trans b0e bq0
   generalize hEE : we.heap.size = E at *
   clear bq0 b0e
   go_upto_region 8 with fail
   go_cut [7, 8] from 22 to 29 (fun s t wx => ∃ v1 v2 : Option Addr, s = .pointer v1 ∧ t = .pointer v2 ∧ PtAt wx v1 (portOf (NV.brs ⟨ba, bn, bc, bs, some ⟨lb, lo, none⟩, ln, lc, ls, sa, sn, sc, ss⟩) x.a x.p) ∧ PtAt wx v2 (portOf (NV.brs ⟨ba, bn, bc, bs, some ⟨lb, lo, none⟩, ln, lc, ls, sa, sn, sc, ss⟩) x.b x.q) ∧ Below wq.heap.size wq wx)
   case first =>
    have vv : Below wq.heap.size wq wq.drew := gr_drew (Below.refl _ _)
    refine wp_region_held_drew (S := (fun W => (W.cell? ⟨w.heap.size, 0, none⟩ = some (.slice ba bn bc) ∧ W.cell? ⟨w.heap.size, 1, none⟩ = some (.slice (some ⟨lb, lo, none⟩) ln lc) ∧ W.cell? ⟨w.heap.size, 2, none⟩ = some (.slice sa sn sc)) ∧ (W.cell? ⟨E, 0, none⟩ = some (.int .i64 x.a) ∧ W.cell? ⟨E, 1, none⟩ = some (.int .i64 x.p) ∧ W.cell? ⟨E, 2, none⟩ = some (.int .i64 x.b) ∧ W.cell? ⟨E, 3, none⟩ = some (.int .i64 x.q)))) (by kernel_rfl) (⟨cells3m (kept_block kNe vv), cells4n (kept_block kE vv)⟩) (fun hHeld => ?_)
    refine kK 0 ⟨some 22, .load 31 (.tmp 1), 31, "l13_net.go:133", #[], none⟩ ?_
    refine kK 1 ⟨some 23, .indexAddr 78 (.tmp 6) (.const (.int .i64 0)), 0, "l13_net.go:133", #[], none⟩ ?_
    refine kK 2 ⟨some 24, .load 77 (.tmp 23), 77, "l13_net.go:133", #[⟨1, .data⟩], none⟩ ?_
    refine kK 4 ⟨some 26, .load 31 (.tmp 1), 31, "l13_net.go:133", #[], none⟩ ?_
    refine kK 5 ⟨some 27, .indexAddr 78 (.tmp 6) (.const (.int .i64 1)), 0, "l13_net.go:133", #[], none⟩ ?_
    refine kK 6 ⟨some 28, .load 77 (.tmp 27), 77, "l13_net.go:133", #[⟨5, .data⟩], none⟩ ?_
    refine kR 3 ⟨some 25, .call ⟨.value (.func 53), #[.tmp 22, .tmp 24], #[31, 77]⟩, 91, "l13_net.go:133", #[⟨0, .data⟩, ⟨2, .data⟩], none⟩ (fun K hK => ?_)
    go_simp
    refine (portAt_any ⟨ba, bn, bc, bs, some ⟨lb, lo, none⟩, ln, lc, ls, sa, sn, sc, ss⟩ x.a x.p _ (hN.below (gr_trans bq vv))).mono ?_
    rintro r wz ⟨v1, rfl, v1P, hbz⟩
    have v1P := PtAt.later v1P hbz
    try have v2P := PtAt.later v2P hbz
    have vv := gr_trans vv hbz
    go_wp2_with fail
    refine hK.out _ _ (⟨cells3m (kept_block kNe vv), cells4n (kept_block kE vv)⟩) (fun hHeld => ?_)
    clear hK K
    try simp only [Act.put, lA, lB, lC]
    refine kR 7 ⟨some 29, .call ⟨.value (.func 53), #[.tmp 26, .tmp 28], #[31, 77]⟩, 91, "l13_net.go:133", #[⟨4, .data⟩, ⟨6, .data⟩, ⟨3, .chain⟩], none⟩ (fun K hK => ?_)
    go_simp
    refine (portAt_any ⟨ba, bn, bc, bs, some ⟨lb, lo, none⟩, ln, lc, ls, sa, sn, sc, ss⟩ x.b x.q _ (hN.below (gr_trans bq vv))).mono ?_
    rintro r wz ⟨v2, rfl, v2P, hbz⟩
    have v2P := PtAt.later v2P hbz
    try have v1P := PtAt.later v1P hbz
    have vv := gr_trans vv hbz
    go_wp2_with fail
    refine hK.out _ _ (⟨cells3m (kept_block kNe vv), cells4n (kept_block kE vv)⟩) (fun hHeld => ?_)
    clear hK K
    try simp only [Act.put, lA, lB, lC]
    refine kK 8 ⟨some 7, .assign (.tmp 25), 91, "l13_net.go:133", #[⟨3, .data⟩, ⟨7, .chain⟩, ⟨0, .phase⟩, ⟨1, .phase⟩, ⟨2, .phase⟩, ⟨3, .phase⟩, { on := 4, ground := Ground.textOnly Departure.lateStores }, { on := 5, ground := Ground.textOnly Departure.lateStores }, { on := 6, ground := Ground.textOnly Departure.lateStores }, { on := 7, ground := Ground.textOnly Departure.lateStoresUnsure }], none⟩ ?_
    refine kK 9 ⟨some 8, .assign (.tmp 29), 91, "l13_net.go:133", #[⟨7, .data⟩, ⟨8, .chain⟩, ⟨0, .phase⟩, ⟨1, .phase⟩, ⟨2, .phase⟩, ⟨3, .phase⟩, ⟨4, .phase⟩, ⟨5, .phase⟩, ⟨6, .phase⟩, ⟨7, .phase⟩, ⟨8, .phase⟩], none⟩ ?_
    refine wpAnyH_done (by kernel_rfl) ?_ _
    clear hHeld
    go_wp2_with fail
    go_meet
    exact ⟨v1, v2, rfl, rfl, v1P, v2P, vv⟩
   case rest =>
    obtain ⟨v1, v2, rfl, rfl, v1P, v2P, hb9⟩ := hcut
    obtain ⟨w9, hw9⟩ : ∃ y, y = wc := ⟨_, rfl⟩
    subst hw9
    rw [HBR.out] at v1P v2P
    have kL := kept_block kL hb9
    have kE := kept_block kE hb9
    have kNe := kept_block kNe hb9
    have oT := gown_below oT hb9
    have bc9 := gr_trans bq hb9
    clear hb9 bq
    have vv : Below w9.heap.size w9 w9.drew := gr_drew (Below.refl _ _)
    have i4 : (2 * (k : Nat)) + 2 = 2 * (k + 1) := by omega
    cases hP : portOf bR x.a x.p with
    | none =>
     rw [hP] at v1P
     have e1 : v1 = none := v1P
     subst e1
     have HNO : Hid ((false = true) ↔ LinksOk bR ls) := hide (no_iff fun hp => by
      obtain ⟨u, v, hu, -⟩ := (hp.2 x hmem).1.2
      rw [hP] at hu
      cases hu)
     clear v1P v2P
     go_wp2_with fail
     refine wp_region_held_drew (S := (fun W => W.cell? ⟨L, 0, none⟩ = some (.int .i64 x.a) ∧ W.cell? ⟨L, 1, none⟩ = some (.int .i64 x.p) ∧ W.cell? ⟨L, 2, none⟩ = some (.int .i64 x.b) ∧ W.cell? ⟨L, 3, none⟩ = some (.int .i64 x.q))) (by kernel_rfl) (cells4n (kept_block kL vv)) (fun hHeld => ?_)
     refine kK 0 q230 ?_
     refine kK 1 q231 ?_
     refine kK 2 q232 ?_
     refine kN 3 q233 ?_
     refine kN 4 q234 ?_
     refine kK 5 q235 ?_
     refine kK 6 q236 ?_
     refine kN 7 q237 ?_
     refine kN 8 q238 ?_
     refine kN 9 q239 ?_
     refine kN 10 q240 ?_
     refine kN 11 q241 ?_
     refine kK 12 q242 ?_
     refine kK 13 q243 ?_
     refine kN 14 q244 ?_
     refine kN 15 q245 ?_
     refine kN 16 q246 ?_
     refine kN 17 q247 ?_
     refine kN 18 q248 ?_
     refine kN 19 q249 ?_
     refine kN 20 q250 ?_
     refine kN 21 q251 ?_
     refine kN 22 q252 ?_
     refine kK 23 q253 ?_
     refine wpAnyH_done (by kernel_rfl) ?_ _
     have HB := hide (gr_trans bc9 vv)
     clear hHeld vv kL
     go_wp2
     go_ret
     exact ⟨false, rfl, HNO.out, HB.out⟩
    | some u =>
     rw [hP] at v1P
     obtain ⟨g1, j1, rfl, d1⟩ := v1P
     cases hQ : portOf bR x.b x.q with
     | none =>
      rw [hQ] at v2P
      have e2 : v2 = none := v2P
      subst e2
      have HNO : Hid ((false = true) ↔ LinksOk bR ls) := hide (no_iff fun hp => by
       obtain ⟨u, v, -, hv, -⟩ := (hp.2 x hmem).1.2
       rw [hQ] at hv
       cases hv)
      clear v2P
      go_wp2_with fail
      refine wp_region_held_drew (S := (fun W => W.cell? ⟨L, 0, none⟩ = some (.int .i64 x.a) ∧ W.cell? ⟨L, 1, none⟩ = some (.int .i64 x.p) ∧ W.cell? ⟨L, 2, none⟩ = some (.int .i64 x.b) ∧ W.cell? ⟨L, 3, none⟩ = some (.int .i64 x.q))) (by kernel_rfl) (cells4n (kept_block kL vv)) (fun hHeld => ?_)
      refine kK 0 q230 ?_
      refine kK 1 q231 ?_
      refine kK 2 q232 ?_
      refine kK 3 q233 ?_
      refine kK 4 q234 ?_
      refine kK 5 q235 ?_
      refine kK 6 q236 ?_
      refine kN 7 q237 ?_
      refine kN 8 q238 ?_
      refine kN 9 q239 ?_
      refine kN 10 q240 ?_
      refine kN 11 q241 ?_
      refine kK 12 q242 ?_
      refine kK 13 q243 ?_
      refine kN 14 q244 ?_
      refine kN 15 q245 ?_
      refine kN 16 q246 ?_
      refine kN 17 q247 ?_
      refine kN 18 q248 ?_
      refine kN 19 q249 ?_
      refine kN 20 q250 ?_
      refine kN 21 q251 ?_
      refine kN 22 q252 ?_
      refine kK 23 q253 ?_
      refine wpAnyH_done (by kernel_rfl) ?_ _
      have HB := hide (gr_trans bc9 vv)
      clear hHeld vv kL
      go_wp2
      go_ret
      exact ⟨false, rfl, HNO.out, HB.out⟩
     | some v =>
      rw [hQ] at v2P
      obtain ⟨g2, j2, rfl, d2⟩ := v2P
      by_cases hab : x.a = x.b
      ·have HNO : Hid ((false = true) ↔ LinksOk bR ls) := hide (no_iff fun hp => (hp.2 x hmem).1.1 hab)
       have HAB := hide hab
       clear hab
       go_wp2_with fail
       have hab := HAB.out
       refine wp_region_held_drew (S := (fun W => W.cell? ⟨L, 0, none⟩ = some (.int .i64 x.a) ∧ W.cell? ⟨L, 1, none⟩ = some (.int .i64 x.p) ∧ W.cell? ⟨L, 2, none⟩ = some (.int .i64 x.b) ∧ W.cell? ⟨L, 3, none⟩ = some (.int .i64 x.q))) (by kernel_rfl) (cells4n (kept_block kL vv)) (fun hHeld => ?_)
       refine kK 0 q230 ?_
       refine kK 1 q231 ?_
       refine kK 2 q232 ?_
       refine kK 3 q233 ?_
       refine kK 4 q234 ?_
       refine kK 5 q235 ?_
       refine kK 6 q236 ?_
       refine kK 7 q237 ?_
       refine kK 8 q238 ?_
       refine kK 9 q239 ?_
       refine kK 10 q240 ?_
       refine kV 11 q241 (.bool true) ?_
       refine kK 12 q242 ?_
       refine kK 13 q243 ?_
       refine kN 14 q244 ?_
       refine kN 15 q245 ?_
       refine kN 16 q246 ?_
       refine kN 17 q247 ?_
       refine kN 18 q248 ?_
       refine kN 19 q249 ?_
       refine kN 20 q250 ?_
       refine kN 21 q251 ?_
       refine kN 22 q252 ?_
       refine kK 23 q253 ?_
       refine wpAnyH_done (by kernel_rfl) ?_ _
       have HB := hide (gr_trans bc9 vv)
       clear hHeld vv kL
       go_wp2
       go_ret
       exact ⟨false, rfl, HNO.out, HB.out⟩
      ·have HNO : Hid (u.up ≠ v.up → ((false = true) ↔ LinksOk bR ls)) := hide (fun hne => no_iff fun hp => by
        obtain ⟨u', v', hu', hv', he⟩ := (hp.2 x hmem).1.2
        rw [hP] at hu'
        rw [hQ] at hv'
        cases hu'
        cases hv'
        exact hne he)
       go_wp2_with fail
       refine wp_region_held_drew (S := (fun W => (W.cell? ⟨L, 0, none⟩ = some (.int .i64 x.a) ∧ W.cell? ⟨L, 1, none⟩ = some (.int .i64 x.p) ∧ W.cell? ⟨L, 2, none⟩ = some (.int .i64 x.b) ∧ W.cell? ⟨L, 3, none⟩ = some (.int .i64 x.q)) ∧ W.cell? ⟨g1, j1, none⟩ = some (.bool u.up) ∧ W.cell? ⟨g2, j2, none⟩ = some (.bool v.up))) (by kernel_rfl) (⟨cells4n (kept_block kL vv), (vv.cell (block_lt d1)).trans d1, (vv.cell (block_lt d2)).trans d2⟩) (fun hHeld => ?_)
       refine kK 0 q230 ?_
       refine kK 1 q231 ?_
       refine kK 2 q232 ?_
       refine kK 3 q233 ?_
       refine kK 4 q234 ?_
       refine kK 5 q235 ?_
       refine kK 6 q236 ?_
       refine kK 7 q237 ?_
       refine kK 8 q238 ?_
       refine kK 9 q239 ?_
       refine kK 10 q240 ?_
       refine kV 11 q241 (.bool false) ?_
       refine kK 12 q242 ?_
       refine kK 13 q243 ?_
       refine kK 14 q244 ?_
       refine kK 15 q245 ?_
       refine kK 16 q246 ?_
       refine kK 17 q247 ?_
       refine kK 18 q248 ?_
       refine kK 19 q249 ?_
       refine kK 20 q250 ?_
       refine kK 21 q251 ?_
       refine kK 22 q252 ?_
       refine kK 23 q253 ?_
       refine wpAnyH_done (by kernel_rfl) ?_ _
       have bD := gr_trans bc9 vv
       have kL := kept_block kL vv
       have kE := kept_block kE vv
       have kNe := kept_block kNe vv
       have oT := gown_below oT vv
       clear hHeld vv d1 d2
       have HAB := hide hab
       have HPQ := hide (And.intro hP hQ)
       clear hab hP hQ
       cases hu : u.up <;> cases hv : v.up
       ·have HE : Hid (EndsOk bR x) := hide ⟨HAB.out, u, v, HPQ.out.1, HPQ.out.2, by rw [hu, hv]⟩
        obtain ⟨e0, e1, e2, e3⟩ := cells4n kE
        go_wp2_with fail
        refine (endContains_any ta (2 * k) tc (endsL (ls.take k)) x.a x.p _ (grow_own (F := endF) oT)).mono ?_
        rintro e w10 ⟨q1, rfl, hq1, hb10⟩
        have kE := kept_block kE hb10
        have kNe := kept_block kNe hb10
        have oT := gown_below oT hb10
        have bD := gr_trans bD hb10
        clear e0 e1 e2 e3 hb10 kL
        have HQ1 := hide hq1
        clear hq1
        cases q1
        rotate_left
        ·have HNO : Hid ((false = true) ↔ LinksOk bR ls) := hide (no_iff fun hp => by
          rw [links_iff] at hp
          have hn := hp.2.2
          rw [ends_split HX.out] at hn
          exact (List.nodup_append.1 hn).2.2 _ (HQ1.out.1 rfl) _ (by simp) rfl)
         go_wp2
         go_ret
         exact ⟨false, rfl, HNO.out, bD⟩
        obtain ⟨e0, e1, e2, e3⟩ := cells4n kE
        go_wp2_with fail
        refine (endContains_any ta (2 * k) tc (endsL (ls.take k)) x.b x.q _ (grow_own (F := endF) oT)).mono ?_
        rintro e w11 ⟨q2, rfl, hq2, hb11⟩
        have kE := kept_block kE hb11
        have kNe := kept_block kNe hb11
        have oT := gown_below oT hb11
        have bD := gr_trans bD hb11
        clear e0 e1 e2 e3 hb11
        have HQ2 := hide hq2
        clear hq2
        cases q2
        rotate_left
        ·have HNO : Hid ((false = true) ↔ LinksOk bR ls) := hide (no_iff fun hp => by
          rw [links_iff] at hp
          have hn := hp.2.2
          rw [ends_split HX.out] at hn
          exact (List.nodup_append.1 hn).2.2 _ (HQ2.out.1 rfl) _ (by simp) rfl)
         go_wp2
         go_ret
         exact ⟨false, rfl, HNO.out, bD⟩
        have HND : Hid ((endsL (ls.take (k + 1))).Nodup) := hide (by
         rw [ends_next HX.out]
         refine List.nodup_append.2 ⟨HNDP.out, ?_, ?_⟩
         ·have := HAB.out
          simp
          intro e; exact absurd e this
         ·intro a ha b hb e
          subst e
          simp at hb
          rcases hb with rfl | rfl
          ·have := HQ1.out.2 ha; cases this
          ·have := HQ2.out.2 ha; cases this)
        have HEO := hide (all_next HX.out HEP.out HE.out)
        have HEN := hide (ends_next HX.out)
        have hbz : w.heap.size + 1 ≤ w11.heap.size := blk_lt kNe
        have hlt2 := oT.lt
        go_wp2_with (at_builtin; refine wpList_append_flat (F := endF) _ rfl _ _ 122 77 rfl (w.heap.size + 1) Tryz.underlying122 endInfo rfl (by decide) _ (2 * k) (endsL (ls.take k)) rfl oT (some ⟨E, 0, none⟩) 2 2 [(x.a, x.p), (x.b, x.q)] rfl (ends_row kE) (by omega) hbz ?_)
        intro ta' tc' w12 oT' _ hgr hbl
        have HT : Hid (w12.ownsRow (w.heap.size + 1) 77 2 (.slice ta' (2 * (k + 1)) tc') (2 * (k + 1)) (endF.all (endsL (ls.take (k + 1))))) := hide (by rw [HEN.out]; exact oT')
        have HK : Hid (w12.heap[w.heap.size]? = some (.cells #[.slice ba bn bc, .slice (some ⟨lb, lo, none⟩) ln lc, .slice sa sn sc] 31)) := hide (kept_grown kNe hgr (by intro j e; have := (hlt2 j e).1; omega))
        have HB : Hid (Below w.heap.size w w12) := hide (bD.grown hgr bD.size (by intro j e; have := (hlt2 j e).1; omega))
        clear oT oT' hgr hbl kE kNe bD hlt2 hbz
        go_wp2
        go_roundw
        case rel => exact ⟨k + 1, ta', tc', by omega, by go_num, rfl, HEO.out, HND.out, HT.out, HK.out, HB.out⟩
        case measure => simp [intOf]; omega
       ·have HNO := hide (HNO.out (by rw [hu, hv]; simp))
        go_wp2
        go_ret
        exact ⟨false, rfl, HNO.out, bD⟩
       ·have HNO := hide (HNO.out (by rw [hu, hv]; simp))
        go_wp2
        go_ret
        exact ⟨false, rfl, HNO.out, bD⟩
       ·have HE : Hid (EndsOk bR x) := hide ⟨HAB.out, u, v, HPQ.out.1, HPQ.out.2, by rw [hu, hv]⟩
        obtain ⟨e0, e1, e2, e3⟩ := cells4n kE
        go_wp2_with fail
        refine (endContains_any ta (2 * k) tc (endsL (ls.take k)) x.a x.p _ (grow_own (F := endF) oT)).mono ?_
        rintro e w10 ⟨q1, rfl, hq1, hb10⟩
        have kE := kept_block kE hb10
        have kNe := kept_block kNe hb10
        have oT := gown_below oT hb10
        have bD := gr_trans bD hb10
        clear e0 e1 e2 e3 hb10 kL
        have HQ1 := hide hq1
        clear hq1
        cases q1
        rotate_left
        ·have HNO : Hid ((false = true) ↔ LinksOk bR ls) := hide (no_iff fun hp => by
          rw [links_iff] at hp
          have hn := hp.2.2
          rw [ends_split HX.out] at hn
          exact (List.nodup_append.1 hn).2.2 _ (HQ1.out.1 rfl) _ (by simp) rfl)
         go_wp2
         go_ret
         exact ⟨false, rfl, HNO.out, bD⟩
        obtain ⟨e0, e1, e2, e3⟩ := cells4n kE
        go_wp2_with fail
        refine (endContains_any ta (2 * k) tc (endsL (ls.take k)) x.b x.q _ (grow_own (F := endF) oT)).mono ?_
        rintro e w11 ⟨q2, rfl, hq2, hb11⟩
        have kE := kept_block kE hb11
        have kNe := kept_block kNe hb11
        have oT := gown_below oT hb11
        have bD := gr_trans bD hb11
        clear e0 e1 e2 e3 hb11
        have HQ2 := hide hq2
        clear hq2
        cases q2
        rotate_left
        ·have HNO : Hid ((false = true) ↔ LinksOk bR ls) := hide (no_iff fun hp => by
          rw [links_iff] at hp
          have hn := hp.2.2
          rw [ends_split HX.out] at hn
          exact (List.nodup_append.1 hn).2.2 _ (HQ2.out.1 rfl) _ (by simp) rfl)
         go_wp2
         go_ret
         exact ⟨false, rfl, HNO.out, bD⟩
        have HND : Hid ((endsL (ls.take (k + 1))).Nodup) := hide (by
         rw [ends_next HX.out]
         refine List.nodup_append.2 ⟨HNDP.out, ?_, ?_⟩
         ·have := HAB.out
          simp
          intro e; exact absurd e this
         ·intro a ha b hb e
          subst e
          simp at hb
          rcases hb with rfl | rfl
          ·have := HQ1.out.2 ha; cases this
          ·have := HQ2.out.2 ha; cases this)
        have HEO := hide (all_next HX.out HEP.out HE.out)
        have HEN := hide (ends_next HX.out)
        have hbz : w.heap.size + 1 ≤ w11.heap.size := blk_lt kNe
        have hlt2 := oT.lt
        go_wp2_with (at_builtin; refine wpList_append_flat (F := endF) _ rfl _ _ 122 77 rfl (w.heap.size + 1) Tryz.underlying122 endInfo rfl (by decide) _ (2 * k) (endsL (ls.take k)) rfl oT (some ⟨E, 0, none⟩) 2 2 [(x.a, x.p), (x.b, x.q)] rfl (ends_row kE) (by omega) hbz ?_)
        intro ta' tc' w12 oT' _ hgr hbl
        have HT : Hid (w12.ownsRow (w.heap.size + 1) 77 2 (.slice ta' (2 * (k + 1)) tc') (2 * (k + 1)) (endF.all (endsL (ls.take (k + 1))))) := hide (by rw [HEN.out]; exact oT')
        have HK : Hid (w12.heap[w.heap.size]? = some (.cells #[.slice ba bn bc, .slice (some ⟨lb, lo, none⟩) ln lc, .slice sa sn sc] 31)) := hide (kept_grown kNe hgr (by intro j e; have := (hlt2 j e).1; omega))
        have HB : Hid (Below w.heap.size w w12) := hide (bD.grown hgr bD.size (by intro j e; have := (hlt2 j e).1; omega))
        clear oT oT' hgr hbl kE kNe bD hlt2 hbz
        go_wp2
        go_roundw
        case rel => exact ⟨k + 1, ta', tc', by omega, by go_num, rfl, HEO.out, HND.out, HT.out, HK.out, HB.out⟩
        case measure => simp [intOf]; omega
  ·have hkn : k = ln := by omega
   rw [List.take_of_length_le (by omega)] at hep hnd
   have HP : Hid (LinksOk bR ls) := hide ((links_iff _ _).2 ⟨by omega, hep, hnd⟩)
   clear hep hnd oT
   subst hkn
   go_wp2
   go_ret
   exact ⟨true, rfl, yes_iff HP.out, hb⟩

structure NnSt (w wr : World) (X : Nat) (la : Option Addr) (ln lc : Nat) (l : List LK) (ba : Option Addr) (bn bc : Nat) (bs : List BV) : Prop where
 box : wr.heap[X]? = some (.cells #[.slice ba bn bc, .slice la ln lc, .slice none 0 0] 31)
 res : wr.heap[w.heap.size]? = some (.cells #[.slice none 0 0, .slice none 0 0, .slice none 0 0] 31)
 b : BOs wr (w.heap.size + 1) ba bn bc bs
 l : wr.ownsRow (w.heap.size + 1) 44 4 (.slice la ln lc) ln (linkF.all l)
 below : Below w.heap.size w wr
 lt : w.heap.size < X

theorem NnSt.later {w wr : World} {X : Nat} {la : Option Addr} {ln lc : Nat} {l : List LK} {ba : Option Addr} {bn bc : Nat} {bs : List BV} (h : NnSt w wr X la ln lc l ba bn bc bs) {w' : World} (hb : Below wr.heap.size wr w') : NnSt w w' X la ln lc l ba bn bc bs :=
 ⟨kept_block h.box hb, kept_block h.res hb, h.b.below hb, gown_below h.l hb, gr_trans h.below hb, h.lt⟩

theorem NnSt.size {w wr : World} {X : Nat} {la : Option Addr} {ln lc : Nat} {l : List LK} {ba : Option Addr} {bn bc : Nat} {bs : List BV} (h : NnSt w wr X la ln lc l ba bn bc bs) : w.heap.size + 1 ≤ wr.heap.size := blk_lt h.res

theorem BOs.boxed {w w' : World} {base : Nat} {ao : Option Addr} {n cap : Nat} {l : List BV} (h : BOs w base ao n cap l) {X : Nat} {cs : Array Value} (hX : w.heap[X]? = some (.cells cs 31)) (hg : w.grownBy w' (some X)) : BOs w' base ao n cap l :=
 ⟨gown_other h.row hg (box_ne h.row hX (by decide)), fun x hx => (h.item x hx).other hX (by decide) (by decide) (by decide) (by decide) hg, h.apart⟩

theorem NnSt.rows {w wr : World} {X : Nat} {la : Option Addr} {ln lc : Nat} {l : List LK} {ba : Option Addr} {bn bc : Nat} {bs : List BV} (h : NnSt w wr X la ln lc l ba bn bc bs) {w' : World} (hg : wr.grownBy w' (Value.slice ba bn bc).ownBlock) : w'.heap[X]? = some (.cells #[.slice ba bn bc, .slice la ln lc, .slice none 0 0] 31) ∧ w'.heap[w.heap.size]? = some (.cells #[.slice none 0 0, .slice none 0 0, .slice none 0 0] 31) ∧ w'.ownsRow (w.heap.size + 1) 44 4 (.slice la ln lc) ln (linkF.all l) ∧ Below w.heap.size w w' :=
 ⟨kept_grown h.box hg (fun k hk => box_ne h.b.row h.box (by decide) k hk), kept_grown h.res hg (fun k hk => box_ne h.b.row h.res (by decide) k hk), gown_type h.l h.b.row (by decide) hg, h.below.grown hg h.below.size (by intro k hk; have := (h.b.row.lt k hk).1; omega)⟩

theorem NnSt.push {w wr : World} {X : Nat} {la : Option Addr} {ln lc : Nat} {l : List LK} {ba : Option Addr} {bn bc : Nat} {bs : List BV} (h : NnSt w wr X la ln lc l ba bn bc bs) {w1 w2 : World} (hb : Below wr.heap.size wr w1) {y : BV} (hy : y.Own w1 wr.heap.size) (hg : w1.grownBy w2 (Value.slice ba bn bc).ownBlock) {ao' : Option Addr} {cap' : Nat} (hr : w2.ownsRow (w.heap.size + 1) 71 11 (.slice ao' (bn + 1) cap') (bn + 1) (brF.all (bs ++ [y]))) :
  w2.heap[X]? = some (.cells #[.slice ba bn bc, .slice la ln lc, .slice none 0 0] 31) ∧ Below w.heap.size w w2 ∧ NnSt w (w2.setCell ⟨X, 0, none⟩ (.slice ao' (bn + 1) cap')) X la ln lc l ao' (bn + 1) cap' (bs ++ [y]) := by
 have hp := h.b.push hb hy h.size hg hr
 obtain ⟨h1, h2, h3, h4⟩ := (h.later hb).rows hg
 have hgx : w2.grownBy (w2.setCell ⟨X, 0, none⟩ (.slice ao' (bn + 1) cap')) (some X) := grown_set 0 _
 have hlt := h.lt
 refine ⟨h1, h4, ?_, kept_grown h2 hgx (by intro k e; cases e; omega), hp.boxed h1 hgx, gown_other h3 hgx (box_ne h3 h1 (by decide)), h4.grown hgx h4.size (by intro k e; cases e; omega), hlt⟩
 have := set_block5 (j := 0) h1 (.slice ao' (bn + 1) cap')
 simpa using this

theorem NnSt.put {w wr : World} {X : Nat} {la : Option Addr} {ln lc : Nat} {l : List LK} {g bn bc : Nat} {pre post : List BV} {x y : BV} (h : NnSt w wr X la ln lc l (some ⟨g, 0, none⟩) bn bc (pre ++ x :: post)) {w1 w2 : World} (hb : Below wr.heap.size wr w1) (hy : y.Own w1 wr.heap.size) (hg : w1.grownBy w2 (some g)) (hr : w2.ownsRow (w.heap.size + 1) 71 11 (.slice (some ⟨g, 0, none⟩) bn bc) bn (brF.all (pre ++ y :: post))) :
  NnSt w w2 X la ln lc l (some ⟨g, 0, none⟩) bn bc (pre ++ y :: post) := by
 have hp := h.b.put hb hy h.size hg hr
 obtain ⟨h1, h2, h3, h4⟩ := (h.later hb).rows (w' := w2) hg
 exact ⟨h1, h2, hp, h3, h4, h.lt⟩

theorem bridge_over {w : World} {base g n cap j : Nat} {pre post : List BV} {x : BV} (y : BV) (hj : pre.length = j) (h : w.ownsRow base 71 11 (.slice (some ⟨g, 0, none⟩) n cap) n (brF.all (pre ++ x :: post))) {K : World → Prop} (hK : ∀ wq, wq.ownsRow base 71 11 (.slice (some ⟨g, 0, none⟩) n cap) n (brF.all (pre ++ y :: post)) → w.grownBy wq (some g) → K wq) :
  K (((((((((((w.setCell ⟨g, j * 11, none⟩ (.int .i64 y.B.id)).setCell ⟨g, j * 11 + 1, none⟩ (.string y.B.name)).setCell ⟨g, j * 11 + 2, none⟩ (.slice y.a y.n y.c)).setCell ⟨g, j * 11 + 3, none⟩ (.slice y.fa y.fn y.fc)).setCell ⟨g, j * 11 + 4, none⟩ (.slice y.ra y.rn y.rc)).setCell ⟨g, j * 11 + 5, none⟩ (.slice y.oa y.on y.oc)).setCell ⟨g, j * 11 + 6, none⟩ (.int .i64 y.B.ticks)).setCell ⟨g, j * 11 + 7, none⟩ (.int .i64 y.B.parse)).setCell ⟨g, j * 11 + 8, none⟩ (.int .i64 y.B.word)).setCell ⟨g, j * 11 + 9, none⟩ (.int .i64 y.B.drops)).setCell ⟨g, j * 11 + 10, none⟩ (.int .i64 y.B.vers)) := by
 subst hj
 exact hK _ (bridge_put h) bridge_puts

theorem NnSt.out {w wr : World} {X : Nat} {la : Option Addr} {ln lc : Nat} {l : List LK} {ba : Option Addr} {bn bc : Nat} {bs : List BV} (h : NnSt w wr X la ln lc l ba bn bc bs) : NetOwn (((wr.setCell ⟨w.heap.size, 0, none⟩ (.slice ba bn bc)).setCell ⟨w.heap.size, 1, none⟩ (.slice la ln lc)).setCell ⟨w.heap.size, 2, none⟩ (.slice none 0 0)) w.heap.size ⟨ba, bn, bc, bs, la, ln, lc, l, none, 0, 0, []⟩ ∧ Below w.heap.size w (((wr.setCell ⟨w.heap.size, 0, none⟩ (.slice ba bn bc)).setCell ⟨w.heap.size, 1, none⟩ (.slice la ln lc)).setCell ⟨w.heap.size, 2, none⟩ (.slice none 0 0)) :=
 ⟨((NetOwn.apart (M := ⟨ba, bn, bc, bs, la, ln, lc, l, none, 0, 0, []⟩) ⟨h.b, h.l, rfl, rfl, rfl, rfl⟩ (grownTr (grownTr (grown_set 0 _) (grown_set 1 _)) (grown_set 2 _)) (by omega)).lt (by omega)), below_set (below_set (below_set h.below (Nat.le_refl _) 0 _) (Nat.le_refl _) 1 _) (Nat.le_refl _) 2 _⟩

structure NewIs (ids : List Int) (ports : Int) (l : List LK) (M : NV) : Prop where
 yes : NetOk (newBs ids ports) l [] → M.bs.map BV.B = upBs ids ports ∧ M.ls = l
 no : ¬ NetOk (newBs ids ports) l [] → M.bs = [] ∧ M.ls = []
def NewAns (ids : List Int) (ports : Int) (l : List LK) (w : World) (e : Ending) (w' : World) : Prop := ∃ M : NV, e = .returned (.agg #[.slice M.ba M.bn M.bc, .slice M.la M.ln M.lc, .slice M.sa M.sn M.sc]) ∧ NetOwn w' w.heap.size M ∧ NewIs ids ports l M ∧ Below w.heap.size w w'

theorem new_none {ids : List Int} {ports : Int} {l : List LK} {w w' : World} (h : ¬ NetOk (newBs ids ports) l []) (hb : Below w.heap.size w w') : NewAns ids ports l w (.returned (.agg #[.slice none 0 0, .slice none 0 0, .slice none 0 0])) w' :=
 ⟨⟨none, 0, 0, [], none, 0, 0, [], none, 0, 0, []⟩, rfl, ⟨bos_nil _ _, World.ownsRow_nil _ _ _ _, rfl, rfl, rfl, rfl⟩, ⟨fun k => absurd k h, fun _ => ⟨rfl, rfl⟩⟩, hb⟩

end Go.Proofs.YtdmplbmfkliiiaaGreat
