/-
  Packed: JoinK JoinR JoinX JoinJ.
-/
import Derived.Test.YtgmkhoakindpkaaPJKW
import Derived.Test.YtgmkhoakindpkaaPJK01
import Derived.Test.YtgmkhoakindpkaaPJK03
import Derived.Test.YtgmkhoakindpkaaPJK07
import Derived.Test.YtgmkhoakindpkaaPJK09
import Derived.Test.YtgmkhoakindpkaaPJK11
import Derived.Deep.LoopGhost
import Derived.Maps.OwnOps
namespace Go.Proofs.Ytgmkhoakindpkaa
open Go.RowKit

section
open Go.RowKit Go.Lib

abbrev q1 : Oper := ⟨some 17, .move (.tmp 7), 3, "l15_agree.go:70", #[], none⟩
abbrev q2 : Oper := ⟨some 18, .fieldAddr 33 (.tmp 2) 1, 0, "l15_agree.go:70", #[], none⟩
abbrev q3 : Oper := ⟨some 19, .load 30 (.tmp 18), 30, "l15_agree.go:70", #[⟨1, .data⟩], none⟩
abbrev q4 : Oper := ⟨some 20, .call ⟨.builtin .len, #[.tmp 19], #[30]⟩, 3, "l15_agree.go:70", #[⟨2, .data⟩], none⟩
abbrev q5 : Oper := ⟨some 21, .binOp .sub 3 (.tmp 20) (.const (.int .i64 1)) 3, 3, "l15_agree.go:70", #[⟨3, .data⟩], none⟩
abbrev q6 : Oper := ⟨some 22, .call ⟨.value (.func 53), #[.tmp 17, .const (.int .i64 0), .tmp 21], #[3, 3, 3]⟩, 4, "l15_agree.go:70", #[⟨0, .data⟩, ⟨4, .data⟩], none⟩
abbrev q7 : Oper := ⟨some 23, .move (.tmp 22), 4, "l15_agree.go:70", #[⟨5, .data⟩, ⟨5, .chain⟩], none⟩
abbrev q8 : Oper := ⟨some 24, .load 33 (.tmp 2), 33, "l15_agree.go:70", #[⟨6, .guard⟩], some (6, true)⟩
abbrev q9 : Oper := ⟨some 25, .fieldAddr 33 (.tmp 2) 1, 0, "l15_agree.go:70", #[⟨6, .guard⟩], some (6, true)⟩
abbrev q10 : Oper := ⟨some 26, .load 30 (.tmp 25), 30, "l15_agree.go:70", #[⟨8, .data⟩, ⟨6, .guard⟩], some (6, true)⟩
abbrev q11 : Oper := ⟨some 27, .move (.tmp 7), 3, "l15_agree.go:70", #[⟨6, .guard⟩], some (6, true)⟩
abbrev q12 : Oper := ⟨some 28, .indexAddr 30 (.tmp 26) (.tmp 27), 0, "l15_agree.go:70", #[⟨9, .data⟩, ⟨10, .data⟩, ⟨6, .guard⟩], some (6, true)⟩
abbrev q13 : Oper := ⟨some 29, .load 57 (.tmp 28), 57, "l15_agree.go:70", #[⟨11, .data⟩, ⟨6, .guard⟩], some (6, true)⟩
abbrev q14 : Oper := ⟨some 30, .call ⟨.value (.func 74), #[.tmp 24, .tmp 29], #[33, 57]⟩, 4, "l15_agree.go:70", #[⟨7, .data⟩, ⟨12, .data⟩, ⟨6, .chain⟩, ⟨6, .guard⟩], some (6, true)⟩
abbrev q15 : Oper := ⟨some 31, .pick (.tmp 23) (.tmp 30) (.const (.bool false)), 4, "l15_agree.go:70", #[⟨6, .data⟩, ⟨13, .data⟩], none⟩

theorem told_no {nb : Nat} {ls : List LK} {cs : List Int} {k : Nat} {z : Int} (h : cs[k]? = some z) (h0 : toldOne nb ls z = none) : told nb ls (cs.take (k + 1)) = told nb ls (cs.take k) := by
 unfold told
 rw [List.take_add_one, h, List.filterMap_append]
 simp [h0]
theorem told_yes {nb : Nat} {ls : List LK} {cs : List Int} {k : Nat} {z : Int} {x : LK} (h : cs[k]? = some z) (h0 : toldOne nb ls z = some x) : told nb ls (cs.take (k + 1)) = told nb ls (cs.take k) ++ [x] := by
 unfold told
 rw [List.take_add_one, h, List.filterMap_append]
 simp [h0]
theorem link_no {ls : List LK} {ln : Nat} {z : Int} (h : inB ln z = false) (hs : ls.length = ln) : linkAt ls z = none := by
 unfold linkAt
 split
 ·rw [List.getElem?_eq_none]
  have h1 : ¬ inB ln z = true := by rw [h]; simp
  rw [inB_iff] at h1
  omega
 ·rfl
theorem told_len (nb : Nat) (ls : List LK) (cs : List Int) : (told nb ls cs).length ≤ cs.length := List.length_filterMap_le _ _

theorem compact_own {w : World} {base n : Nat} {v : Value} {zs : List Int} (hn : zs.length = n) (h : w.ownsRow base 3 1 v n (zs.map encZ)) :
  Calls Try.prog 72 #[v] w fun e w' => ∃ ao cap, e = .returned (.slice ao (compact zs).length cap) ∧ GRow intF w' ao (compact zs).length cap (compact zs) ∧ (∀ W0, Below base W0 w → Below base W0 w') := by
 subst hn
 obtain ⟨-, ⟨rfl, h0⟩ | ⟨g, cap, cur, rfl, hb, hg, r1, r2, r3, r4⟩⟩ := h
 ·have hz : zs = [] := List.eq_nil_of_length_eq_zero h0
  subst hz
  refine (Try.slices_Compact_int_empty none 0 w).mono ?_
  rintro e w' ⟨rfl, rfl⟩
  exact ⟨none, 0, rfl, grow_nil intF _, fun _ hW => hW⟩
 ·have hH : Go.Sort.Holds (Value.int .i64) w g 0 zs.toArray := holds_of_block_i hg (by simpa using r4)
  refine (Try.slices_Compact_int g 0 cap zs w hH (by unfold maxLen at r2; omega) r1).mono ?_
  rintro e w' ⟨rfl, q, rfl⟩
  have hcl := compact_len zs
  have hH2 := Go.Sort.holds_putRow (Value.int .i64) (Go.Sort.ahead w q) g 0 zs.toArray (compact zs ++ List.replicate (zs.length - (compact zs).length) 0).toArray (Go.Sort.holds_ahead _ _ _ _ _ _ hH) (by simp; omega)
  have hgr : w.grownBy (Go.Sort.putRow (Value.int .i64) (Go.Sort.ahead w q) g 0 (compact zs ++ List.replicate (zs.length - (compact zs).length) 0).toArray) (some g) := ⟨rfl, rfl, rfl, by simp [Go.Sort.putRow, Go.Sort.mapBlock, Go.Sort.ahead], fun k hk hne => by
   have : g ≠ k := fun e => hne (by rw [e])
   simp [Go.Sort.putRow, Go.Sort.mapBlock, Go.Sort.ahead, Array.getElem?_modify, this]⟩
  refine ⟨some ⟨g, 0, none⟩, cap, rfl, ⟨rfl, by omega, r2, (by intro h; cases h), .inr ⟨g, 0, rfl, fun i x hx j v hv => ?_⟩⟩, fun W0 hW => hW.grown hgr (Nat.le_of_lt (Nat.lt_of_le_of_lt hb (Array.getElem?_eq_some_iff.1 hg).1)) (fun k e => by cases e; exact hb)⟩
  have hi : i < (compact zs).length := (List.getElem?_eq_some_iff.1 hx).1
  obtain ⟨hc, -⟩ := hH2 i (by simp; omega)
  have hj : j = 0 := by
   have := (List.getElem?_eq_some_iff.1 hv).1
   simp [intF] at this
   omega
  subst hj
  have hv : v = .int .i64 x := by simpa [intF] using hv.symm
  subst hv
  have e1 : ((compact zs ++ List.replicate (zs.length - (compact zs).length) 0).toArray)[i]! = x := by
   have hx' : (compact zs)[i] = x := by rw [List.getElem?_eq_getElem hi] at hx; simpa using hx
   simp [hi, hx', List.getElem?_append_left hi]
  rw [e1] at hc
  simpa [intF] using hc

set_option maxRecDepth 100000 in
set_option maxHeartbeats 8000000 in
theorem linksTold_any (N : NV) (la : Option Addr) (n c : Nat) (l : List Int) (w : World) (h : NetRow w N) (hl : GRow intF w la n c l) (hn : n ≤ 1048576) :
  Calls Try.prog 46 #[.agg #[.slice N.ba N.bn N.bc, .slice N.la N.ln N.lc, .slice N.sa N.sn N.sc], .slice la n c] w fun e w' => ∃ (cs : List Int) (ao : Option Addr) (cap : Nat), (∀ k, k ∈ cs ↔ k ∈ l) ∧ cs.length ≤ n ∧ e = .returned (.slice ao (told N.bn N.ls cs).length cap) ∧ w'.ownsRow w.heap.size 57 4 (.slice ao (told N.bn N.ls cs).length cap) (told N.bn N.ls cs).length (linkF.all (told N.bn N.ls cs)) ∧ Below w.heap.size w w' := by
 have HLL : Hid (N.ln ≤ 9223372036854775807) := hide (by have := Nat.le_trans h.l.le h.l.top; unfold maxLen at this; omega)
 have HSL := hide h.l.size
 have HSN := hide hl.size
 generalize hw1 : w.alloc (Obj.cells #[.slice N.ba N.bn N.bc, .slice N.la N.ln N.lc, .slice N.sa N.sn N.sc] 33) = w1
 generalize hw2 : w1.alloc (Obj.cells #[.slice la n c] 37) = w2
 have b01 : Below w.heap.size w w1 := by rw [← hw1]; exact below_one _ _
 have b12 : Below w1.heap.size w1 w2 := by rw [← hw2]; exact below_one _ _
 have b02 := gr_trans b01 b12
 have k1 : w2.heap[w.heap.size]? = some (.cells #[.slice N.ba N.bn N.bc, .slice N.la N.ln N.lc, .slice N.sa N.sn N.sc] 33) := kept_block (by rw [← hw1]; exact block_last _ _) b12
 have k2 : w2.heap[w1.heap.size]? = some (.cells #[.slice la n c] 37) := by rw [← hw2]; exact block_last _ _
 have hc2 : w2.cell? ⟨w1.heap.size, 0, none⟩ = some (.slice la n c) := by simp [World.cell?, k2]
 have hl2 := hl.below b02
 have hI : IntsAt w2 (.slice la n c) l := by
  have hsz := hl2.size
  rcases hl2.cell with h0 | ⟨b, off, rfl, hcell⟩
  ·have hz : l = [] := List.eq_nil_of_length_eq_zero (by omega)
   subst hz
   subst h0
   exact .inl ⟨la, c, rfl, rfl⟩
  ·refine .inr ⟨b, off, c, by rw [hsz], fun j hj => ?_⟩
   have := hcell j l[j] (List.getElem?_eq_getElem hj) 0 _ rfl
   have hcl : w2.cell? ⟨b, off + j, none⟩ = some (.int .i64 l[j]) := by simpa [intF] using this
   exact ⟨block_lt hcl, by rw [hcl, List.getElem?_eq_getElem hj]; rfl⟩
 have hB1 : w1.heap.size < w2.heap.size := (Array.getElem?_eq_some_iff.1 k2).1
 have hn16 : l.length ≤ 16777216 := by have := hl.size; omega
 go_enter Try.func46, Try.ntmps46
 go_wp2_with fail
 refine (values_any la n c _).mono ?_
 rintro e w2' ⟨rfl, rfl⟩
 rw [hw2]
 go_wp2_with fail
 refine (sortedVals_any (.slice la n c) l w1.heap.size w2 hn16 hB1 hc2 hI).mono ?_
 rintro e w3 ⟨v3, rfl, ow3, -, hb3⟩
 clear hw1 hw2 b01 b12 k2 hc2 hI hl2 hB1 hn16
 go_wp2_with fail
 refine (compact_own (by rw [List.length_mergeSort]) ow3).mono ?_
 rintro e w5 ⟨ca, cc, rfl, hC, hbb⟩
 have b0 := gr_trans b02 (hbb _ hb3)
 have k5 := kept_block k1 (hbb _ hb3)
 have HK : Hid (w.heap.size < w5.heap.size) := hide (Array.getElem?_eq_some_iff.1 k5).1
 have HCM : Hid (∀ k, k ∈ compact (l.mergeSort (fun x y => decide (x ≤ y))) ↔ k ∈ l) := hide (fun k => compact_mem.trans List.mem_mergeSort)
 have HCN : Hid ((compact (l.mergeSort (fun x y => decide (x ≤ y)))).length ≤ n) := hide (by have := compact_len (l.mergeSort (fun x y => decide (x ≤ y))); rw [List.length_mergeSort] at this; have := HSN.out; omega)
 clear hbb hb3 ow3 k1 b02
 generalize compact (l.mergeSort (fun x y => decide (x ≤ y))) = cs at hC HCM HCN
 have HCL : Hid (cs.length ≤ 1048576) := hide (by have := HCN.out; omega)
 go_wp2_with fail
 go_loopw [5, 7, 13] (fun p u i wr => ∃ (k : Nat) (ao : Option Addr) (cap : Nat), k ≤ cs.length ∧ i = .int .i64 k ∧ p = .slice ao (told N.bn N.ls (cs.take k)).length cap ∧ wr.ownsRow w5.heap.size 57 4 (.slice ao (told N.bn N.ls (cs.take k)).length cap) (told N.bn N.ls (cs.take k)).length (linkF.all (told N.bn N.ls (cs.take k))) ∧ Below w5.heap.size w5 wr) (fun _ _ i _ => cs.length - (intOf i).toNat)
 case atStart => exact ⟨0, none, 0, Nat.zero_le _, rfl, rfl, World.ownsRow_nil _ _ _ _, Below.refl _ _⟩
 case round =>
  obtain ⟨k, ao, cap, hk, rfl, rfl, ow, hb⟩ := hrel
  have hcl := HCL.out
  have kP := kept_block k5 hb
  obtain ⟨x0, x1, x2⟩ := cells3m kP
  by_cases hlt : k < cs.length
  ·have i1 : (0 : Int) ≤ (k : Int) := by omega
   have i2 : (k : Int) < (cs.length : Int) := by omega
   obtain ⟨z, b, off, hz, rfl, c0⟩ := ints_at (hC.below hb) k hlt
   have HZ2 := hide hz
   clear hz
   have vv : Below wr.heap.size wr wr.drew := gr_drew (Below.refl _ _)
   have hww : IntKind.i64.wrap ((N.ln : Int) - 1) = (N.ln : Int) - 1 := by rw [IntKind.wrap_i64]; have := HLL.out; omega
   cases hB : inB N.ln z
   ·have HBB : Hid ((decide (0 ≤ z) && decide (z ≤ (N.ln : Int) - 1)) = false) := hide hB
    have HTN : Hid (told N.bn N.ls (cs.take (k + 1)) = told N.bn N.ls (cs.take k)) := hide (told_no HZ2.out (by unfold toldOne; rw [link_no hB HSL.out]))
    clear hB
    go_upto_region 5 with fail
    refine wp_region_held_drew (S := (fun W => (W.cell? ⟨w.heap.size, 0, none⟩ = some (.slice N.ba N.bn N.bc) ∧ W.cell? ⟨w.heap.size, 1, none⟩ = some (.slice N.la N.ln N.lc) ∧ W.cell? ⟨w.heap.size, 2, none⟩ = some (.slice N.sa N.sn N.sc)))) (by kernel_rfl) ((cells3m (kept_block kP vv))) (fun hHeld => ?_)
    refine kK 0 q1 ?_
    refine kK 1 q2 ?_
    refine kK 2 q3 ?_
    refine kK 3 q4 ?_
    refine kK 4 q5 ?_
    refine kR 5 q6 (fun K hK => ?_)
    go_simp
    clear hHeld
    refine (implWithin_any z 0 ((N.ln : Int) - 1) _).mono ?_
    rintro e wz ⟨rfl, ez⟩
    obtain rfl := ez.symm
    rw [HBB.out]
    go_wp2_with fail
    refine hK.out _ _ ((cells3m (kept_block kP vv))) (fun hHeld => ?_)
    clear hK K
    try simp only [Act.put, lA, lB, lC]
    refine kK 6 q7 ?_
    refine kN 7 q8 ?_
    refine kN 8 q9 ?_
    refine kN 9 q10 ?_
    refine kN 10 q11 ?_
    refine kN 11 q12 ?_
    refine kN 12 q13 ?_
    refine kN 13 q14 ?_
    refine kK 14 q15 ?_
    refine wpAnyH_done (by kernel_rfl) ?_ _
    have hb := gr_trans hb vv
    have ow := gown_below ow vv
    clear hHeld vv
    generalize hwd : wr.drew = wd at *
    have HOW := hide ow
    have HB := hide hb
    clear ow hb kP x0 x1 x2
    go_wp2
    go_roundw
    case rel => exact ⟨k + 1, ao, cap, by omega, by go_num, by rw [HTN.out], by rw [HTN.out]; exact HOW.out, HB.out⟩
    case measure => simp [intOf]; omega
   ·obtain ⟨m, rfl⟩ : ∃ m : Nat, z = (m : Int) := ⟨z.toNat, by have := inB_iff.1 hB; omega⟩
    have hm : m < N.ln := by have := inB_iff.1 hB; omega
    obtain ⟨x, lb, lo, hx, hla, -⟩ := link_at (h.l.below (gr_trans b0 hb)) m hm
    have HBB : Hid ((decide (0 ≤ (m : Int)) && decide ((m : Int) ≤ (N.ln : Int) - 1)) = true) := hide hB
    have HLK : Hid (linkAt N.ls (m : Int) = some x) := hide (by unfold linkAt; rw [if_pos (by omega), Int.toNat_natCast, hx])
    have HX := hide hx
    have HLA := hide hla
    have HSX : Hid (∀ W, Below wr.heap.size wr W → (W.cell? ⟨w.heap.size, 0, none⟩ = some (.slice N.ba N.bn N.bc) ∧ W.cell? ⟨w.heap.size, 1, none⟩ = some (.slice (some ⟨lb, lo, none⟩) N.ln N.lc) ∧ W.cell? ⟨w.heap.size, 2, none⟩ = some (.slice N.sa N.sn N.sc)) ∧ (W.cell? ⟨lb, lo + m * 4, none⟩ = some (.int .i64 x.a) ∧ W.cell? ⟨lb, lo + m * 4 + 1, none⟩ = some (.int .i64 x.p) ∧ W.cell? ⟨lb, lo + m * 4 + 2, none⟩ = some (.int .i64 x.b) ∧ W.cell? ⟨lb, lo + m * 4 + 3, none⟩ = some (.int .i64 x.q))) := hide (fun W hW => by
     have kW := kept_block kP hW
     obtain ⟨u0, u1, u2⟩ := cells3m kW
     rw [HLA.out] at u1
     obtain ⟨x', lb', lo', hx', hla', a0, a1, a2, a3⟩ := link_at (h.l.below (gr_trans (gr_trans b0 hb) hW)) m hm
     rw [HX.out] at hx'
     cases hx'
     rw [HLA.out] at hla'
     cases hla'
     exact ⟨⟨u0, u1, u2⟩, a0, a1, a2, a3⟩)
    have i3 : (0 : Int) ≤ (m : Int) := by omega
    have i4 : (m : Int) < (N.ln : Int) := by omega
    clear hB hx hla x0 x1 x2
    go_upto_region 5 with fail
    refine wp_region_held_drew (S := (fun W => (W.cell? ⟨w.heap.size, 0, none⟩ = some (.slice N.ba N.bn N.bc) ∧ W.cell? ⟨w.heap.size, 1, none⟩ = some (.slice (some ⟨lb, lo, none⟩) N.ln N.lc) ∧ W.cell? ⟨w.heap.size, 2, none⟩ = some (.slice N.sa N.sn N.sc)) ∧ (W.cell? ⟨lb, lo + m * 4, none⟩ = some (.int .i64 x.a) ∧ W.cell? ⟨lb, lo + m * 4 + 1, none⟩ = some (.int .i64 x.p) ∧ W.cell? ⟨lb, lo + m * 4 + 2, none⟩ = some (.int .i64 x.b) ∧ W.cell? ⟨lb, lo + m * 4 + 3, none⟩ = some (.int .i64 x.q)))) (by kernel_rfl) ((by first | exact HSS.out | exact HSX.out _ vv)) (fun hHeld => ?_)
    refine kK 0 q1 ?_
    refine kK 1 q2 ?_
    refine kK 2 q3 ?_
    refine kK 3 q4 ?_
    refine kK 4 q5 ?_
    refine kR 5 q6 (fun K hK => ?_)
    go_simp
    clear hHeld
    refine (implWithin_any (m : Int) 0 ((N.ln : Int) - 1) _).mono ?_
    rintro e wz ⟨rfl, ez⟩
    obtain rfl := ez.symm
    rw [HBB.out]
    go_wp2_with fail
    refine hK.out _ _ ((by first | exact HSS.out | exact HSX.out _ vv)) (fun hHeld => ?_)
    clear hK K
    try simp only [Act.put, lA, lB, lC]
    refine kK 6 q7 ?_
    refine kK 7 q8 ?_
    refine kK 8 q9 ?_
    refine kK 9 q10 ?_
    refine kK 10 q11 ?_
    refine kK 11 q12 ?_
    refine kK 12 q13 ?_
    refine kR 13 q14 (fun K hK => ?_)
    go_simp
    clear hHeld
    have hbd := gr_trans hb vv
    rw [← HLA.out]
    refine (endsOn_any N x _ (h.below (gr_trans b0 hbd))).mono ?_
    rintro e w6 ⟨rfl, hb6⟩
    have hb := gr_trans hbd hb6
    have ow := gown_below (gown_below ow vv) hb6
    have kP := kept_block (kept_block kP vv) hb6
    have HSS := hide (HSX.out w6 (gr_trans vv hb6))
    clear hbd hb6 vv
    obtain ⟨x0, x1, x2⟩ := cells3m kP
    go_wp2_with fail
    refine hK.out _ _ ((by first | exact HSS.out | exact HSX.out _ vv)) (fun hHeld => ?_)
    clear hK K
    try simp only [Act.put, lA, lB, lC]
    refine kK 14 q15 ?_
    refine wpAnyH_done (by kernel_rfl) ?_ _
    clear hHeld
    generalize hQ : (inB N.bn x.a && inB N.bn x.b) = Q
    have HQ := hide hQ
    clear hQ
    generalize hwd : w6 = wd at *
    cases Q
    ·have HTN : Hid (told N.bn N.ls (cs.take (k + 1)) = told N.bn N.ls (cs.take k)) := hide (told_no HZ2.out (by unfold toldOne; rw [HLK.out]; dsimp only; rw [HQ.out]; rfl))
     have HOW := hide ow
     have HB := hide hb
     clear ow hb kP x0 x1 x2
     go_wp2
     go_roundw
     case rel => exact ⟨k + 1, ao, cap, by omega, by go_num, by rw [HTN.out], by rw [HTN.out]; exact HOW.out, HB.out⟩
     case measure => simp [intOf]; omega
    ·have HTN : Hid (told N.bn N.ls (cs.take (k + 1)) = told N.bn N.ls (cs.take k) ++ [x]) := hide (told_yes HZ2.out (by unfold toldOne; rw [HLK.out]; dsimp only; rw [HQ.out]; rfl))
     have HTL : Hid ((told N.bn N.ls (cs.take (k + 1))).length = (told N.bn N.ls (cs.take k)).length + 1) := hide (by rw [HTN.out, List.length_append]; rfl)
     have HLQ := hide (Nat.le_trans (told_len N.bn N.ls (cs.take k)) (by rw [List.length_take]; exact Nat.min_le_left _ _))
     obtain ⟨x', lb', lo', hx', hla', a0, a1, a2, a3⟩ := link_at (h.l.below (gr_trans b0 hb)) m hm
     rw [HX.out] at hx'
     cases hx'
     rw [HLA.out] at hla'
     cases hla'
     generalize hwa : wd.alloc (Obj.cells #[.int .i64 x.a, .int .i64 x.p, .int .i64 x.b, .int .i64 x.q] 57) = wa
     have bra : Below wd.heap.size wd wa := by rw [← hwa]; exact below_one _ _
     have ka : wa.heap[wd.heap.size]? = some (.cells #[.int .i64 x.a, .int .i64 x.p, .int .i64 x.b, .int .i64 x.q] 57) := by rw [← hwa]; exact block_last _ _
     have gone : GRow linkF wa (some ⟨wd.heap.size, 0, none⟩) 1 1 [x] := grow_own (F := linkF) (own_one linkF (x := x) (base := 0) ka rfl (Nat.zero_le _))
     have hI2 := gown_below ow bra
     have HBA := hide (gr_trans hb bra)
     rw [HLA.out] at x1
     clear ow hb kP
     go_wp2_with (at_builtin; refine wpList_append_flat (F := linkF) _ rfl _ _ 30 57 rfl w5.heap.size Try.underlying30 linkInfo rfl (by decide) _ (told N.bn N.ls (cs.take k)).length (told N.bn N.ls (cs.take k)) rfl hI2 (some ⟨wd.heap.size, 0, none⟩) 1 1 [x] rfl gone (by have := HLQ.out; omega) HBA.out.size ?_)
     intro a7 c7 w7 how hr hgr hb7
     rw [← HTN.out] at how
     have HOW := hide how
     have HB := hide (HBA.out.trans hb7)
     clear how hr hgr hb7 hI2 gone ka hwa bra x0 x1 x2 a0 a1 a2 a3
     go_wp2
     go_roundw
     case rel => exact ⟨k + 1, a7, c7, by omega, by go_num, by rw [HTL.out], by rw [HTL.out]; exact HOW.out, HB.out⟩
     case measure => simp [intOf]; omega
  ·have hkn : k = cs.length := by omega
   subst hkn
   have HO := hide ow
   have HB := hide hb
   clear ow hb kP x0 x1 x2
   go_wp2
   go_ret
   refine ⟨cs, ao, cap, HCM.out, HCN.out, by first | rfl | (rw [List.take_length]; rfl), ?_, gr_trans b0 HB.out⟩
   have := HO.out
   rw [List.take_length] at this
   exact gown_lt this (Nat.le_of_lt HK.out)

end

section
open Go.RowKit Go.Maps

abbrev q16 : Oper := ⟨some 31, .load 57 (.tmp 8), 57, "l15_agree.go:87", #[], none⟩
abbrev q17 : Oper := ⟨some 32, .move (.tmp 6), 37, "l15_agree.go:87", #[], none⟩
abbrev q18 : Oper := ⟨some 33, .indexAddr 37 (.tmp 32) (.const (.int .i64 0)), 0, "l15_agree.go:87", #[⟨1, .data⟩], none⟩
abbrev q19 : Oper := ⟨some 34, .load 3 (.tmp 33), 3, "l15_agree.go:87", #[⟨2, .data⟩], none⟩
abbrev q20 : Oper := ⟨some 35, .call ⟨.value (.func 71), #[.tmp 31, .tmp 34], #[57, 3]⟩, 125, "l15_agree.go:87", #[⟨0, .data⟩, ⟨3, .data⟩], none⟩
abbrev q21 : Oper := ⟨some 30, .move (.tmp 35), 125, "l15_agree.go:87", #[⟨4, .data⟩], none⟩
abbrev q22 : Oper := ⟨some 36, .extract (.tmp 30) 0, 3, "l15_agree.go:87", #[⟨5, .data⟩], none⟩
abbrev q23 : Oper := ⟨some 37, .extract (.tmp 30) 1, 4, "l15_agree.go:87", #[⟨5, .data⟩, { on := 8, ground := Ground.gcOnly Departure.lateStores }], none⟩
abbrev q24 : Oper := ⟨some 9, .assign (.tmp 36), 3, "l15_agree.go:87", #[⟨6, .data⟩, ⟨4, .chain⟩, ⟨0, .phase⟩, ⟨1, .phase⟩, ⟨2, .phase⟩, ⟨3, .phase⟩, ⟨4, .phase⟩, ⟨5, .phase⟩, ⟨6, .phase⟩, { on := 7, ground := Ground.textOnly Departure.lateStores }], none⟩
abbrev q25 : Oper := ⟨some 10, .assign (.tmp 37), 4, "l15_agree.go:87", #[⟨7, .data⟩, ⟨8, .chain⟩, ⟨0, .phase⟩, ⟨1, .phase⟩, ⟨2, .phase⟩, ⟨3, .phase⟩, ⟨4, .phase⟩, ⟨5, .phase⟩, ⟨6, .phase⟩, ⟨7, .phase⟩, ⟨8, .phase⟩], none⟩

theorem keyI : Keyed Try.prog 3 := int_keyed Try.underlying3
theorem zeroE (w : World) : (zeroValue 77).run Try.prog w = .ok (.agg #[]) w := by kernel_rfl
theorem wf_ofI {n : Int} (h : -9223372036854775808 ≤ n ∧ n ≤ 9223372036854775807) : (Lit.int .i64 n).wf = true := by
 simp [Lit.wf, IntKind.min, IntKind.max, IntKind.bits, IntKind.signed]
 omega
theorem ownM_below {P : Program} {k : TypeId} {R : Value → Option (DataW Unit × List MemPlace)} {w w' : World} {b n : Nat} {D : DataW Unit} (h : w.ownsMap P k R b n D) (hb : Below w.heap.size w w') : w'.ownsMap P k R b n D := by
 have hlt := h.lt
 obtain ⟨es, clock, h1, r⟩ := h
 exact ⟨es, clock, (hb.block b hlt).trans h1, r⟩
theorem q_not_map {P : Program} {k : TypeId} {R : Value → Option (DataW Unit × List MemPlace)} {w : World} {b n base : Nat} {D : DataW Unit} {T : TypeId} {v : Value} {l : List Int} (hq : QOwn w base T v l) (h : w.ownsMap P k R b n D) : ∀ j, v.ownBlock = some j → some b ≠ some j := by
 obtain ⟨es, clock, h1, -⟩ := h
 obtain ⟨g, off, cap, cur, rfl, -, hg, -⟩ := hq
 intro j hj e
 simp only [Value.ownBlock, Option.some.injEq] at hj
 cases e
 subst hj
 rw [hg] at h1
 cases h1

theorem wpList_insert_own {P : Program} (w : World) {ops : Array Oper} {rest : List Oper} {o : Oper} {a : Act} {Q : Exit → Act → World → Prop} (hg : o.guard = none) (m x v : Operand) (t : TypeId) (hop : o.op = Op.insert t m x v)
  (k e : TypeId) (K : Keyed P k) (ht : P.underlying t = some (.map k e)) (R : Value → Option (DataW Unit × List MemPlace)) (b n : Nat) (D : DataW Unit)
  (hm : a.eval m = .map (some b)) (hown : w.ownsMap P k R b n D) (hn : n < maxLen) (key val : Value) (kl : Lit) (hx : a.eval x = key) (hv : a.eval v = val) (hkey : keyOf P k key = some kl)
  (d : DataW Unit) (ps : List MemPlace) (hval : R val = some (d, ps))
  (hK : ∀ w', w'.ownsMap P k R b (n + 1) (D.put kl d) → w.mapTurned w' b → wpList P ops Q rest (a.put o.dst undef) w') :
  wpList P ops Q (o :: rest) a w := by
 refine wpList_plain hg fun K' hK' => ?_
 obtain ⟨w', hrun, r1, r2⟩ := hown.store K ht hn hkey hval
 unfold Oper.wp
 simp [execOp, hop, hm, hx, hv, hrun, Result.andThen]
 exact hK' _ _ (hK w' r1 r2)

set_option maxRecDepth 100000 in
set_option maxHeartbeats 8000000 in
theorem reached_any (T : List LK) (nb : Nat) (b : Int) (ta : Option Addr) (tn tc : Nat) (w : World) (hT : GRow linkF w ta tn tc T) (hT2 : ∀ x ∈ T, inB nb x.a = true ∧ inB nb x.b = true) (hb0 : inB nb b = true) (hnb : nb ≤ 1048576) :
  Calls Try.prog 45 #[.int .i64 b, .slice ta tn tc] w fun e w' => ∃ S : List Int, e = .returned (.map (some w.heap.size)) ∧ RI nb T b S S.length ∧ w'.ownsMap Try.prog 3 (unitElem (H := Unit)) w.heap.size (S).length (setI (S)) ∧ Below w.heap.size w w' := by
 have hmm := @run_makeMap Try.prog
 have hTL := hT.size
 have HTN : Hid (tn ≤ 9223372036854775807) := hide (by have := Nat.le_trans hT.le hT.top; unfold maxLen at this; omega)
 have hbR := inB_iff.1 hb0
 have hwb : (Lit.int .i64 b).wf = true := wf_ofI ⟨by omega, by omega⟩
 have hkb : keyOf Try.prog 3 (.int .i64 b) = some (.int .i64 b) := keyOf_int_mk Try.underlying3 hwb
 have hm0 := World.ownsMap_made w Try.prog 3 (unitElem (H := Unit))
 have hb1 := below_one w (.map #[] 0)
 go_enter Try.func45, Try.ntmps45
 go_wp2_with (refine wpList_insert_own _ rfl _ _ _ 76 rfl 3 77 keyI Try.underlying76 (unitElem (H := Unit)) w.heap.size 0 (.map []) rfl hm0 (by unfold maxLen; omega) _ _ _ rfl rfl hkb _ [] unitElem_mk ?_; intro w2 hown2 htu)
 have hown2 : w2.ownsMap Try.prog 3 (unitElem (H := Unit)) w.heap.size ([b]).length (setI ([b])) := hown2
 have hgr := htu.grown
 have s2 := hgr.size
 rw [World.size_alloc] at s2
 have hb2 : Below w.heap.size w w2 := hb1.grown hgr hb1.size (fun k e => by cases e; exact Nat.le_refl _)
 generalize hw3 : w2.alloc (Obj.cells #[.int .i64 b] 3) = w3
 have b23 : Below w2.heap.size w2 w3 := by rw [← hw3]; exact below_one _ _
 have k3 : w3.heap[w2.heap.size]? = some (.cells #[.int .i64 b] 3) := by rw [← hw3]; exact block_last _ _
 have q3 := QOwn.made (base := w.heap.size) k3 hb2.size
 have o3 := ownM_below hown2 b23
 have b03 := gr_trans hb2 b23
 clear hm0 hmm hkb hwb hb1 htu hgr s2 hw3 k3 hown2 hb2 b23
 go_loopg [6, 8, 9, 10, 11, 12] nb (fun gk v u8 u9 u10 u11 u12 wr => ∃ (p : Nat) (S : List Int), nb - p ≤ gk ∧ RI nb T b S p ∧ QOwn wr w.heap.size 3 v (S.drop p) ∧ wr.ownsMap Try.prog 3 (unitElem (H := Unit)) w.heap.size (S).length (setI (S)) ∧ Below w.heap.size w wr)
 case atStart => exact ⟨0, [b], by omega, RI.start hb0, q3, o3, b03⟩
 case round =>
  obtain ⟨p, S, hg, hR, hq, hown, hb⟩ := hrel
  clear q3 o3 b03
  by_cases hp : p < S.length
  ·obtain ⟨z, hz⟩ : ∃ z, S[p]? = some z := ⟨_, List.getElem?_eq_getElem hp⟩
   have hJ0 := hR.begin hz
   have hlen0 := hR.good.len
   have hdr : S.drop p = z :: S.drop (p + 1) := by
    rw [List.drop_eq_getElem_cons hp]
    rw [List.getElem?_eq_getElem hp] at hz
    cases hz
    rfl
   have HDR := hide hdr
   rw [hdr] at hq
   obtain ⟨g, off, cap, rfl, hcl, hcm, hcc⟩ := hq.head
   rw [← HDR.out] at hq
   generalize (S.drop (p + 1)).length = n0 at hq hcl
   have i0 : (0 : Int) < ((n0 + 1 : Nat) : Int) := by omega
   clear hdr hR hz
   go_wp2_with fail
   go_loopw [6, 8, 9, 10, 11, 12, 26] (fun v u8 u9 u10 u11 u12 i wr => ∃ (j : Nat) (S : List Int), j ≤ tn ∧ i = .int .i64 j ∧ RJ nb T b S p z j ∧ QOwn wr w.heap.size 3 v (S.drop p) ∧ wr.ownsMap Try.prog 3 (unitElem (H := Unit)) w.heap.size (S).length (setI (S)) ∧ Below w.heap.size w wr) (fun _ _ _ _ _ _ i _ => tn - (Go.RowKit.intOf i).toNat)
   case atStart => exact ⟨0, S, Nat.zero_le _, rfl, hJ0, hq, hown, hb⟩
   case round =>
    clear hJ0 hq hown hb hcl hcm hcc i0 HDR hp hlen0
    obtain ⟨j, S, hj, rfl, hJ, hq, hown, hb⟩ := hrel
    have hp : p < S.length := (List.getElem?_eq_some_iff.1 hJ.at').1
    have hdr : S.drop p = z :: S.drop (p + 1) := by
     have hz := hJ.at'
     rw [List.drop_eq_getElem_cons hp]
     rw [List.getElem?_eq_getElem hp] at hz
     cases hz
     rfl
    have HDR := hide hdr
    rw [hdr] at hq
    obtain ⟨g, off, cap, rfl, hcl, hcm, hcc⟩ := hq.head
    by_cases hlt : j < tn
    ·rw [← HDR.out] at hq
     generalize (S.drop (p + 1)).length = n1 at hq hcl ⊢
     obtain ⟨x, lb, lo, hx, hla, a0, a1, a2, a3⟩ := link_at (hT.below hb) j hlt
     have hxT := hx
     have HLA := hide hla
     have i1 : (0 : Int) ≤ (j : Int) := by omega
     have i2 : (j : Int) < (tn : Int) := by omega
     have htn := HTN.out
     generalize hwl : wr.alloc (Obj.cells #[.int .i64 x.a, .int .i64 x.p, .int .i64 x.b, .int .i64 x.q] 57) = wl
     have brl : Below wr.heap.size wr wl := by rw [← hwl]; exact below_one _ _
     have kL : wl.heap[wr.heap.size]? = some (.cells #[.int .i64 x.a, .int .i64 x.p, .int .i64 x.b, .int .i64 x.q] 57) := by rw [← hwl]; exact block_last _ _
     have hq := hq.below brl
     have hown := ownM_below hown brl
     have hb := gr_trans hb brl
     have HSX : Hid (∀ W, Below wl.heap.size wl W → (W.cell? ⟨wr.heap.size, 0, none⟩ = some (.int .i64 x.a) ∧ W.cell? ⟨wr.heap.size, 1, none⟩ = some (.int .i64 x.p) ∧ W.cell? ⟨wr.heap.size, 2, none⟩ = some (.int .i64 x.b) ∧ W.cell? ⟨wr.heap.size, 3, none⟩ = some (.int .i64 x.q)) ∧ W.cell? ⟨g, off, none⟩ = some (.int .i64 z)) := hide (fun W hW => ⟨cells4n (kept_block kL hW), (hW.cell (block_lt ((brl.cell (block_lt hcc)).trans hcc))).trans ((brl.cell (block_lt hcc)).trans hcc)⟩)
     have vv : Below wl.heap.size wl wl.drew := gr_drew (Below.refl _ _)
     clear hla hdr hcl hcm
     rw [HLA.out]
     go_upto_region 8 with fail
     clear a0 a1 a2 a3 hwl kL hcc brl
     cases hA : across x z with
     | none =>
      have cA : ∀ W : World, Calls Try.prog 71 #[.agg #[.int .i64 x.a, .int .i64 x.p, .int .i64 x.b, .int .i64 x.q], .int .i64 z] W fun e w2 => e = .returned (acrossV (none)) ∧ Below W.heap.size W w2 := fun W => by have := across_any x z W; rw [hA] at this; exact this
      refine wp_region_held_drew (S := (fun W => (W.cell? ⟨wr.heap.size, 0, none⟩ = some (.int .i64 x.a) ∧ W.cell? ⟨wr.heap.size, 1, none⟩ = some (.int .i64 x.p) ∧ W.cell? ⟨wr.heap.size, 2, none⟩ = some (.int .i64 x.b) ∧ W.cell? ⟨wr.heap.size, 3, none⟩ = some (.int .i64 x.q)) ∧ W.cell? ⟨g, off, none⟩ = some (.int .i64 z))) (by kernel_rfl) ((by first | exact HS2.out | exact HSX.out _ vv)) (fun hHeld => ?_)
      refine kK 0 q16 ?_
      refine kK 1 q17 ?_
      refine kK 2 q18 ?_
      refine kK 3 q19 ?_
      refine kR 4 q20 (fun K hK => ?_)
      go_simp
      clear hHeld
      refine (cA _).mono ?_
      rintro e w2 ⟨rfl, hb2⟩
      have hb2 := gr_trans vv hb2
      have HS2 := hide (HSX.out w2 hb2)
      dsimp only [acrossV]
      go_wp2_with fail
      refine hK.out _ _ ((by first | exact HS2.out | exact HSX.out _ vv)) (fun hHeld => ?_)
      clear hK K
      try simp only [Act.put, lA, lB, lC]
      refine kK 5 q21 ?_
      refine kK 6 q22 ?_
      refine kK 7 q23 ?_
      refine kK 8 q24 ?_
      refine kK 9 q25 ?_
      refine wpAnyH_done (by kernel_rfl) ?_ _
      have hq := hq.below hb2
      have hown := ownM_below hown hb2
      have hb := gr_trans hb hb2
      clear hHeld vv hb2 HS2
      generalize w2 = wd at *
      have hwf : (Lit.int .i64 0).wf = true := by decide
      have hkey : keyOf Try.prog 3 (.int .i64 0) = some (.int .i64 0) := keyOf_int_mk Try.underlying3 hwf
      obtain ⟨q, hhas⟩ : ∃ q, Maps.has (setI S) (.int .i64 0) = q := ⟨_, rfl⟩
      have HST : Hid (∀ y, across x z = some y → y ∈ S) := hide (fun y hy => by rw [hA] at hy; cases hy)
      clear hA
      go_wp2_with (at_lookup; refine wpList_lookup_own_unit _ rfl _ _ 76 rfl 3 77 keyI Try.underlying76 (zeroE _) w.heap.size S.length (setI S) rfl hown _ _ rfl hkey ?_; rw [hhas])
      have hq := hq.below (below_one _ (.cells #[] 77))
      have hown := hown.alloc (.cells #[] 77)
      have hb := gr_trans hb (below_one _ (.cells #[] 77))
      have HRJ := hide (hJ.stay hxT (HST.out))
      have HQ := hide hq
      have HOWN := hide hown
      have HB := hide hb
      clear hJ hq hown hb
      go_wp2
      go_roundw
      case rel => exact ⟨j + 1, S, by omega, by go_num, HRJ.out, HQ.out, HOWN.out, HB.out⟩
      case measure => simp [Go.RowKit.intOf]; omega
     | some y =>
      have cA : ∀ W : World, Calls Try.prog 71 #[.agg #[.int .i64 x.a, .int .i64 x.p, .int .i64 x.b, .int .i64 x.q], .int .i64 z] W fun e w2 => e = .returned (acrossV (some y)) ∧ Below W.heap.size W w2 := fun W => by have := across_any x z W; rw [hA] at this; exact this
      refine wp_region_held_drew (S := (fun W => (W.cell? ⟨wr.heap.size, 0, none⟩ = some (.int .i64 x.a) ∧ W.cell? ⟨wr.heap.size, 1, none⟩ = some (.int .i64 x.p) ∧ W.cell? ⟨wr.heap.size, 2, none⟩ = some (.int .i64 x.b) ∧ W.cell? ⟨wr.heap.size, 3, none⟩ = some (.int .i64 x.q)) ∧ W.cell? ⟨g, off, none⟩ = some (.int .i64 z))) (by kernel_rfl) ((by first | exact HS2.out | exact HSX.out _ vv)) (fun hHeld => ?_)
      refine kK 0 q16 ?_
      refine kK 1 q17 ?_
      refine kK 2 q18 ?_
      refine kK 3 q19 ?_
      refine kR 4 q20 (fun K hK => ?_)
      go_simp
      clear hHeld
      refine (cA _).mono ?_
      rintro e w2 ⟨rfl, hb2⟩
      have hb2 := gr_trans vv hb2
      have HS2 := hide (HSX.out w2 hb2)
      dsimp only [acrossV]
      go_wp2_with fail
      refine hK.out _ _ ((by first | exact HS2.out | exact HSX.out _ vv)) (fun hHeld => ?_)
      clear hK K
      try simp only [Act.put, lA, lB, lC]
      refine kK 5 q21 ?_
      refine kK 6 q22 ?_
      refine kK 7 q23 ?_
      refine kK 8 q24 ?_
      refine kK 9 q25 ?_
      refine wpAnyH_done (by kernel_rfl) ?_ _
      have hq := hq.below hb2
      have hown := ownM_below hown hb2
      have hb := gr_trans hb hb2
      clear hHeld vv hb2 HS2
      generalize w2 = wd at *
      have hyB := hT2 x (List.mem_of_getElem? hxT)
      have hyR : 0 ≤ y ∧ y < (nb : Int) := by
       rcases across_in hA with ⟨-, rfl⟩ | ⟨-, rfl⟩
       ·exact inB_iff.1 hyB.2
       ·exact inB_iff.1 hyB.1
      have hwf : (Lit.int .i64 y).wf = true := wf_ofI ⟨by omega, by omega⟩
      have hkey : keyOf Try.prog 3 (.int .i64 y) = some (.int .i64 y) := keyOf_int_mk Try.underlying3 hwf
      cases hC : S.contains y
      ·have hhas : Maps.has (setI S) (.int .i64 y) = false := by rw [has_setI, hC]
       have hnS : y ∉ S := fun h => by rw [← List.contains_iff_mem, hC] at h; cases h
       have HJ2 := hide (hJ.more hT2 hxT hA hnS)
       have hlen := hJ.ri.good.len
       have hpl : p < S.length := (List.getElem?_eq_some_iff.1 hJ.at').1
       have HDR : Hid (S.drop p ++ [y] = (S ++ [y]).drop p) := hide (by rw [List.drop_append_of_le_length (by omega)])
       have HSS : Hid ((S ++ [y]).length = S.length + 1) := hide (by rw [List.length_append]; rfl)
       have HSI : Hid ((setI S).put (.int .i64 y) (.agg []) = setI (S ++ [y])) := hide (setI_snoc S y).symm
       have hqv := q_not_map hq hown
       have hqB := hq.lt
       have HB := hide hb
       have hba := below_one wd (.cells #[] 77)
       have hsz0 := hb.size
       clear hA hC hnS hb
       have hqq : ∀ w6 : World, (wd.alloc (Obj.cells #[] 77)).grownBy w6 (some w.heap.size) → QOwn (w6.alloc (.cells #[.int .i64 y] 3)) w.heap.size 3 (.slice (some ⟨g, off, none⟩) (n1 + 1) cap) (S.drop p) := fun w6 hgr6 => ((hq.below hba).kept hgr6 (fun k e => hqv k e)).below (below_one _ _)
       have hql : (S.drop p).length + 1 ≤ 16777216 := by rw [List.length_drop]; omega
       have hqb : ∀ w6 : World, (wd.alloc (Obj.cells #[] 77)).heap.size ≤ w6.heap.size → w.heap.size ≤ (w6.alloc (.cells #[.int .i64 y] 3)).heap.size := fun w6 hs => by rw [World.size_alloc] at hs ⊢; omega
       have hqc : ∀ w6 : World, (w6.alloc (.cells #[.int .i64 y] 3)).cell? ⟨w6.heap.size, 0, none⟩ = some (.int .i64 y) := fun w6 => by have := block_last w6 (Obj.cells #[.int .i64 y] 3); unfold World.cell?; rw [this]; rfl
       go_wp2_with (first
        | (at_lookup; refine wpList_lookup_own_unit _ rfl _ _ 76 rfl 3 77 keyI Try.underlying76 (zeroE _) w.heap.size S.length (setI S) rfl hown _ _ rfl hkey ?_; rw [hhas])
        | (at_mapUpdate; refine wpList_mapUpdate_own _ rfl _ _ _ 76 rfl 3 77 keyI Try.underlying76 (unitElem (H := Unit)) w.heap.size S.length (setI S) rfl (hown.alloc _) (by unfold maxLen; omega) _ _ _ rfl rfl hkey _ [] unitElem_mk ?_; intro w6 hown6 hgr6; have s6 := hgr6.size; rw [World.size_alloc] at s6)
        | (at_builtin; refine wpList_append_q _ rfl _ _ 37 3 rfl w.heap.size Try.underlying37 Try.infoI64 rfl _ (S.drop p) rfl (hqq w6 hgr6) w6.heap.size 0 1 y rfl (hqc w6) hql (hqb w6 hgr6.size) ?_; intro v' w8 hq8 hgr8))
       rw [HDR.out] at hq8
       have HQ := hide hq8
       have HM : Hid (w8.ownsMap Try.prog 3 (unitElem (H := Unit)) w.heap.size (S ++ [y]).length (setI (S ++ [y]))) := hide (by
        rw [HSS.out, ← HSI.out]
        exact (hown6.alloc _).kept hgr8 (fun e => hqv _ e.symm rfl))
       have HBB : Hid (Below w.heap.size w w8) := hide (by
        have t1 := gr_trans HB.out hba
        have t2 := t1.grown hgr6 t1.size (fun k e => by cases e; exact Nat.le_refl _)
        have t3 := t2.alloc t2.size (.cells #[.int .i64 y] 3)
        exact t3.grown hgr8 t3.size (fun k e => (hqB k e).1))
       clear hJ hq hown hq8 hown6 hgr6 hgr8 hba hqv hqB
       go_wp2
       go_roundw
       case rel => exact ⟨j + 1, S ++ [y], by omega, by go_num, HJ2.out, HQ.out, HM.out, HBB.out⟩
       case measure => simp [Go.RowKit.intOf]; omega
      ·have hhas : Maps.has (setI S) (.int .i64 y) = true := by rw [has_setI, hC]
       have HST : Hid (∀ u, across x z = some u → u ∈ S) := hide (fun u hu => by rw [hA] at hu; cases hu; exact List.contains_iff_mem.1 hC)
       clear hA hC
       go_wp2_with (at_lookup; refine wpList_lookup_own_unit _ rfl _ _ 76 rfl 3 77 keyI Try.underlying76 (zeroE _) w.heap.size S.length (setI S) rfl hown _ _ rfl hkey ?_; rw [hhas])
       have hq := hq.below (below_one _ (.cells #[] 77))
       have hown := hown.alloc (.cells #[] 77)
       have hb := gr_trans hb (below_one _ (.cells #[] 77))
       have HRJ := hide (hJ.stay hxT (HST.out))
       have HQ := hide hq
       have HOWN := hide hown
       have HB := hide hb
       clear hJ hq hown hb
       go_wp2
       go_roundw
       case rel => exact ⟨j + 1, S, by omega, by go_num, HRJ.out, HQ.out, HOWN.out, HB.out⟩
       case measure => simp [Go.RowKit.intOf]; omega
    ·have hjn : j = tn := by omega
     have hN : RI nb T b S (p + 1) := RJ.next (by rw [hTL]; rw [← hjn]; exact hJ)
     have hgg : nb - (p + 1) < gk := by have := hN.le; have := hN.good.len; omega
     have hq2 := hq.rest
     generalize hn0 : (S.drop (p + 1)).length = n0 at hq2 hcl
     have i1 : (1 : Int) ≤ ((n0 + 1 : Nat) : Int) := by omega
     have i2 : ((n0 + 1 : Nat) : Int) ≤ (cap : Int) := by omega
     clear hJ hq hdr hlt HDR
     by_cases hc1 : cap = 1
     ·subst hc1
      rw [if_pos rfl] at hq2
      obtain rfl : n0 = 0 := by omega
      go_wp2
      go_roundg (nb - (p + 1))
      case measure => exact hgg
      case rel => exact ⟨p + 1, S, Nat.le_refl _, hN, hq2, hown, hb⟩
     ·rw [if_neg hc1] at hq2
      go_wp2
      go_roundg (nb - (p + 1))
      case measure => exact hgg
      case rel => exact ⟨p + 1, S, Nat.le_refl _, hN, hq2, hown, hb⟩
  ·have hps : p = S.length := by have := hR.le; omega
   subst hps
   obtain ⟨g, off, cap, cur, rfl, -⟩ := hq
   rw [List.drop_length]
   have HR := hide hR
   have HM := hide hown
   have HB := hide hb
   clear hR hown hb
   go_wp2
   go_ret
   exact ⟨S, rfl, HR.out, HM.out, HB.out⟩

end

section
open Go.RowKit Go.Maps

theorem all_enc (l : List Int) : intF.all l = l.map encZ := by
 induction l with
 | nil => rfl
 | cons a l ih => rw [intF.all_cons, ih]; rfl

theorem keys_any (m : Option Nat) (w : World) :
  Calls Try.prog 44 #[.map m] w fun e w' => e = .returned (.func (.func 70) #[] #[.pointer (some ⟨w.heap.size, 0, none⟩)]) ∧ w' = w.alloc (.cells #[.map m] 76) := by
 have h := AnyZI.keys_in Try.keysI Fence.wide 5 trivial rfl m w
 change CallsIn _ _ Try.prog 44 _ _ _ at h
 exact callsIn_wide.1 h

theorem perm_set {w : World} {b n : Nat} {S : List Int} (h : w.ownsMap Try.prog 3 (unitElem (H := Unit)) b n (setI S)) (hn : S.Nodup) : S.Perm (intKeys (setI S)) := by
 obtain ⟨es, hD, hpw, -⟩ := h.entries keyI
 obtain ⟨es', hD', hko⟩ := h.keysOf
 obtain rfl : es = es' := by rw [hD] at hD'; simpa using hD'
 have hh : ∀ x, x ∈ S ↔ has (.map es) (.int .i64 x) = true := fun x => by rw [← hD, has_setI, List.contains_iff_mem]
 rw [hD]
 exact perm_intKeys hpw (fun p hp => by obtain ⟨v, hv⟩ := hko p hp; obtain ⟨x, _, hx, _⟩ := Maps.keyOf_i64 Try.underlying3 hv; exact ⟨x, hx⟩) hn hh

set_option maxRecDepth 100000 in
set_option maxHeartbeats 8000000 in
theorem implJoined_made (N : NV) (b : Int) (la : Option Addr) (n c : Nat) (l : List Int) (w : World) (h : NetRow w N) (hl : GRow intF w la n c l) (hn : n ≤ 1048576) (hbn : N.bn ≤ 1048576) :
  Calls Try.prog 19 #[.agg #[.slice N.ba N.bn N.bc, .slice N.la N.ln N.lc, .slice N.sa N.sn N.sc], .int .i64 b, .slice la n c] w fun e w' => ∃ ao cap, e = .returned (.slice ao (joined N.bn N.ls b l).length cap) ∧ w'.ownsRow w.heap.size 3 1 (.slice ao (joined N.bn N.ls b l).length cap) (joined N.bn N.ls b l).length (intF.all (joined N.bn N.ls b l)) ∧ Below w.heap.size w w' := by
 generalize hw1 : w.alloc (Obj.cells #[.slice N.ba N.bn N.bc, .slice N.la N.ln N.lc, .slice N.sa N.sn N.sc] 33) = w1
 have b01 : Below w.heap.size w w1 := by rw [← hw1]; exact below_one _ _
 have k1 : w1.heap[w.heap.size]? = some (.cells #[.slice N.ba N.bn N.bc, .slice N.la N.ln N.lc, .slice N.sa N.sn N.sc] 33) := by rw [← hw1]; exact block_last _ _
 obtain ⟨x0, x1, x2⟩ := cells3m k1
 go_enter Try.func19, Try.ntmps19
 go_wp2_with fail
 refine (bridgeAt_all N b _ (h.below b01)).mono ?_
 rintro e w2 ⟨v, rfl, hv, hb2⟩
 have b02 := gr_trans b01 hb2
 have k2 := kept_block k1 hb2
 clear x0 x1 x2 hw1 k1 b01 hb2
 obtain ⟨x0, x1, x2⟩ := cells3m k2
 cases v with
 | none =>
  have HJ : Hid (joined N.bn N.ls b l = []) := hide (by unfold joined; rw [hv.1 rfl]; rfl)
  have HB := hide b02
  clear hv b02
  go_wp2
  go_ret
  exact ⟨none, 0, by rw [HJ.out]; rfl, by rw [HJ.out]; exact World.ownsRow_nil _ _ _ _, HB.out⟩
 | some p =>
  have hB : inB N.bn b = true := by
   cases hc : inB N.bn b
   ·have := hv.2 hc
    cases this
   ·rfl
  have HIN := hide hB
  clear hv hB
  go_wp2_with fail
  refine (linksTold_any N la n c l _ (h.below b02) (hl.below b02) hn).mono ?_
  rintro e w3 ⟨cs, ta, tc, hcs, -, rfl, hT, hb3⟩
  have b03 := gr_trans b02 hb3
  have HCS := hide hcs
  have hT2 : ∀ x ∈ told N.bn N.ls cs, inB N.bn x.a = true ∧ inB N.bn x.b = true := fun x hx => by
   obtain ⟨k, -, -, h1, h2⟩ := told_mem.1 hx
   exact ⟨h1, h2⟩
  have hGT := grow_own (F := linkF) hT
  clear hcs hT x0 x1 x2 k2 hb3 b02
  generalize hTT : told N.bn N.ls cs = T at *
  have HTT := hide hTT
  clear hTT
  generalize T.length = tn at *
  go_wp2_with fail
  refine (reached_any T N.bn b ta tn tc _ hGT hT2 HIN.out hbn).mono ?_
  rintro e w4 ⟨S, rfl, hR, hM, hb4⟩
  have b04 := gr_trans b03 hb4
  have HR := hide hR
  have HP := hide (perm_set hM hR.good.1)
  have hlS := hR.good.len
  clear hGT hT2 hb4 b03 hR
  go_wp2_with fail
  refine (keys_any _ _).mono ?_
  rintro e w5 ⟨rfl, e5⟩
  have b45 : Below w4.heap.size w4 w5 := by rw [e5]; exact below_one _ _
  have k5 : w5.heap[w4.heap.size]? = some (.cells #[.map (some w3.heap.size)] 76) := by rw [e5]; exact block_last _ _
  have hM5 := ownM_below hM b45
  have b05 := gr_trans b04 b45
  have hc5 : w5.cell? ⟨w4.heap.size, 0, none⟩ = some (.map (some w3.heap.size)) := by unfold World.cell?; rw [k5]; rfl
  have hlt5 : w4.heap.size < w5.heap.size := (Array.getElem?_eq_some_iff.1 k5).1
  have hgv := gives_b (AnyZI.keys_gives (ρ := Try.keysI_ren) { Try.keysI with } Fence.wide 2 trivial rfl (by omega) w4.heap.size w3.heap.size S.length (setI S) w5 hlt5 hc5 hM5)
  have hsz : ∀ ss : List Int, ss.Perm (intKeys (setI S)) → ss.length ≤ S.length := fun ss hss => by rw [hss.length_eq, HP.out.length_eq]; exact Nat.le_refl _
  have hms := hM5.size_le
  have hgv2 : GivesB Fence.wide 2 Try.prog 70 #[.pointer (some ⟨w4.heap.size, 0, none⟩)] (fun ss => ss.Perm (intKeys (setI S))) S.length w5 := fun l J W h1 h2 h3 hY h0 => hgv l J W h1 h2 h3 (fun pre x W1 hj hl => hY pre x W1 hj (Nat.lt_of_lt_of_le hl hms)) h0
  have hS16 : S.length ≤ 16777216 := by omega
  have HB5 := hide b05
  clear e5 hM k5 b45 b04 hgv hms b05 hc5 hlt5 hM5 hlS
  go_wp2_with fail
  refine (sorted_any 70 _ (enters_of Try.func70 (by kernel_rfl) rfl) (fun ss => ss.Perm (intKeys (setI S))) S.length hsz hS16 w5 hgv2).mono ?_
  rintro e w6 ⟨v, ss, rfl, hss, how, -, hb6⟩
  have hJ : ss.mergeSort leI = joined N.bn N.ls b l := by
   rw [mergeSort_of_perm_i (hss.trans HP.out.symm)]
   exact joined_sorted HCS.out HIN.out (by rw [HTT.out]; exact HR.out)
  have how : w6.ownsRow w5.heap.size 3 1 v ss.length ((ss.mergeSort leI).map encZ) := how
  have hL : ss.length = (joined N.bn N.ls b l).length := by rw [← hJ, List.length_mergeSort]
  rw [hJ, hL, ← all_enc] at how
  obtain ⟨ao, cap, rfl⟩ := gown_slice how
  have HO := hide (gown_lt how HB5.out.size)
  have HB := hide (gr_trans HB5.out hb6)
  clear how hb6 hJ hL hss hgv2 hsz
  go_wp2
  go_ret
  exact ⟨ao, cap, rfl, HO.out, HB.out⟩

end

set_option maxRecDepth 100000 in
set_option maxHeartbeats 16000000 in
theorem specJoined_made (N : NV) (b : Int) (la : Option Addr) (ln lc : Nat) (l : List Int) (w : World) (h : NetRow w N) (hl : GRow intF w la ln lc l) (hbn : N.bn ≤ 1048576) :
  Calls Try.prog 17 #[.agg #[.slice N.ba N.bn N.bc, .slice N.la N.ln N.lc, .slice N.sa N.sn N.sc], .int .i64 b, .slice la ln lc] w fun e w' => ∃ ao cap, e = .returned (.slice ao (joined N.bn N.ls b l).length cap) ∧ w'.ownsRow w.heap.size 3 1 (.slice ao (joined N.bn N.ls b l).length cap) (joined N.bn N.ls b l).length (intF.all (joined N.bn N.ls b l)) ∧ Below w.heap.size w w' := by
 have hle := Nat.le_trans h.b.le h.b.top
 unfold maxLen at hle
 have HSL := hide hl.size
 generalize hw1 : w.alloc (Obj.cells #[.slice N.ba N.bn N.bc, .slice N.la N.ln N.lc, .slice N.sa N.sn N.sc] 33) = w1
 have b01 : Below w.heap.size w w1 := by rw [← hw1]; exact below_one _ _
 have HZ : Hid (w1.heap.size = w.heap.size + 1) := hide (by rw [← hw1]; simp)
 have k1 : w1.heap[w.heap.size]? = some (.cells #[.slice N.ba N.bn N.bc, .slice N.la N.ln N.lc, .slice N.sa N.sn N.sc] 33) := by rw [← hw1]; exact block_last _ _
 obtain ⟨x0, x1, x2⟩ := cells3m k1
 cases hB : inB N.bn b
 ·have HJ : Hid (joined N.bn N.ls b l = []) := hide (by unfold joined; rw [hB]; rfl)
  have HBB : Hid ((decide (0 ≤ b) && decide (b ≤ (N.bn : Int) - 1)) = false) := hide hB
  clear hB
  generalize hw2 : w1.alloc (Obj.cells #[] 3) = w2
  have b12 : Below w1.heap.size w1 w2 := by rw [← hw2]; exact below_one _ _
  have k2 : w2.heap[w1.heap.size]? = some (.cells #[] 3) := by rw [← hw2]; exact block_last _ _
  go_enter Try.func17, Try.ntmps17
  go_wp2_with fail
  refine (within_any b 0 ((N.bn : Int) - 1) _).mono ?_
  rintro e w3 ⟨rfl, e3⟩
  obtain rfl := e3.symm
  rw [HBB.out]
  go_wp2
  go_ret
  exact ⟨some ⟨w1.heap.size, 0, none⟩, 0, by rw [HJ.out]; rfl, by rw [HJ.out]; exact flat_nil intF w w2 3 w1.heap.size k2 (by have := HZ.out; omega), gr_trans b01 b12⟩
 ·have HBB : Hid ((decide (0 ≤ b) && decide (b ≤ (N.bn : Int) - 1)) = true) := hide hB
  have HIN := hide hB
  have HJ : Hid (joined N.bn N.ls b l = joinTo (itTo N.bn N.ls l b N.bn) N.bn) := hide (by unfold joined; rw [if_pos hB])
  clear hB
  generalize hw2 : w1.alloc (Obj.cells #[.int .i64 b] 3) = w2
  have b12 : Below w1.heap.size w1 w2 := by rw [← hw2]; exact below_one _ _
  have k2 : w2.heap[w1.heap.size]? = some (.cells #[.int .i64 b] 3) := by rw [← hw2]; exact block_last _ _
  have o2 := own_one intF (x := b) (base := w.heap.size) k2 rfl (by have := HZ.out; omega)
  have kP2 := kept_block k1 b12
  obtain ⟨z0, z1, z2⟩ := cells3m kP2
  go_enter Try.func17, Try.ntmps17
  go_wp2_with fail
  refine (within_any b 0 ((N.bn : Int) - 1) _).mono ?_
  rintro e w3 ⟨rfl, e3⟩
  obtain rfl := e3.symm
  rw [HBB.out]
  go_wp2_with fail
  clear x0 x1 x2 z0 z1 z2 hw1 hw2 k1
  go_loopw [7, 8] (fun p i wr => ∃ (k : Nat) (ao : Option Addr) (cap : Nat), k ≤ N.bn ∧ i = .int .i64 k ∧ p = .slice ao (itTo N.bn N.ls l b k).length cap ∧ wr.ownsRow w.heap.size 3 1 (.slice ao (itTo N.bn N.ls l b k).length cap) (itTo N.bn N.ls l b k).length (intF.all (itTo N.bn N.ls l b k)) ∧ wr.heap[w.heap.size]? = some (.cells #[.slice N.ba N.bn N.bc, .slice N.la N.ln N.lc, .slice N.sa N.sn N.sc] 33) ∧ Below w.heap.size w wr) (fun _ i _ => N.bn - (intOf i).toNat)
  case atStart => exact ⟨0, some ⟨w1.heap.size, 0, none⟩, 1, Nat.zero_le _, rfl, rfl, o2, kP2, gr_trans b01 b12⟩
  case round =>
   obtain ⟨k, ao, cap, hk, rfl, rfl, ow, kP, hb⟩ := hrel
   clear kP2 o2 b01 b12 k2
   obtain ⟨x0, x1, x2⟩ := cells3m kP
   by_cases hlt : k < N.bn
   ·have i1 : (k : Int) < (N.bn : Int) := by omega
    have HIT : Hid (moreTo N.bn N.ls l (itTo N.bn N.ls l b k) ln = itTo N.bn N.ls l b (k + 1)) := hide (by rw [itTo, moreL, HSL.out])
    go_wp2_with fail
    refine (specMore_made N la ln lc l ao (itTo N.bn N.ls l b k).length cap (itTo N.bn N.ls l b k) _ (h.below hb) (hl.below hb) (grow_own (F := intF) ow) (it_good HIN.out k) hbn).mono ?_
    rintro e w4 ⟨a4, c4, rfl, o4, hb4⟩
    rw [HIT.out] at o4 ⊢
    have HP := hide (kept_block kP hb4)
    have HOW := hide (gown_lt o4 hb.size)
    have HB := hide (gr_trans hb hb4)
    clear o4 hb4 hb kP ow x0 x1 x2
    go_wp2
    go_roundw
    case rel => exact ⟨k + 1, a4, c4, by omega, by go_num, rfl, HOW.out, HP.out, HB.out⟩
    case measure => simp [intOf]; omega
   ·have hkn : k = N.bn := by omega
    have i1 : ¬ (k : Int) < (N.bn : Int) := by omega
    have HG := hide (it_good (ls := N.ls) (l := l) HIN.out N.bn)
    rw [hkn] at ow
    rw [hkn]
    clear i1 hlt hk hkn
    generalize hX : itTo N.bn N.ls l b N.bn = X at *
    clear hX
    have i1 : ¬ (N.bn : Int) < (N.bn : Int) := by omega
    obtain ⟨w4, hw4⟩ : ∃ u, u = wr := ⟨_, rfl⟩
    subst hw4
    generalize hw5 : w4.alloc (Obj.cells #[] 3) = w5
    have b45 : Below w4.heap.size w4 w5 := by rw [← hw5]; exact below_one _ _
    have k5 : w5.heap[w4.heap.size]? = some (.cells #[] 3) := by rw [← hw5]; exact block_last _ _
    have o5 := flat_nil intF w4 w5 3 w4.heap.size k5 (Nat.le_refl _)
    have rX := grow_own (F := intF) ow
    have HB5 := hide hb
    obtain ⟨z0, z1, z2⟩ := cells3m (kept_block kP b45)
    go_wp2_with fail
    clear x0 x1 x2 z0 z1 z2 hw5 ow hb
    go_loopw [9, 10] (fun p i wq => ∃ (j : Nat) (a6 : Option Addr) (c6 : Nat), j ≤ N.bn ∧ i = .int .i64 j ∧ p = .slice a6 (joinTo X j).length c6 ∧ wq.ownsRow w4.heap.size 3 1 (.slice a6 (joinTo X j).length c6) (joinTo X j).length (intF.all (joinTo X j)) ∧ Below w4.heap.size w4 wq) (fun _ i _ => N.bn - (intOf i).toNat)
    case atStart => exact ⟨0, some ⟨w4.heap.size, 0, none⟩, 0, Nat.zero_le _, rfl, rfl, o5, b45⟩
    case round =>
     obtain ⟨j, a6, c6, hj, rfl, rfl, oq, hq⟩ := hrel
     clear o5 b45 k5
     obtain ⟨x0, x1, x2⟩ := cells3m (kept_block kP hq)
     have HLN := hide (join_len X j)
     by_cases hlt : j < N.bn
     ·have i2 : (j : Int) < (N.bn : Int) := by omega
      go_wp2_with fail
      refine (specHas_any ao X.length cap X (j : Int) _ (rX.below hq)).mono ?_
      rintro e w6 ⟨rfl, e6⟩
      obtain rfl := e6.symm
      cases hc : X.contains (j : Int)
      ·have HJ1 : Hid (joinTo X (j + 1) = joinTo X j) := hide (by rw [joinTo, if_neg (by rw [hc]; decide)])
       have HO := hide oq
       have HB := hide hq
       clear hc oq hq x0 x1 x2
       go_wp2
       go_roundw
       case rel => exact ⟨j + 1, a6, c6, by omega, by go_num, by rw [HJ1.out], by rw [HJ1.out]; exact HO.out, HB.out⟩
       case measure => simp [intOf]; omega
      ·have HJ1 : Hid (joinTo X (j + 1) = joinTo X j ++ [(j : Int)]) := hide (by rw [joinTo, if_pos hc])
       clear hc
       generalize hwa : wr.alloc (Obj.cells #[Value.int .i64 j] 3) = wa
       have bra : Below wr.heap.size wr wa := by subst hwa; exact below_one _ _
       have ka : wa.heap[wr.heap.size]? = some (.cells #[.int .i64 j] 3) := by rw [← hwa]; exact block_last _ _
       have gone : GRow intF wa (some ⟨wr.heap.size, 0, none⟩) 1 1 [(j : Int)] := grow_own (F := intF) (own_one intF (x := (j : Int)) (base := 0) ka rfl (Nat.zero_le _))
       have hI2 := gown_below oq bra
       have HBA := hide (gr_trans hq bra)
       clear oq hq x0 x1 x2
       generalize hqq : (joinTo X j).length = q at *
       go_wp2_with (at_builtin; refine wpList_append_flat (F := intF) _ rfl _ _ 37 3 rfl w4.heap.size Try.underlying37 Try.infoI64 rfl (by decide) _ q (joinTo X j) rfl hI2 (some ⟨wr.heap.size, 0, none⟩) 1 1 [(j : Int)] rfl gone (by have := HLN.out; omega) HBA.out.size ?_)
       intro a7 c7 w7 how hr hgr hb7
       have HB7 := hide (HBA.out.trans hb7)
       have HQ1 : Hid ((joinTo X (j + 1)).length = q + 1) := hide (by rw [HJ1.out, List.length_append, hqq]; rfl)
       rw [← HJ1.out] at how
       have HO := hide how
       clear how hr hgr hb7 hI2 gone ka hqq
       go_wp2
       go_roundw
       case rel => exact ⟨j + 1, a7, c7, by omega, by go_num, by rw [HQ1.out], by rw [HQ1.out]; exact HO.out, HB7.out⟩
       case measure => simp [intOf]; omega
     ·have hjn : j = N.bn := by omega
      have i2 : ¬ (j : Int) < (N.bn : Int) := by omega
      have HO := hide (show wr.ownsRow w.heap.size 3 1 (.slice a6 (joined N.bn N.ls b l).length c6) (joined N.bn N.ls b l).length (intF.all (joined N.bn N.ls b l)) by rw [HJ.out, ← hjn]; exact gown_lt oq HB5.out.size)
      have HLJ : Hid ((joined N.bn N.ls b l).length = (joinTo X N.bn).length) := hide (by rw [HJ.out])
      have HB := hide (gr_trans HB5.out hq)
      clear oq hq
      go_wp2
      go_ret
      exact ⟨a6, c6, by rw [HLJ.out]; rfl, HO.out, HB.out⟩

end Go.Proofs.Ytgmkhoakindpkaa
