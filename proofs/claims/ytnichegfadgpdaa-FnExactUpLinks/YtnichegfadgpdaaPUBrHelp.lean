/-
  The law file's own helpers on bridges by their contracts: a copy, whether two are the same, their size, the marks that are put and read again.
-/
import Derived.Test.YtnichegfadgpdaaPUFentHelp
import Derived.Test.YtnichegfadgpdaaPUK01
import Derived.Test.YtnichegfadgpdaaPUK03
import Derived.Test.YtnichegfadgpdaaPUK06
import Derived.Test.YtnichegfadgpdaaPUK08
namespace Go.Proofs.Ytnichegfadgpdaa
open Go.RowKit

set_option maxRecDepth 100000 in
set_option maxHeartbeats 4000000 in
theorem eqBridge_same (a : Option Addr) (n c : Nat) (fa : Option Addr) (fn fc : Nat) (ra : Option Addr) (rn rc : Nat) (oa : Option Addr) (on oc : Nat) (a2 : Option Addr) (n2 c2 : Nat) (fa2 : Option Addr) (fn2 fc2 : Nat) (ra2 : Option Addr) (rn2 rc2 : Nat) (oa2 : Option Addr) (on2 oc2 : Nat) (B : BR) (w : World) (h : BrRow w a n c fa fn fc ra rn rc oa on oc B) (h2 : BrRow w a2 n2 c2 fa2 fn2 fc2 ra2 rn2 rc2 oa2 on2 oc2 B) :
  Calls Try.prog 42 #[.agg #[.int .i64 B.id, .string B.name, .slice a n c, .slice fa fn fc, .slice ra rn rc, .slice oa on oc, .int .i64 B.ticks, .int .i64 B.parse, .int .i64 B.word, .int .i64 B.drops, .int .i64 B.vers], .agg #[.int .i64 B.id, .string B.name, .slice a2 n2 c2, .slice fa2 fn2 fc2, .slice ra2 rn2 rc2, .slice oa2 on2 oc2, .int .i64 B.ticks, .int .i64 B.parse, .int .i64 B.word, .int .i64 B.drops, .int .i64 B.vers]] w fun e w' => e = .returned (.bool true) ∧ Below w.heap.size w w' := by
 generalize hw1 : w.alloc (Obj.cells #[.int .i64 B.id, .string B.name, .slice a n c, .slice fa fn fc, .slice ra rn rc, .slice oa on oc, .int .i64 B.ticks, .int .i64 B.parse, .int .i64 B.word, .int .i64 B.drops, .int .i64 B.vers] 62) = w1
 generalize hw2 : w1.alloc (Obj.cells #[.int .i64 B.id, .string B.name, .slice a2 n2 c2, .slice fa2 fn2 fc2, .slice ra2 rn2 rc2, .slice oa2 on2 oc2, .int .i64 B.ticks, .int .i64 B.parse, .int .i64 B.word, .int .i64 B.drops, .int .i64 B.vers] 62) = w2
 have b01 : Below w.heap.size w w1 := by rw [← hw1]; exact below_one _ _
 have b12 : Below w1.heap.size w1 w2 := by rw [← hw2]; exact below_one _ _
 have b02 := gr_trans b01 b12
 have k1 : w2.heap[w.heap.size]? = some (.cells #[.int .i64 B.id, .string B.name, .slice a n c, .slice fa fn fc, .slice ra rn rc, .slice oa on oc, .int .i64 B.ticks, .int .i64 B.parse, .int .i64 B.word, .int .i64 B.drops, .int .i64 B.vers] 62) := kept_block (by rw [← hw1]; exact block_last _ _) b12
 have k2 : w2.heap[w1.heap.size]? = some (.cells #[.int .i64 B.id, .string B.name, .slice a2 n2 c2, .slice fa2 fn2 fc2, .slice ra2 rn2 rc2, .slice oa2 on2 oc2, .int .i64 B.ticks, .int .i64 B.parse, .int .i64 B.word, .int .i64 B.drops, .int .i64 B.vers] 62) := by rw [← hw2]; exact block_last _ _
 obtain ⟨x0, x1, x2, x3, x4, x5, x6, x7, x8, x9, x10⟩ := cells11 k1
 obtain ⟨y0, y1, y2, y3, y4, y5, y6, y7, y8, y9, y10⟩ := cells11 k2
 go_enter Try.func42, Try.ntmps42
 go_wp2_with fail
 refine (eqPts_same a n c a2 n2 c2 B.ports _ (h.ports.below b02) (h2.ports.below b02)).mono ?_
 rintro e w3 ⟨rfl, hb3⟩
 have b03 := gr_trans b02 hb3
 have k1 := kept_block k1 hb3
 have k2 := kept_block k2 hb3
 clear x0 x1 x2 x3 x4 x5 x6 x7 x8 x9 x10 y0 y1 y2 y3 y4 y5 y6 y7 y8 y9 y10 hb3
 obtain ⟨x0, x1, x2, x3, x4, x5, x6, x7, x8, x9, x10⟩ := cells11 k1
 obtain ⟨y0, y1, y2, y3, y4, y5, y6, y7, y8, y9, y10⟩ := cells11 k2
 go_wp2_with fail
 refine (eqFents_same fa fn fc fa2 fn2 fc2 B.f _ (h.f.below b03) (h2.f.below b03)).mono ?_
 rintro e w4 ⟨rfl, hb4⟩
 have b04 := gr_trans b03 hb4
 have k1 := kept_block k1 hb4
 have k2 := kept_block k2 hb4
 clear x0 x1 x2 x3 x4 x5 x6 x7 x8 x9 x10 y0 y1 y2 y3 y4 y5 y6 y7 y8 y9 y10 hb4
 obtain ⟨x0, x1, x2, x3, x4, x5, x6, x7, x8, x9, x10⟩ := cells11 k1
 obtain ⟨y0, y1, y2, y3, y4, y5, y6, y7, y8, y9, y10⟩ := cells11 k2
 go_wp2_with fail
 refine (eqVtab_same ra rn rc oa on oc ra2 rn2 rc2 oa2 on2 oc2 B.v _ (h.v.below b04) (h2.v.below b04)).mono ?_
 rintro e w5 ⟨rfl, hb5⟩
 have b05 := gr_trans b04 hb5
 have k1 := kept_block k1 hb5
 have k2 := kept_block k2 hb5
 clear x0 x1 x2 x3 x4 x5 x6 x7 x8 x9 x10 y0 y1 y2 y3 y4 y5 y6 y7 y8 y9 y10 hb5
 obtain ⟨x0, x1, x2, x3, x4, x5, x6, x7, x8, x9, x10⟩ := cells11 k1
 obtain ⟨y0, y1, y2, y3, y4, y5, y6, y7, y8, y9, y10⟩ := cells11 k2
 have HB := hide b05
 clear k1 k2 b05
 go_wp2
 go_ret
 exact ⟨rfl, HB.out⟩

def sizeB (B : BR) : Int := (B.name.size : Int) + B.ports.length + B.f.length + (B.v.rows.length + B.v.own.length)

set_option maxRecDepth 100000 in
set_option maxHeartbeats 4000000 in
theorem szBridge_from (L : Int) (hL0 : 0 ≤ L) (hL1 : L ≤ 1048576) (a : Option Addr) (n c : Nat) (fa : Option Addr) (fn fc : Nat) (ra : Option Addr) (rn rc : Nat) (oa : Option Addr) (on oc : Nat) (B : BR) (w : World) (h : BrRow w a n c fa fn fc ra rn rc oa on oc B) (hS : B.name.size ≤ maxLen) :
  Calls Try.prog 33 #[.agg #[.int .i64 B.id, .string B.name, .slice a n c, .slice fa fn fc, .slice ra rn rc, .slice oa on oc, .int .i64 B.ticks, .int .i64 B.parse, .int .i64 B.word, .int .i64 B.drops, .int .i64 B.vers], .int .i64 L] w fun e w' => e = .returned (.int .i64 (if sizeB B ≤ L then L - sizeB B else -1)) ∧ Below w.heap.size w w' := by
 have n1 := Nat.le_trans h.ports.le h.ports.top
 have n2 := Nat.le_trans h.f.le h.f.top
 have n3 := Nat.le_trans h.v.rows.le h.v.rows.top
 have n4 := Nat.le_trans h.v.own.le h.v.own.top
 have e1 := h.ports.size
 have e2 := h.f.size
 have e3 := h.v.rows.size
 have e4 := h.v.own.size
 have hSb : sizeB B = (B.name.size : Int) + n + fn + (rn + on) := by unfold sizeB; omega
 rw [hSb]
 clear e1 e2 e3 e4 hSb
 unfold maxLen at hS
 generalize hw1 : w.alloc (Obj.cells #[.int .i64 B.id, .string B.name, .slice a n c, .slice fa fn fc, .slice ra rn rc, .slice oa on oc, .int .i64 B.ticks, .int .i64 B.parse, .int .i64 B.word, .int .i64 B.drops, .int .i64 B.vers] 72) = w1
 have b01 : Below w.heap.size w w1 := by rw [← hw1]; exact below_one _ _
 have k1 : w1.heap[w.heap.size]? = some (.cells #[.int .i64 B.id, .string B.name, .slice a n c, .slice fa fn fc, .slice ra rn rc, .slice oa on oc, .int .i64 B.ticks, .int .i64 B.parse, .int .i64 B.word, .int .i64 B.drops, .int .i64 B.vers] 72) := by rw [← hw1]; exact block_last _ _
 obtain ⟨x0, x1, x2, x3, x4, x5, x6, x7, x8, x9, x10⟩ := cells11 k1
 generalize hV : (if (B.name.size : Int) + n + fn + (rn + on) ≤ L then L - ((B.name.size : Int) + n + fn + (rn + on)) else -1) = V
 have HV := hide hV
 clear hV
 go_enter Try.func33, Try.ntmps33
 by_cases h0 : (B.name.size : Int) ≤ L
 ·have j0 : ¬ (L - (B.name.size : Int) < 0) := by omega
  go_wp2_with fail
  refine (szPts_any a n c (L - B.name.size) _ n1 (by omega) (by omega)).mono ?_
  rintro e w2 ⟨rfl, e2⟩
  obtain rfl := e2.symm
  by_cases h1 : (n : Int) ≤ L - B.name.size
  ·rw [if_pos h1]
   have j1 : ¬ (L - (B.name.size : Int) - (n : Int) < 0) := by omega
   go_wp2_with fail
   refine (szFents_any fa fn fc (L - B.name.size - n) _ n2 (by omega) (by omega)).mono ?_
   rintro e w2 ⟨rfl, e2⟩
   obtain rfl := e2.symm
   by_cases h2 : (fn : Int) ≤ L - B.name.size - n
   ·rw [if_pos h2]
    have j2 : ¬ (L - (B.name.size : Int) - (n : Int) - (fn : Int) < 0) := by omega
    go_wp2_with fail
    refine (szVtab_from (L - B.name.size - n - fn) (by omega) (by omega) ra rn rc oa on oc _ n3 n4).mono ?_
    rintro e w2 ⟨rfl, hb2⟩
    have HB := hide (gr_trans b01 hb2)
    clear hb2 x0 x1 x2 x3 x4 x5 x6 x7 x8 x9 x10
    by_cases h3 : (rn : Int) + (on : Int) ≤ L - B.name.size - n - fn
    ·rw [if_pos h3]
     have j3 : ¬ (L - (B.name.size : Int) - (n : Int) - (fn : Int) - (rn : Int) - (on : Int) < 0) := by omega
     have HE : Hid (V = L - (B.name.size : Int) - n - fn - rn - on) := hide (by rw [← HV.out, if_pos (by omega)]; omega)
     go_wp2
     go_ret
     exact ⟨(by rw [HE.out]; rfl), HB.out⟩
    ·rw [if_neg h3]
     have HE : Hid (V = -1) := hide (by rw [← HV.out, if_neg (by omega)])
     go_wp2
     go_ret
     exact ⟨(by rw [HE.out]; rfl), HB.out⟩
   ·rw [if_neg h2]
    have HE : Hid (V = -1) := hide (by rw [← HV.out, if_neg (by omega)])
    go_wp2
    go_ret
    exact ⟨(by rw [HE.out]; rfl), b01⟩
  ·rw [if_neg h1]
   have HE : Hid (V = -1) := hide (by rw [← HV.out, if_neg (by omega)])
   go_wp2
   go_ret
   exact ⟨(by rw [HE.out]; rfl), b01⟩
 ·have j0 : L - (B.name.size : Int) < 0 := by omega
  have HE : Hid (V = -1) := hide (by rw [← HV.out, if_neg (by omega)])
  go_wp2
  go_ret
  exact ⟨(by rw [HE.out]; rfl), b01⟩

set_option maxRecDepth 100000 in
set_option maxHeartbeats 8000000 in
theorem toBridge_made (a : Option Addr) (n c : Nat) (fa : Option Addr) (fn fc : Nat) (ra : Option Addr) (rn rc : Nat) (oa : Option Addr) (on oc : Nat) (B : BR) (w : World) (h : BrRow w a n c fa fn fc ra rn rc oa on oc B) (hn : n ≤ 1048576) (hfn : fn ≤ 1048576) (hrn : rn ≤ 1048576) (hon : on ≤ 1048576) :
  Calls Try.prog 36 #[.agg #[.int .i64 B.id, .string B.name, .slice a n c, .slice fa fn fc, .slice ra rn rc, .slice oa on oc, .int .i64 B.ticks, .int .i64 B.parse, .int .i64 B.word, .int .i64 B.drops, .int .i64 B.vers]] w fun e w' => ∃ (a2 : Option Addr) (c2 : Nat) (fa2 : Option Addr) (fc2 : Nat) (ra2 : Option Addr) (rc2 : Nat) (oa2 : Option Addr) (oc2 : Nat), e = .returned (.agg #[.int .i64 B.id, .string B.name, .slice a2 n c2, .slice fa2 fn fc2, .slice ra2 rn rc2, .slice oa2 on oc2, .int .i64 B.ticks, .int .i64 B.parse, .int .i64 B.word, .int .i64 B.drops, .int .i64 B.vers]) ∧ BrOwn w' w.heap.size a2 n c2 fa2 fn fc2 ra2 rn rc2 oa2 on oc2 B ∧ Below w.heap.size w w' := by
 generalize hw1 : w.alloc (Obj.cells #[.int .i64 B.id, .string B.name, .slice a n c, .slice fa fn fc, .slice ra rn rc, .slice oa on oc, .int .i64 B.ticks, .int .i64 B.parse, .int .i64 B.word, .int .i64 B.drops, .int .i64 B.vers] 72) = w1
 generalize hw2 : w1.alloc (Obj.cells #[.int .i64 0, .string ⟨#[]⟩, .slice none 0 0, .slice none 0 0, .slice none 0 0, .slice none 0 0, .int .i64 0, .int .i64 0, .int .i64 0, .int .i64 0, .int .i64 0] 62) = w2
 have b01 : Below w.heap.size w w1 := by rw [← hw1]; exact below_one _ _
 have b12 : Below w1.heap.size w1 w2 := by rw [← hw2]; exact below_one _ _
 have z1 : w.heap.size < w1.heap.size := by rw [← hw1]; simp
 have z2 : w1.heap.size < w2.heap.size := by rw [← hw2]; simp
 generalize hw3 : w2.alloc (Obj.cells #[.int .i64 0, .string ⟨#[]⟩, .slice none 0 0, .slice none 0 0, .slice none 0 0, .slice none 0 0, .int .i64 0, .int .i64 0, .int .i64 0, .int .i64 0, .int .i64 0] 62) = w3
 have b23 : Below w2.heap.size w2 w3 := by rw [← hw3]; exact below_one _ _
 have b03 := gr_trans (gr_trans b01 b12) b23
 have kA3 : w3.heap[w.heap.size]? = some (.cells #[.int .i64 B.id, .string B.name, .slice a n c, .slice fa fn fc, .slice ra rn rc, .slice oa on oc, .int .i64 B.ticks, .int .i64 B.parse, .int .i64 B.word, .int .i64 B.drops, .int .i64 B.vers] 72) := kept_block (kept_block (by rw [← hw1]; exact block_last _ _) b12) b23
 have st3 : BcSt w w3 w1.heap.size w2.heap.size #[.int .i64 0, .string ⟨#[]⟩, .slice none 0 0, .slice none 0 0, .slice none 0 0, .slice none 0 0, .int .i64 0, .int .i64 0, .int .i64 0, .int .i64 0, .int .i64 0] := ⟨by rw [← hw3]; exact block_last _ _, kept_block (by rw [← hw2]; exact block_last _ _) b23, b03, by omega, Nat.le_of_lt z1, Nat.ne_of_lt z2⟩
 have HZ1 := hide z1
 have HZ2 := hide z2
 have nAX : ¬ w.heap.size = w2.heap.size := by omega
 have nXA : ¬ w2.heap.size = w.heap.size := by omega
 obtain ⟨x0, x1, x2, x3, x4, x5, x6, x7, x8, x9, x10⟩ := cells11 kA3
 obtain ⟨y0, y1, y2, y3, y4, y5, y6, y7, y8, y9, y10⟩ := cells11 st3.box
 have f0 := frozen8 st3.box 0
 have f1 := frozen8 st3.box 1
 clear z1 z2 b01 b12 b23 b03
 go_enter Try.func36, Try.ntmps36
 go_wp2_with fail
 have st3b := (st3.put 0 (.int .i64 B.id) rfl).put 1 (.string B.name) (cs' := #[.int .i64 B.id, .string B.name, .slice none 0 0, .slice none 0 0, .slice none 0 0, .slice none 0 0, .int .i64 0, .int .i64 0, .int .i64 0, .int .i64 0, .int .i64 0]) rfl
 have kA3b := kept_set (b := w2.heap.size) (j := 1) (u := .string B.name) (kept_set (b := w2.heap.size) (j := 0) (u := .int .i64 B.id) kA3 nAX) nAX
 generalize hw3b : ((w3.setCell ⟨w2.heap.size, 0, none⟩ (.int .i64 B.id)).setCell ⟨w2.heap.size, 1, none⟩ (.string B.name)) = w3b at *
 clear x0 x1 x2 x3 x4 x5 x6 x7 x8 x9 x10 y0 y1 y2 y3 y4 y5 y6 y7 y8 y9 y10 f0 f1 st3 kA3
 refine (toPts_made a n c B.ports _ (h.ports.below st3b.below) hn).mono ?_
 rintro e w4 ⟨a4, c4, rfl, o4, -, hb4⟩
 have st4 := st3b.later hb4
 have kA4 := kept_block kA3b hb4
 have o4 := gown_lt o4 (base' := w.heap.size) st3b.below.size
 clear hb4 st3b kA3b hw3b hw3 hw2 hw1
 generalize hX : w2.heap.size = X at *
 generalize hR : w1.heap.size = R at *
 generalize hw5 : w4.setCell ⟨X, 2, none⟩ (.slice a4 n c4) = w5
 have st5 := st4.put 2 (.slice a4 n c4) rfl
 have o5 := st4.stay o4 (by decide) 2 (.slice a4 n c4)
 have kA5 := kept_set (b := X) (j := 2) (u := .slice a4 n c4) kA4 (by have := HZ1.out; have := HZ2.out; omega)
 rw [hw5] at st5 o5 kA5
 obtain ⟨y0, y1, y2, y3, y4, y5, y6, y7, y8, y9, y10⟩ := cells11 st4.box
 have f2 := frozen8 st4.box 2
 obtain ⟨x0, x1, x2, x3, x4, x5, x6, x7, x8, x9, x10⟩ := cells11 kA5
 go_wp2_with fail
 clear x0 x1 x2 x3 x4 x5 x6 x7 x8 x9 x10 y0 y1 y2 y3 y4 y5 y6 y7 y8 y9 y10 f2
 refine (toFents_made fa fn fc B.f _ (h.f.below st5.below) hfn).mono ?_
 rintro e w6 ⟨fa6, fc6, rfl, oF, -, hb6⟩
 have st6 := st5.later hb6
 have o6 := gown_below o5 hb6
 have oF := gown_lt oF (base' := w.heap.size) st5.below.size
 have kA6 := kept_block kA5 hb6
 clear hb6 o4 o5 kA4 kA5 st4 hw5
 generalize hw7 : w6.setCell ⟨X, 3, none⟩ (.slice fa6 fn fc6) = w7
 have st7 := st6.put 3 (.slice fa6 fn fc6) rfl
 have o7 := st6.stay o6 (by decide) 3 (.slice fa6 fn fc6)
 have oF7 := st6.stay oF (by decide) 3 (.slice fa6 fn fc6)
 have kA7 := kept_set (b := X) (j := 3) (u := .slice fa6 fn fc6) kA6 (by have := HZ1.out; have := HZ2.out; omega)
 rw [hw7] at st7 o7 oF7 kA7
 obtain ⟨y0, y1, y2, y3, y4, y5, y6, y7, y8, y9, y10⟩ := cells11 st6.box
 have f3 := frozen8 st6.box 3
 obtain ⟨x0, x1, x2, x3, x4, x5, x6, x7, x8, x9, x10⟩ := cells11 kA7
 go_wp2_with fail
 clear x0 x1 x2 x3 x4 x5 x6 x7 x8 x9 x10 y0 y1 y2 y3 y4 y5 y6 y7 y8 y9 y10 f3
 refine (toVtab_made ra rn rc oa on oc B.v _ (h.v.below st7.below) hrn hon).mono ?_
 rintro e w8 ⟨ra8, rc8, oa8, oc8, rfl, oV, hb8⟩
 have st8 := st7.later hb8
 have o8 := gown_below o7 hb8
 have oF8 := gown_below oF7 hb8
 have oV := oV.lt (base' := w.heap.size) st7.below.size
 have kA8 := kept_block kA7 hb8
 have own8 : BrOwn w8 w.heap.size a4 n c4 fa6 fn fc6 ra8 rn rc8 oa8 on oc8 B := ⟨o8, oF8, oV⟩
 clear hb8 o6 o7 oF oF7 kA6 kA7 st6 hw7 o8 oF8 oV
 have st15 := ((((((((((((((st8).put 4 (.slice ra8 rn rc8) rfl)).put 5 (.slice oa8 on oc8) rfl)).put 6 (.int .i64 B.ticks) rfl)).put 7 (.int .i64 B.parse) rfl)).put 8 (.int .i64 B.word) rfl)).put 9 (.int .i64 B.drops) rfl)).put 10 (.int .i64 B.vers) rfl)
 have own15 := ((((((((((((((own8).boxed (st8).box 4 (.slice ra8 rn rc8))).boxed (((st8).put 4 (.slice ra8 rn rc8) rfl)).box 5 (.slice oa8 on oc8))).boxed (((((st8).put 4 (.slice ra8 rn rc8) rfl)).put 5 (.slice oa8 on oc8) rfl)).box 6 (.int .i64 B.ticks))).boxed (((((((st8).put 4 (.slice ra8 rn rc8) rfl)).put 5 (.slice oa8 on oc8) rfl)).put 6 (.int .i64 B.ticks) rfl)).box 7 (.int .i64 B.parse))).boxed (((((((((st8).put 4 (.slice ra8 rn rc8) rfl)).put 5 (.slice oa8 on oc8) rfl)).put 6 (.int .i64 B.ticks) rfl)).put 7 (.int .i64 B.parse) rfl)).box 8 (.int .i64 B.word))).boxed (((((((((((st8).put 4 (.slice ra8 rn rc8) rfl)).put 5 (.slice oa8 on oc8) rfl)).put 6 (.int .i64 B.ticks) rfl)).put 7 (.int .i64 B.parse) rfl)).put 8 (.int .i64 B.word) rfl)).box 9 (.int .i64 B.drops))).boxed (((((((((((((st8).put 4 (.slice ra8 rn rc8) rfl)).put 5 (.slice oa8 on oc8) rfl)).put 6 (.int .i64 B.ticks) rfl)).put 7 (.int .i64 B.parse) rfl)).put 8 (.int .i64 B.word) rfl)).put 9 (.int .i64 B.drops) rfl)).box 10 (.int .i64 B.vers))
 obtain ⟨y0, y1, y2, y3, y4, y5, y6, y7, y8, y9, y10⟩ := cells11 st8.box
 obtain ⟨x0, x1, x2, x3, x4, x5, x6, x7, x8, x9, x10⟩ := cells11 kA8
 obtain ⟨u0, u1, u2, u3, u4, u5, u6, u7, u8, u9, u10⟩ := cells11 st8.res
 have fx := frozen8 st8.box
 have fr := frozen8 st8.res
 have fx4 := fx 4
 have fx5 := fx 5
 have fx6 := fx 6
 have fx7 := fx 7
 have fx8 := fx 8
 have fx9 := fx 9
 have fx10 := fx 10
 have fr0 := fr 0
 have fr1 := fr 1
 have fr2 := fr 2
 have fr3 := fr 3
 have fr4 := fr 4
 have fr5 := fr 5
 have fr6 := fr 6
 have fr7 := fr 7
 have fr8 := fr 8
 have fr9 := fr 9
 have fr10 := fr 10
 have ne1 : ¬ X = R := fun e => st8.ne e.symm
 have ne2 : ¬ R = X := st8.ne
 have ne3 : ¬ w.heap.size = X := by have := HZ1.out; have := HZ2.out; omega
 have ne4 : ¬ X = w.heap.size := fun e => ne3 e.symm
 obtain ⟨HO0, HB0⟩ := st15.out own15 (.int .i64 B.id) (.string B.name) (.slice a4 n c4) (.slice fa6 fn fc6) (.slice ra8 rn rc8) (.slice oa8 on oc8) (.int .i64 B.ticks) (.int .i64 B.parse) (.int .i64 B.word) (.int .i64 B.drops) (.int .i64 B.vers)
 have HO := hide HO0
 have HB := hide HB0
 clear fx fr st8 st5 st7 st15 own8 own15 HO0 HB0 kA8
 go_wp2
 exact bodyPost_ret (v := .agg #[.int .i64 B.id, .string B.name, .slice a4 n c4, .slice fa6 fn fc6, .slice ra8 rn rc8, .slice oa8 on oc8, .int .i64 B.ticks, .int .i64 B.parse, .int .i64 B.word, .int .i64 B.drops, .int .i64 B.vers]) (by simp [results, Try.results36, go_sem, *]) rfl ⟨a4, c4, fa6, fc6, ra8, rc8, oa8, oc8, rfl, HO.out, HB.out⟩

end Go.Proofs.Ytnichegfadgpdaa
