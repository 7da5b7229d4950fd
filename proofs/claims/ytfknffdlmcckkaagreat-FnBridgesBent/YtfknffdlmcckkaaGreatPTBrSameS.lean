/-
  Whether two bridges are the same, as the specification has it.
-/
import Derived.Test.YtfknffdlmcckkaaGreatPTKW
import Derived.Test.YtfknffdlmcckkaaGreatPTBrSameN1
import Derived.Test.YtfknffdlmcckkaaGreatPTBrSameN2
import Derived.Test.YtfknffdlmcckkaaGreatPTBrSameN3
import Derived.Test.YtfknffdlmcckkaaGreatPTK01
import Derived.Test.YtfknffdlmcckkaaGreatPTK06
import Derived.Deep.RegionHeld3
import Derived.Deep.CutRange
namespace Go.Proofs.YtfknffdlmcckkaaGreat
open Go.RowKit

abbrev q423 : Oper := ⟨some 101, .fieldAddr 31 (.tmp 2) 2, 0, "l11_bridge.go:97", #[], none⟩
abbrev q424 : Oper := ⟨some 102, .load 24 (.tmp 101), 24, "l11_bridge.go:97", #[⟨0, .data⟩], none⟩
abbrev q425 : Oper := ⟨some 103, .move (.tmp 5), 3, "l11_bridge.go:97", #[], none⟩
abbrev q426 : Oper := ⟨some 104, .indexAddr 24 (.tmp 102) (.tmp 103), 0, "l11_bridge.go:97", #[⟨1, .data⟩, ⟨2, .data⟩], none⟩
abbrev q427 : Oper := ⟨some 105, .load 44 (.tmp 104), 44, "l11_bridge.go:97", #[⟨3, .data⟩], none⟩
abbrev q428 : Oper := ⟨some 106, .fieldAddr 31 (.tmp 3) 2, 0, "l11_bridge.go:97", #[], none⟩
abbrev q429 : Oper := ⟨some 107, .load 24 (.tmp 106), 24, "l11_bridge.go:97", #[⟨5, .data⟩], none⟩
abbrev q430 : Oper := ⟨some 108, .move (.tmp 5), 3, "l11_bridge.go:97", #[], none⟩
abbrev q431 : Oper := ⟨some 109, .indexAddr 24 (.tmp 107) (.tmp 108), 0, "l11_bridge.go:97", #[⟨6, .data⟩, ⟨7, .data⟩], none⟩
abbrev q432 : Oper := ⟨some 110, .load 44 (.tmp 109), 44, "l11_bridge.go:97", #[⟨8, .data⟩], none⟩
abbrev q433 : Oper := ⟨some 111, .binOp .neq 44 (.tmp 105) (.tmp 110) 44, 4, "l11_bridge.go:97", #[⟨4, .data⟩, ⟨9, .data⟩], none⟩
abbrev q434 : Oper := ⟨some 119, .fieldAddr 31 (.tmp 2) 3, 0, "l11_bridge.go:102", #[], none⟩
abbrev q435 : Oper := ⟨some 120, .load 25 (.tmp 119), 25, "l11_bridge.go:102", #[⟨0, .data⟩], none⟩
abbrev q436 : Oper := ⟨some 121, .move (.tmp 6), 3, "l11_bridge.go:102", #[], none⟩
abbrev q437 : Oper := ⟨some 122, .indexAddr 25 (.tmp 120) (.tmp 121), 0, "l11_bridge.go:102", #[⟨1, .data⟩, ⟨2, .data⟩], none⟩
abbrev q438 : Oper := ⟨some 123, .load 49 (.tmp 122), 49, "l11_bridge.go:102", #[⟨3, .data⟩], none⟩
abbrev q439 : Oper := ⟨some 124, .fieldAddr 31 (.tmp 3) 3, 0, "l11_bridge.go:102", #[], none⟩
abbrev q440 : Oper := ⟨some 125, .load 25 (.tmp 124), 25, "l11_bridge.go:102", #[⟨5, .data⟩], none⟩
abbrev q441 : Oper := ⟨some 126, .move (.tmp 6), 3, "l11_bridge.go:102", #[], none⟩
abbrev q442 : Oper := ⟨some 127, .indexAddr 25 (.tmp 125) (.tmp 126), 0, "l11_bridge.go:102", #[⟨6, .data⟩, ⟨7, .data⟩], none⟩
abbrev q443 : Oper := ⟨some 128, .load 49 (.tmp 127), 49, "l11_bridge.go:102", #[⟨8, .data⟩], none⟩
abbrev q444 : Oper := ⟨some 129, .binOp .neq 49 (.tmp 123) (.tmp 128) 49, 4, "l11_bridge.go:102", #[⟨4, .data⟩, ⟨9, .data⟩], none⟩
abbrev q445 : Oper := ⟨some 138, .fieldAddr 31 (.tmp 2) 4, 0, "l11_bridge.go:107", #[], none⟩
abbrev q446 : Oper := ⟨some 139, .fieldAddr 29 (.tmp 138) 0, 0, "l11_bridge.go:107", #[⟨0, .data⟩], none⟩
abbrev q447 : Oper := ⟨some 140, .load 26 (.tmp 139), 26, "l11_bridge.go:107", #[⟨1, .data⟩], none⟩
abbrev q448 : Oper := ⟨some 141, .move (.tmp 7), 3, "l11_bridge.go:107", #[], none⟩
abbrev q449 : Oper := ⟨some 142, .indexAddr 26 (.tmp 140) (.tmp 141), 0, "l11_bridge.go:107", #[⟨2, .data⟩, ⟨3, .data⟩], none⟩
abbrev q450 : Oper := ⟨some 143, .load 81 (.tmp 142), 81, "l11_bridge.go:107", #[⟨4, .data⟩], none⟩
abbrev q451 : Oper := ⟨some 144, .fieldAddr 31 (.tmp 3) 4, 0, "l11_bridge.go:107", #[], none⟩
abbrev q452 : Oper := ⟨some 145, .fieldAddr 29 (.tmp 144) 0, 0, "l11_bridge.go:107", #[⟨6, .data⟩], none⟩
abbrev q453 : Oper := ⟨some 146, .load 26 (.tmp 145), 26, "l11_bridge.go:107", #[⟨7, .data⟩], none⟩
abbrev q454 : Oper := ⟨some 147, .move (.tmp 7), 3, "l11_bridge.go:107", #[], none⟩
abbrev q455 : Oper := ⟨some 148, .indexAddr 26 (.tmp 146) (.tmp 147), 0, "l11_bridge.go:107", #[⟨8, .data⟩, ⟨9, .data⟩], none⟩
abbrev q456 : Oper := ⟨some 149, .load 81 (.tmp 148), 81, "l11_bridge.go:107", #[⟨10, .data⟩], none⟩
abbrev q457 : Oper := ⟨some 150, .binOp .neq 81 (.tmp 143) (.tmp 149) 81, 4, "l11_bridge.go:107", #[⟨5, .data⟩, ⟨11, .data⟩], none⟩

set_option maxRecDepth 100000 in
set_option maxHeartbeats 16000000 in
theorem specSameB_flat (i : Int) (nm : ByteArray) (pl : List PT) (fl : List FE) (rl : List VR) (ol : List Int) (t pa wo d v : Int) (i' : Int) (nm' : ByteArray) (pl' : List PT) (fl' : List FE) (rl' : List VR) (ol' : List Int) (t' pa' wo' d' v' : Int) (a : Option Addr) (n c : Nat) (fa : Option Addr) (fn fc : Nat) (ra : Option Addr) (rn rc : Nat) (oa : Option Addr) (on oc : Nat) (a2 : Option Addr) (n2 c2 : Nat) (fa2 : Option Addr) (fn2 fc2 : Nat) (ra2 : Option Addr) (rn2 rc2 : Nat) (oa2 : Option Addr) (on2 oc2 : Nat) (w : World) (hp : GRow ptF w a n c pl) (hp2 : GRow ptF w a2 n2 c2 pl') (hf : GRow fentF w fa fn fc fl) (hf2 : GRow fentF w fa2 fn2 fc2 fl') (hr : GRow vrowF w ra rn rc rl) (hr2 : GRow vrowF w ra2 rn2 rc2 rl') (ho : IRow w oa on oc ol) (ho2 : IRow w oa2 on2 oc2 ol') :
  Calls Tryz.prog 27 #[.agg #[.int .i64 i, .string nm, .slice a n c, .slice fa fn fc, .slice ra rn rc, .slice oa on oc, .int .i64 t, .int .i64 pa, .int .i64 wo, .int .i64 d, .int .i64 v], .agg #[.int .i64 i', .string nm', .slice a2 n2 c2, .slice fa2 fn2 fc2, .slice ra2 rn2 rc2, .slice oa2 on2 oc2, .int .i64 t', .int .i64 pa', .int .i64 wo', .int .i64 d', .int .i64 v']] w fun e w' => ∃ q : Bool, e = .returned (.bool q) ∧ (q = true ↔ (i = i' ∧ nm = nm' ∧ t = t' ∧ pa = pa' ∧ wo = wo' ∧ d = d' ∧ v = v' ∧ pl = pl' ∧ fl = fl' ∧ rl = rl' ∧ ol = ol')) ∧ Below w.heap.size w w' := by
 by_cases e1 : i = i'
 rotate_left
 ·refine (specSame_no1 _ _ _ _ _ _ _ _ _ _ _ _ _ _ a n c fa fn fc ra rn rc oa on oc a2 n2 c2 fa2 fn2 fc2 ra2 rn2 rc2 oa2 on2 oc2 w e1).mono ?_
  rintro e w' ⟨rfl, hb⟩
  exact ⟨false, rfl, ⟨(fun e => by cases e), fun e => absurd e.1 e1⟩, hb⟩
 by_cases e2 : nm = nm'
 rotate_left
 ·refine (specSame_no2 _ _ _ _ _ _ _ _ _ _ _ _ _ _ a n c fa fn fc ra rn rc oa on oc a2 n2 c2 fa2 fn2 fc2 ra2 rn2 rc2 oa2 on2 oc2 w e1 e2).mono ?_
  rintro e w' ⟨rfl, hb⟩
  exact ⟨false, rfl, ⟨(fun e => by cases e), fun e => absurd e.2.1 e2⟩, hb⟩
 by_cases e3 : t = t'
 rotate_left
 ·refine (specSame_no3 _ _ _ _ _ _ _ _ _ _ _ _ _ _ a n c fa fn fc ra rn rc oa on oc a2 n2 c2 fa2 fn2 fc2 ra2 rn2 rc2 oa2 on2 oc2 w e1 e2 e3).mono ?_
  rintro e w' ⟨rfl, hb⟩
  exact ⟨false, rfl, ⟨(fun e => by cases e), fun e => absurd e.2.2.1 e3⟩, hb⟩
 by_cases e4 : pa = pa'
 rotate_left
 ·refine (specSame_no4 _ _ _ _ _ _ _ _ _ _ _ _ _ _ a n c fa fn fc ra rn rc oa on oc a2 n2 c2 fa2 fn2 fc2 ra2 rn2 rc2 oa2 on2 oc2 w e1 e2 e3 e4).mono ?_
  rintro e w' ⟨rfl, hb⟩
  exact ⟨false, rfl, ⟨(fun e => by cases e), fun e => absurd e.2.2.2.1 e4⟩, hb⟩
 by_cases e5 : wo = wo'
 rotate_left
 ·refine (specSame_no5 _ _ _ _ _ _ _ _ _ _ _ _ _ _ a n c fa fn fc ra rn rc oa on oc a2 n2 c2 fa2 fn2 fc2 ra2 rn2 rc2 oa2 on2 oc2 w e1 e2 e3 e4 e5).mono ?_
  rintro e w' ⟨rfl, hb⟩
  exact ⟨false, rfl, ⟨(fun e => by cases e), fun e => absurd e.2.2.2.2.1 e5⟩, hb⟩
 by_cases e6 : d = d'
 rotate_left
 ·refine (specSame_no6 _ _ _ _ _ _ _ _ _ _ _ _ _ _ a n c fa fn fc ra rn rc oa on oc a2 n2 c2 fa2 fn2 fc2 ra2 rn2 rc2 oa2 on2 oc2 w e1 e2 e3 e4 e5 e6).mono ?_
  rintro e w' ⟨rfl, hb⟩
  exact ⟨false, rfl, ⟨(fun e => by cases e), fun e => absurd e.2.2.2.2.2.1 e6⟩, hb⟩
 by_cases e7 : v = v'
 rotate_left
 ·refine (specSame_no7 _ _ _ _ _ _ _ _ _ _ _ _ _ _ a n c fa fn fc ra rn rc oa on oc a2 n2 c2 fa2 fn2 fc2 ra2 rn2 rc2 oa2 on2 oc2 w e1 e2 e3 e4 e5 e6 e7).mono ?_
  rintro e w' ⟨rfl, hb⟩
  exact ⟨false, rfl, ⟨(fun e => by cases e), fun e => absurd e.2.2.2.2.2.2.1 e7⟩, hb⟩
 by_cases e8 : n = n2
 rotate_left
 ·refine (specSame_no8 _ _ _ _ _ _ _ _ _ _ _ _ _ _ a n c fa fn fc ra rn rc oa on oc a2 n2 c2 fa2 fn2 fc2 ra2 rn2 rc2 oa2 on2 oc2 w e1 e2 e3 e4 e5 e6 e7 e8).mono ?_
  rintro e w' ⟨rfl, hb⟩
  exact ⟨false, rfl, ⟨(fun e => by cases e), fun e => absurd (by rw [← hp.size, ← hp2.size, e.2.2.2.2.2.2.2.1]) e8⟩, hb⟩
 by_cases e9 : fn = fn2
 rotate_left
 ·refine (specSame_no9 _ _ _ _ _ _ _ _ _ _ _ _ _ _ a n c fa fn fc ra rn rc oa on oc a2 n2 c2 fa2 fn2 fc2 ra2 rn2 rc2 oa2 on2 oc2 w e1 e2 e3 e4 e5 e6 e7 e8 e9).mono ?_
  rintro e w' ⟨rfl, hb⟩
  exact ⟨false, rfl, ⟨(fun e => by cases e), fun e => absurd (by rw [← hf.size, ← hf2.size, e.2.2.2.2.2.2.2.2.1]) e9⟩, hb⟩
 by_cases e10 : rn = rn2
 rotate_left
 ·refine (specSame_no10 _ _ _ _ _ _ _ _ _ _ _ _ _ _ a n c fa fn fc ra rn rc oa on oc a2 n2 c2 fa2 fn2 fc2 ra2 rn2 rc2 oa2 on2 oc2 w e1 e2 e3 e4 e5 e6 e7 e8 e9 e10).mono ?_
  rintro e w' ⟨rfl, hb⟩
  exact ⟨false, rfl, ⟨(fun e => by cases e), fun e => absurd (by rw [← hr.size, ← hr2.size, e.2.2.2.2.2.2.2.2.2.1]) e10⟩, hb⟩
 by_cases e11 : ol = ol'
 rotate_left
 ·refine (specSame_no11 _ _ _ _ _ _ _ _ _ _ _ _ _ _ _ _ a n c fa fn fc ra rn rc oa on oc a2 n2 c2 fa2 fn2 fc2 ra2 rn2 rc2 oa2 on2 oc2 w ho ho2 e1 e2 e3 e4 e5 e6 e7 e8 e9 e10 e11).mono ?_
  rintro e w' ⟨rfl, hb⟩
  exact ⟨false, rfl, ⟨(fun e => by cases e), fun e => absurd e.2.2.2.2.2.2.2.2.2.2 e11⟩, hb⟩
 subst e1
 subst e2
 subst e3
 subst e4
 subst e5
 subst e6
 subst e7
 subst e8
 subst e9
 subst e10
 have HD : Hid (decide (ol = ol') = true) := hide (decide_eq_true e11)
 have hnb : (nm.toList == nm.toList) = true := by simp
 have hle := hp.le
 have htop := hp.top
 have hlef := hf.le
 have htopf := hf.top
 have hler := hr.le
 have htopr := hr.top
 unfold maxLen at htop htopf htopr
 generalize hw1 : w.alloc (Obj.cells #[.int .i64 i, .string nm, .slice a n c, .slice fa fn fc, .slice ra rn rc, .slice oa on oc, .int .i64 t, .int .i64 pa, .int .i64 wo, .int .i64 d, .int .i64 v] 31) = w1
 generalize hw2 : w1.alloc (Obj.cells #[.int .i64 i, .string nm, .slice a2 n c2, .slice fa2 fn fc2, .slice ra2 rn rc2, .slice oa2 on2 oc2, .int .i64 t, .int .i64 pa, .int .i64 wo, .int .i64 d, .int .i64 v] 31) = w2
 have b01 : Below w.heap.size w w1 := by rw [← hw1]; exact below_one _ _
 have b12 : Below w1.heap.size w1 w2 := by rw [← hw2]; exact below_one _ _
 have b02 := gr_trans b01 b12
 have k1 : w2.heap[w.heap.size]? = some (.cells #[.int .i64 i, .string nm, .slice a n c, .slice fa fn fc, .slice ra rn rc, .slice oa on oc, .int .i64 t, .int .i64 pa, .int .i64 wo, .int .i64 d, .int .i64 v] 31) := kept_block (by rw [← hw1]; exact block_last _ _) b12
 have k2 : w2.heap[w1.heap.size]? = some (.cells #[.int .i64 i, .string nm, .slice a2 n c2, .slice fa2 fn fc2, .slice ra2 rn rc2, .slice oa2 on2 oc2, .int .i64 t, .int .i64 pa, .int .i64 wo, .int .i64 d, .int .i64 v] 31) := by rw [← hw2]; exact block_last _ _
 obtain ⟨x0, x1, x2, x3, x4, x5, x6, x7, x8, x9, x10⟩ := cells11 k1
 obtain ⟨y0, y1, y2, y3, y4, y5, y6, y7, y8, y9, y10⟩ := cells11 k2
 go_enter Tryz.func27, Tryz.ntmps27
 go_wp2_with fail
 refine (specSame_any oa on oc ol oa2 on2 oc2 ol' _ (ho.below b02) (ho2.below b02)).mono ?_
 rintro e w3 ⟨rfl, m, rfl⟩
 rw [HD.out]
 have vv := gr_drewN (Below.refl w2.heap.size w2) m
 clear x0 x1 x2 x3 x4 x5 x6 x7 x8 x9 x10 y0 y1 y2 y3 y4 y5 y6 y7 y8 y9 y10 hw1 hw2 b01 b12
 obtain ⟨x0, x1, x2, x3, x4, x5, x6, x7, x8, x9, x10⟩ := cells11 (kept_block k1 vv)
 obtain ⟨y0, y1, y2, y3, y4, y5, y6, y7, y8, y9, y10⟩ := cells11 (kept_block k2 vv)
 go_wp2_with fail
 clear x0 x1 x2 x3 x4 x5 x6 x7 x8 x9 x10 y0 y1 y2 y3 y4 y5 y6 y7 y8 y9 y10
 go_loopw [5] (fun i wr => ∃ k : Nat, k ≤ n ∧ i = .int .i64 k ∧ (∀ j : Nat, j < k → pl[j]? = pl'[j]?) ∧ Below w2.heap.size w2 wr) (fun i _ => n - (intOf i).toNat)
 case atStart => exact ⟨0, Nat.zero_le _, rfl, fun j hj => by omega, vv⟩
 case round =>
  obtain ⟨k, hk, rfl, hall, hb⟩ := hrel
  clear vv
  obtain ⟨x0, x1, x2, x3, x4, x5, x6, x7, x8, x9, x10⟩ := cells11 (kept_block k1 hb)
  obtain ⟨y0, y1, y2, y3, y4, y5, y6, y7, y8, y9, y10⟩ := cells11 (kept_block k2 hb)
  by_cases hlt : k < n
  ·obtain ⟨x, b, off, hx, rfl, cx0, cx1, cx2, cx3, cx4, cx5, cx6, cx7⟩ := pt_at (hp.below (gr_trans b02 hb)) k hlt
   obtain ⟨y, b2, off2, hy, rfl, dy0, dy1, dy2, dy3, dy4, dy5, dy6, dy7⟩ := pt_at (hp2.below (gr_trans b02 hb)) k hlt
   have j1 : (0 : Int) ≤ (k : Int) := by omega
   have j2 : (k : Int) < (n : Int) := by omega
   cases hs : samePt x y
   ·have HN : Hid (¬ (i = i ∧ nm = nm ∧ t = t ∧ pa = pa ∧ wo = wo ∧ d = d ∧ v = v ∧ pl = pl' ∧ fl = fl' ∧ rl = rl' ∧ ol = ol')) := hide (by
     intro e
     have e := e.2.2.2.2.2.2.2.1
     rw [e, hy] at hx
     cases hx
     rw [(samePt_iff x x).2 rfl] at hs
     cases hs)
    have hne : ∀ W, (binOp .neq 44 (.agg #[.bool x.up, .int .i64 x.k, .bool x.has, .int .i64 x.v.r, .int .i64 x.v.c, .int .i64 x.v.h, .int .i64 x.v.b, .int .i64 x.v.p]) (.agg #[.bool y.up, .int .i64 y.k, .bool y.has, .int .i64 y.v.r, .int .i64 y.v.c, .int .i64 y.v.h, .int .i64 y.v.b, .int .i64 y.v.p])).run Tryz.prog W = .ok (.bool true) W := fun W => by rw [pt_neq2, hs]; rfl
    have hgd : Tryz.prog.eqGuardType Tryz.prog.depth 44 = false := by kernel_rfl
    have HS : (fun W => (W.cell? ⟨w.heap.size, 0, none⟩ = some (.int .i64 i) ∧ W.cell? ⟨w.heap.size, 1, none⟩ = some (.string nm) ∧ W.cell? ⟨w.heap.size, 2, none⟩ = some (.slice (some ⟨b, off, none⟩) n c) ∧ W.cell? ⟨w.heap.size, 3, none⟩ = some (.slice fa fn fc) ∧ W.cell? ⟨w.heap.size, 4, none⟩ = some (.slice ra rn rc) ∧ W.cell? ⟨w.heap.size, 5, none⟩ = some (.slice oa on oc) ∧ W.cell? ⟨w.heap.size, 6, none⟩ = some (.int .i64 t) ∧ W.cell? ⟨w.heap.size, 7, none⟩ = some (.int .i64 pa) ∧ W.cell? ⟨w.heap.size, 8, none⟩ = some (.int .i64 wo) ∧ W.cell? ⟨w.heap.size, 9, none⟩ = some (.int .i64 d) ∧ W.cell? ⟨w.heap.size, 10, none⟩ = some (.int .i64 v)) ∧ (W.cell? ⟨w1.heap.size, 0, none⟩ = some (.int .i64 i) ∧ W.cell? ⟨w1.heap.size, 1, none⟩ = some (.string nm) ∧ W.cell? ⟨w1.heap.size, 2, none⟩ = some (.slice (some ⟨b2, off2, none⟩) n c2) ∧ W.cell? ⟨w1.heap.size, 3, none⟩ = some (.slice fa2 fn fc2) ∧ W.cell? ⟨w1.heap.size, 4, none⟩ = some (.slice ra2 rn rc2) ∧ W.cell? ⟨w1.heap.size, 5, none⟩ = some (.slice oa2 on2 oc2) ∧ W.cell? ⟨w1.heap.size, 6, none⟩ = some (.int .i64 t) ∧ W.cell? ⟨w1.heap.size, 7, none⟩ = some (.int .i64 pa) ∧ W.cell? ⟨w1.heap.size, 8, none⟩ = some (.int .i64 wo) ∧ W.cell? ⟨w1.heap.size, 9, none⟩ = some (.int .i64 d) ∧ W.cell? ⟨w1.heap.size, 10, none⟩ = some (.int .i64 v)) ∧ (W.cell? ⟨b, off + k * 8, none⟩ = some (.bool x.up) ∧ W.cell? ⟨b, off + k * 8 + 1, none⟩ = some (.int .i64 x.k) ∧ W.cell? ⟨b, off + k * 8 + 2, none⟩ = some (.bool x.has) ∧ W.cell? ⟨b, off + k * 8 + 3, none⟩ = some (.int .i64 x.v.r) ∧ W.cell? ⟨b, off + k * 8 + 4, none⟩ = some (.int .i64 x.v.c) ∧ W.cell? ⟨b, off + k * 8 + 5, none⟩ = some (.int .i64 x.v.h) ∧ W.cell? ⟨b, off + k * 8 + 6, none⟩ = some (.int .i64 x.v.b) ∧ W.cell? ⟨b, off + k * 8 + 7, none⟩ = some (.int .i64 x.v.p)) ∧ (W.cell? ⟨b2, off2 + k * 8, none⟩ = some (.bool y.up) ∧ W.cell? ⟨b2, off2 + k * 8 + 1, none⟩ = some (.int .i64 y.k) ∧ W.cell? ⟨b2, off2 + k * 8 + 2, none⟩ = some (.bool y.has) ∧ W.cell? ⟨b2, off2 + k * 8 + 3, none⟩ = some (.int .i64 y.v.r) ∧ W.cell? ⟨b2, off2 + k * 8 + 4, none⟩ = some (.int .i64 y.v.c) ∧ W.cell? ⟨b2, off2 + k * 8 + 5, none⟩ = some (.int .i64 y.v.h) ∧ W.cell? ⟨b2, off2 + k * 8 + 6, none⟩ = some (.int .i64 y.v.b) ∧ W.cell? ⟨b2, off2 + k * 8 + 7, none⟩ = some (.int .i64 y.v.p))) wr.drew := ⟨cells11 (kept_block k1 (gr_drew hb)), cells11 (kept_block k2 (gr_drew hb)), ⟨cx0, cx1, cx2, cx3, cx4, cx5, cx6, cx7⟩, dy0, dy1, dy2, dy3, dy4, dy5, dy6, dy7⟩
    clear hs hall hx hy
    go_wp2_with fail
    refine wp_region_held_drew (S := (fun W => (W.cell? ⟨w.heap.size, 0, none⟩ = some (.int .i64 i) ∧ W.cell? ⟨w.heap.size, 1, none⟩ = some (.string nm) ∧ W.cell? ⟨w.heap.size, 2, none⟩ = some (.slice (some ⟨b, off, none⟩) n c) ∧ W.cell? ⟨w.heap.size, 3, none⟩ = some (.slice fa fn fc) ∧ W.cell? ⟨w.heap.size, 4, none⟩ = some (.slice ra rn rc) ∧ W.cell? ⟨w.heap.size, 5, none⟩ = some (.slice oa on oc) ∧ W.cell? ⟨w.heap.size, 6, none⟩ = some (.int .i64 t) ∧ W.cell? ⟨w.heap.size, 7, none⟩ = some (.int .i64 pa) ∧ W.cell? ⟨w.heap.size, 8, none⟩ = some (.int .i64 wo) ∧ W.cell? ⟨w.heap.size, 9, none⟩ = some (.int .i64 d) ∧ W.cell? ⟨w.heap.size, 10, none⟩ = some (.int .i64 v)) ∧ (W.cell? ⟨w1.heap.size, 0, none⟩ = some (.int .i64 i) ∧ W.cell? ⟨w1.heap.size, 1, none⟩ = some (.string nm) ∧ W.cell? ⟨w1.heap.size, 2, none⟩ = some (.slice (some ⟨b2, off2, none⟩) n c2) ∧ W.cell? ⟨w1.heap.size, 3, none⟩ = some (.slice fa2 fn fc2) ∧ W.cell? ⟨w1.heap.size, 4, none⟩ = some (.slice ra2 rn rc2) ∧ W.cell? ⟨w1.heap.size, 5, none⟩ = some (.slice oa2 on2 oc2) ∧ W.cell? ⟨w1.heap.size, 6, none⟩ = some (.int .i64 t) ∧ W.cell? ⟨w1.heap.size, 7, none⟩ = some (.int .i64 pa) ∧ W.cell? ⟨w1.heap.size, 8, none⟩ = some (.int .i64 wo) ∧ W.cell? ⟨w1.heap.size, 9, none⟩ = some (.int .i64 d) ∧ W.cell? ⟨w1.heap.size, 10, none⟩ = some (.int .i64 v)) ∧ (W.cell? ⟨b, off + k * 8, none⟩ = some (.bool x.up) ∧ W.cell? ⟨b, off + k * 8 + 1, none⟩ = some (.int .i64 x.k) ∧ W.cell? ⟨b, off + k * 8 + 2, none⟩ = some (.bool x.has) ∧ W.cell? ⟨b, off + k * 8 + 3, none⟩ = some (.int .i64 x.v.r) ∧ W.cell? ⟨b, off + k * 8 + 4, none⟩ = some (.int .i64 x.v.c) ∧ W.cell? ⟨b, off + k * 8 + 5, none⟩ = some (.int .i64 x.v.h) ∧ W.cell? ⟨b, off + k * 8 + 6, none⟩ = some (.int .i64 x.v.b) ∧ W.cell? ⟨b, off + k * 8 + 7, none⟩ = some (.int .i64 x.v.p)) ∧ (W.cell? ⟨b2, off2 + k * 8, none⟩ = some (.bool y.up) ∧ W.cell? ⟨b2, off2 + k * 8 + 1, none⟩ = some (.int .i64 y.k) ∧ W.cell? ⟨b2, off2 + k * 8 + 2, none⟩ = some (.bool y.has) ∧ W.cell? ⟨b2, off2 + k * 8 + 3, none⟩ = some (.int .i64 y.v.r) ∧ W.cell? ⟨b2, off2 + k * 8 + 4, none⟩ = some (.int .i64 y.v.c) ∧ W.cell? ⟨b2, off2 + k * 8 + 5, none⟩ = some (.int .i64 y.v.h) ∧ W.cell? ⟨b2, off2 + k * 8 + 6, none⟩ = some (.int .i64 y.v.b) ∧ W.cell? ⟨b2, off2 + k * 8 + 7, none⟩ = some (.int .i64 y.v.p)))) (by kernel_rfl) (HS) (fun hHeld => ?_)
    refine kK 0 q423 ?_
    refine kK 1 q424 ?_
    refine kK 2 q425 ?_
    refine kK 3 q426 ?_
    refine kK 4 q427 ?_
    refine kK 5 q428 ?_
    refine kK 6 q429 ?_
    refine kK 7 q430 ?_
    refine kK 8 q431 ?_
    refine kK 9 q432 ?_
    refine kK 10 q433 ?_
    refine wpAnyH_done (by kernel_rfl) ?_ _
    clear HS hne hgd cx0 cx1 cx2 cx3 cx4 cx5 cx6 cx7 dy0 dy1 dy2 dy3 dy4 dy5 dy6 dy7
    go_wp2
    go_ret
    exact ⟨false, rfl, ⟨(fun e => by cases e), fun e => absurd e HN.out⟩, gr_trans b02 (gr_drew hb)⟩
   ·have HA : Hid (∀ j : Nat, j < k + 1 → pl[j]? = pl'[j]?) := hide (by
     intro j hj
     by_cases e : j = k
     ·subst e
      rw [hx, hy, (samePt_iff x y).1 hs]
     ·exact hall j (by omega))
    have hne : ∀ W, (binOp .neq 44 (.agg #[.bool x.up, .int .i64 x.k, .bool x.has, .int .i64 x.v.r, .int .i64 x.v.c, .int .i64 x.v.h, .int .i64 x.v.b, .int .i64 x.v.p]) (.agg #[.bool y.up, .int .i64 y.k, .bool y.has, .int .i64 y.v.r, .int .i64 y.v.c, .int .i64 y.v.h, .int .i64 y.v.b, .int .i64 y.v.p])).run Tryz.prog W = .ok (.bool false) W := fun W => by rw [pt_neq2, hs]; rfl
    have hgd : Tryz.prog.eqGuardType Tryz.prog.depth 44 = false := by kernel_rfl
    have HS : (fun W => (W.cell? ⟨w.heap.size, 0, none⟩ = some (.int .i64 i) ∧ W.cell? ⟨w.heap.size, 1, none⟩ = some (.string nm) ∧ W.cell? ⟨w.heap.size, 2, none⟩ = some (.slice (some ⟨b, off, none⟩) n c) ∧ W.cell? ⟨w.heap.size, 3, none⟩ = some (.slice fa fn fc) ∧ W.cell? ⟨w.heap.size, 4, none⟩ = some (.slice ra rn rc) ∧ W.cell? ⟨w.heap.size, 5, none⟩ = some (.slice oa on oc) ∧ W.cell? ⟨w.heap.size, 6, none⟩ = some (.int .i64 t) ∧ W.cell? ⟨w.heap.size, 7, none⟩ = some (.int .i64 pa) ∧ W.cell? ⟨w.heap.size, 8, none⟩ = some (.int .i64 wo) ∧ W.cell? ⟨w.heap.size, 9, none⟩ = some (.int .i64 d) ∧ W.cell? ⟨w.heap.size, 10, none⟩ = some (.int .i64 v)) ∧ (W.cell? ⟨w1.heap.size, 0, none⟩ = some (.int .i64 i) ∧ W.cell? ⟨w1.heap.size, 1, none⟩ = some (.string nm) ∧ W.cell? ⟨w1.heap.size, 2, none⟩ = some (.slice (some ⟨b2, off2, none⟩) n c2) ∧ W.cell? ⟨w1.heap.size, 3, none⟩ = some (.slice fa2 fn fc2) ∧ W.cell? ⟨w1.heap.size, 4, none⟩ = some (.slice ra2 rn rc2) ∧ W.cell? ⟨w1.heap.size, 5, none⟩ = some (.slice oa2 on2 oc2) ∧ W.cell? ⟨w1.heap.size, 6, none⟩ = some (.int .i64 t) ∧ W.cell? ⟨w1.heap.size, 7, none⟩ = some (.int .i64 pa) ∧ W.cell? ⟨w1.heap.size, 8, none⟩ = some (.int .i64 wo) ∧ W.cell? ⟨w1.heap.size, 9, none⟩ = some (.int .i64 d) ∧ W.cell? ⟨w1.heap.size, 10, none⟩ = some (.int .i64 v)) ∧ (W.cell? ⟨b, off + k * 8, none⟩ = some (.bool x.up) ∧ W.cell? ⟨b, off + k * 8 + 1, none⟩ = some (.int .i64 x.k) ∧ W.cell? ⟨b, off + k * 8 + 2, none⟩ = some (.bool x.has) ∧ W.cell? ⟨b, off + k * 8 + 3, none⟩ = some (.int .i64 x.v.r) ∧ W.cell? ⟨b, off + k * 8 + 4, none⟩ = some (.int .i64 x.v.c) ∧ W.cell? ⟨b, off + k * 8 + 5, none⟩ = some (.int .i64 x.v.h) ∧ W.cell? ⟨b, off + k * 8 + 6, none⟩ = some (.int .i64 x.v.b) ∧ W.cell? ⟨b, off + k * 8 + 7, none⟩ = some (.int .i64 x.v.p)) ∧ (W.cell? ⟨b2, off2 + k * 8, none⟩ = some (.bool y.up) ∧ W.cell? ⟨b2, off2 + k * 8 + 1, none⟩ = some (.int .i64 y.k) ∧ W.cell? ⟨b2, off2 + k * 8 + 2, none⟩ = some (.bool y.has) ∧ W.cell? ⟨b2, off2 + k * 8 + 3, none⟩ = some (.int .i64 y.v.r) ∧ W.cell? ⟨b2, off2 + k * 8 + 4, none⟩ = some (.int .i64 y.v.c) ∧ W.cell? ⟨b2, off2 + k * 8 + 5, none⟩ = some (.int .i64 y.v.h) ∧ W.cell? ⟨b2, off2 + k * 8 + 6, none⟩ = some (.int .i64 y.v.b) ∧ W.cell? ⟨b2, off2 + k * 8 + 7, none⟩ = some (.int .i64 y.v.p))) wr.drew := ⟨cells11 (kept_block k1 (gr_drew hb)), cells11 (kept_block k2 (gr_drew hb)), ⟨cx0, cx1, cx2, cx3, cx4, cx5, cx6, cx7⟩, dy0, dy1, dy2, dy3, dy4, dy5, dy6, dy7⟩
    clear hs hall hx hy
    go_wp2_with fail
    refine wp_region_held_drew (S := (fun W => (W.cell? ⟨w.heap.size, 0, none⟩ = some (.int .i64 i) ∧ W.cell? ⟨w.heap.size, 1, none⟩ = some (.string nm) ∧ W.cell? ⟨w.heap.size, 2, none⟩ = some (.slice (some ⟨b, off, none⟩) n c) ∧ W.cell? ⟨w.heap.size, 3, none⟩ = some (.slice fa fn fc) ∧ W.cell? ⟨w.heap.size, 4, none⟩ = some (.slice ra rn rc) ∧ W.cell? ⟨w.heap.size, 5, none⟩ = some (.slice oa on oc) ∧ W.cell? ⟨w.heap.size, 6, none⟩ = some (.int .i64 t) ∧ W.cell? ⟨w.heap.size, 7, none⟩ = some (.int .i64 pa) ∧ W.cell? ⟨w.heap.size, 8, none⟩ = some (.int .i64 wo) ∧ W.cell? ⟨w.heap.size, 9, none⟩ = some (.int .i64 d) ∧ W.cell? ⟨w.heap.size, 10, none⟩ = some (.int .i64 v)) ∧ (W.cell? ⟨w1.heap.size, 0, none⟩ = some (.int .i64 i) ∧ W.cell? ⟨w1.heap.size, 1, none⟩ = some (.string nm) ∧ W.cell? ⟨w1.heap.size, 2, none⟩ = some (.slice (some ⟨b2, off2, none⟩) n c2) ∧ W.cell? ⟨w1.heap.size, 3, none⟩ = some (.slice fa2 fn fc2) ∧ W.cell? ⟨w1.heap.size, 4, none⟩ = some (.slice ra2 rn rc2) ∧ W.cell? ⟨w1.heap.size, 5, none⟩ = some (.slice oa2 on2 oc2) ∧ W.cell? ⟨w1.heap.size, 6, none⟩ = some (.int .i64 t) ∧ W.cell? ⟨w1.heap.size, 7, none⟩ = some (.int .i64 pa) ∧ W.cell? ⟨w1.heap.size, 8, none⟩ = some (.int .i64 wo) ∧ W.cell? ⟨w1.heap.size, 9, none⟩ = some (.int .i64 d) ∧ W.cell? ⟨w1.heap.size, 10, none⟩ = some (.int .i64 v)) ∧ (W.cell? ⟨b, off + k * 8, none⟩ = some (.bool x.up) ∧ W.cell? ⟨b, off + k * 8 + 1, none⟩ = some (.int .i64 x.k) ∧ W.cell? ⟨b, off + k * 8 + 2, none⟩ = some (.bool x.has) ∧ W.cell? ⟨b, off + k * 8 + 3, none⟩ = some (.int .i64 x.v.r) ∧ W.cell? ⟨b, off + k * 8 + 4, none⟩ = some (.int .i64 x.v.c) ∧ W.cell? ⟨b, off + k * 8 + 5, none⟩ = some (.int .i64 x.v.h) ∧ W.cell? ⟨b, off + k * 8 + 6, none⟩ = some (.int .i64 x.v.b) ∧ W.cell? ⟨b, off + k * 8 + 7, none⟩ = some (.int .i64 x.v.p)) ∧ (W.cell? ⟨b2, off2 + k * 8, none⟩ = some (.bool y.up) ∧ W.cell? ⟨b2, off2 + k * 8 + 1, none⟩ = some (.int .i64 y.k) ∧ W.cell? ⟨b2, off2 + k * 8 + 2, none⟩ = some (.bool y.has) ∧ W.cell? ⟨b2, off2 + k * 8 + 3, none⟩ = some (.int .i64 y.v.r) ∧ W.cell? ⟨b2, off2 + k * 8 + 4, none⟩ = some (.int .i64 y.v.c) ∧ W.cell? ⟨b2, off2 + k * 8 + 5, none⟩ = some (.int .i64 y.v.h) ∧ W.cell? ⟨b2, off2 + k * 8 + 6, none⟩ = some (.int .i64 y.v.b) ∧ W.cell? ⟨b2, off2 + k * 8 + 7, none⟩ = some (.int .i64 y.v.p)))) (by kernel_rfl) (HS) (fun hHeld => ?_)
    refine kK 0 q423 ?_
    refine kK 1 q424 ?_
    refine kK 2 q425 ?_
    refine kK 3 q426 ?_
    refine kK 4 q427 ?_
    refine kK 5 q428 ?_
    refine kK 6 q429 ?_
    refine kK 7 q430 ?_
    refine kK 8 q431 ?_
    refine kK 9 q432 ?_
    refine kK 10 q433 ?_
    refine wpAnyH_done (by kernel_rfl) ?_ _
    clear HS hne hgd cx0 cx1 cx2 cx3 cx4 cx5 cx6 cx7 dy0 dy1 dy2 dy3 dy4 dy5 dy6 dy7
    go_wp2
    go_roundw
    case rel => exact ⟨k + 1, by omega, by go_num, HA.out, gr_drew hb⟩
    case measure => simp [intOf]; omega
  ·obtain rfl : n = k := by omega
   have HE1 : Hid (pl = pl') := hide (by
    refine List.ext_getElem? (fun j => ?_)
    have s1 := hp.size
    have s2 := hp2.size
    by_cases hj : j < n
    ·exact hall j hj
    ·rw [List.getElem?_eq_none (by omega), List.getElem?_eq_none (by omega)])
   have vv := hb
   clear hall hb
   go_wp2_with fail
   clear x0 x1 x2 x3 x4 x5 x6 x7 x8 x9 x10 y0 y1 y2 y3 y4 y5 y6 y7 y8 y9 y10
   go_loopw [6] (fun i wr => ∃ k : Nat, k ≤ fn ∧ i = .int .i64 k ∧ (∀ j : Nat, j < k → fl[j]? = fl'[j]?) ∧ Below w2.heap.size w2 wr) (fun i _ => fn - (intOf i).toNat)
   case atStart => exact ⟨0, Nat.zero_le _, rfl, fun j hj => by omega, vv⟩
   case round =>
    obtain ⟨k, hk, rfl, hall, hb⟩ := hrel
    clear vv
    obtain ⟨x0, x1, x2, x3, x4, x5, x6, x7, x8, x9, x10⟩ := cells11 (kept_block k1 hb)
    obtain ⟨y0, y1, y2, y3, y4, y5, y6, y7, y8, y9, y10⟩ := cells11 (kept_block k2 hb)
    by_cases hlt : k < fn
    ·obtain ⟨x, b, off, hx, rfl, cx0, cx1, cx2, cx3, cx4⟩ := fent_at (hf.below (gr_trans b02 hb)) k hlt
     obtain ⟨y, b2, off2, hy, rfl, dy0, dy1, dy2, dy3, dy4⟩ := fent_at (hf2.below (gr_trans b02 hb)) k hlt
     have j1 : (0 : Int) ≤ (k : Int) := by omega
     have j2 : (k : Int) < (fn : Int) := by omega
     cases hs : sameFe x y
     ·have HN : Hid (¬ (i = i ∧ nm = nm ∧ t = t ∧ pa = pa ∧ wo = wo ∧ d = d ∧ v = v ∧ pl = pl' ∧ fl = fl' ∧ rl = rl' ∧ ol = ol')) := hide (by
       intro e
       have e := e.2.2.2.2.2.2.2.2.1
       rw [e, hy] at hx
       cases hx
       rw [(sameFe_iff x x).2 rfl] at hs
       cases hs)
      have hne : ∀ W, (binOp .neq 49 (.agg #[.int .i64 x.t, .int .i64 x.m, .int .i64 x.p, .int .i64 x.a, .bool x.s]) (.agg #[.int .i64 y.t, .int .i64 y.m, .int .i64 y.p, .int .i64 y.a, .bool y.s])).run Tryz.prog W = .ok (.bool true) W := fun W => by rw [fent_neq2, hs]; rfl
      have hgd : Tryz.prog.eqGuardType Tryz.prog.depth 49 = false := by kernel_rfl
      have HS : (fun W => (W.cell? ⟨w.heap.size, 0, none⟩ = some (.int .i64 i) ∧ W.cell? ⟨w.heap.size, 1, none⟩ = some (.string nm) ∧ W.cell? ⟨w.heap.size, 2, none⟩ = some (.slice a n c) ∧ W.cell? ⟨w.heap.size, 3, none⟩ = some (.slice (some ⟨b, off, none⟩) fn fc) ∧ W.cell? ⟨w.heap.size, 4, none⟩ = some (.slice ra rn rc) ∧ W.cell? ⟨w.heap.size, 5, none⟩ = some (.slice oa on oc) ∧ W.cell? ⟨w.heap.size, 6, none⟩ = some (.int .i64 t) ∧ W.cell? ⟨w.heap.size, 7, none⟩ = some (.int .i64 pa) ∧ W.cell? ⟨w.heap.size, 8, none⟩ = some (.int .i64 wo) ∧ W.cell? ⟨w.heap.size, 9, none⟩ = some (.int .i64 d) ∧ W.cell? ⟨w.heap.size, 10, none⟩ = some (.int .i64 v)) ∧ (W.cell? ⟨w1.heap.size, 0, none⟩ = some (.int .i64 i) ∧ W.cell? ⟨w1.heap.size, 1, none⟩ = some (.string nm) ∧ W.cell? ⟨w1.heap.size, 2, none⟩ = some (.slice a2 n c2) ∧ W.cell? ⟨w1.heap.size, 3, none⟩ = some (.slice (some ⟨b2, off2, none⟩) fn fc2) ∧ W.cell? ⟨w1.heap.size, 4, none⟩ = some (.slice ra2 rn rc2) ∧ W.cell? ⟨w1.heap.size, 5, none⟩ = some (.slice oa2 on2 oc2) ∧ W.cell? ⟨w1.heap.size, 6, none⟩ = some (.int .i64 t) ∧ W.cell? ⟨w1.heap.size, 7, none⟩ = some (.int .i64 pa) ∧ W.cell? ⟨w1.heap.size, 8, none⟩ = some (.int .i64 wo) ∧ W.cell? ⟨w1.heap.size, 9, none⟩ = some (.int .i64 d) ∧ W.cell? ⟨w1.heap.size, 10, none⟩ = some (.int .i64 v)) ∧ (W.cell? ⟨b, off + k * 5, none⟩ = some (.int .i64 x.t) ∧ W.cell? ⟨b, off + k * 5 + 1, none⟩ = some (.int .i64 x.m) ∧ W.cell? ⟨b, off + k * 5 + 2, none⟩ = some (.int .i64 x.p) ∧ W.cell? ⟨b, off + k * 5 + 3, none⟩ = some (.int .i64 x.a) ∧ W.cell? ⟨b, off + k * 5 + 4, none⟩ = some (.bool x.s)) ∧ (W.cell? ⟨b2, off2 + k * 5, none⟩ = some (.int .i64 y.t) ∧ W.cell? ⟨b2, off2 + k * 5 + 1, none⟩ = some (.int .i64 y.m) ∧ W.cell? ⟨b2, off2 + k * 5 + 2, none⟩ = some (.int .i64 y.p) ∧ W.cell? ⟨b2, off2 + k * 5 + 3, none⟩ = some (.int .i64 y.a) ∧ W.cell? ⟨b2, off2 + k * 5 + 4, none⟩ = some (.bool y.s))) wr.drew := ⟨cells11 (kept_block k1 (gr_drew hb)), cells11 (kept_block k2 (gr_drew hb)), ⟨cx0, cx1, cx2, cx3, cx4⟩, dy0, dy1, dy2, dy3, dy4⟩
      clear hs hall hx hy
      go_wp2_with fail
      refine wp_region_held_drew (S := (fun W => (W.cell? ⟨w.heap.size, 0, none⟩ = some (.int .i64 i) ∧ W.cell? ⟨w.heap.size, 1, none⟩ = some (.string nm) ∧ W.cell? ⟨w.heap.size, 2, none⟩ = some (.slice a n c) ∧ W.cell? ⟨w.heap.size, 3, none⟩ = some (.slice (some ⟨b, off, none⟩) fn fc) ∧ W.cell? ⟨w.heap.size, 4, none⟩ = some (.slice ra rn rc) ∧ W.cell? ⟨w.heap.size, 5, none⟩ = some (.slice oa on oc) ∧ W.cell? ⟨w.heap.size, 6, none⟩ = some (.int .i64 t) ∧ W.cell? ⟨w.heap.size, 7, none⟩ = some (.int .i64 pa) ∧ W.cell? ⟨w.heap.size, 8, none⟩ = some (.int .i64 wo) ∧ W.cell? ⟨w.heap.size, 9, none⟩ = some (.int .i64 d) ∧ W.cell? ⟨w.heap.size, 10, none⟩ = some (.int .i64 v)) ∧ (W.cell? ⟨w1.heap.size, 0, none⟩ = some (.int .i64 i) ∧ W.cell? ⟨w1.heap.size, 1, none⟩ = some (.string nm) ∧ W.cell? ⟨w1.heap.size, 2, none⟩ = some (.slice a2 n c2) ∧ W.cell? ⟨w1.heap.size, 3, none⟩ = some (.slice (some ⟨b2, off2, none⟩) fn fc2) ∧ W.cell? ⟨w1.heap.size, 4, none⟩ = some (.slice ra2 rn rc2) ∧ W.cell? ⟨w1.heap.size, 5, none⟩ = some (.slice oa2 on2 oc2) ∧ W.cell? ⟨w1.heap.size, 6, none⟩ = some (.int .i64 t) ∧ W.cell? ⟨w1.heap.size, 7, none⟩ = some (.int .i64 pa) ∧ W.cell? ⟨w1.heap.size, 8, none⟩ = some (.int .i64 wo) ∧ W.cell? ⟨w1.heap.size, 9, none⟩ = some (.int .i64 d) ∧ W.cell? ⟨w1.heap.size, 10, none⟩ = some (.int .i64 v)) ∧ (W.cell? ⟨b, off + k * 5, none⟩ = some (.int .i64 x.t) ∧ W.cell? ⟨b, off + k * 5 + 1, none⟩ = some (.int .i64 x.m) ∧ W.cell? ⟨b, off + k * 5 + 2, none⟩ = some (.int .i64 x.p) ∧ W.cell? ⟨b, off + k * 5 + 3, none⟩ = some (.int .i64 x.a) ∧ W.cell? ⟨b, off + k * 5 + 4, none⟩ = some (.bool x.s)) ∧ (W.cell? ⟨b2, off2 + k * 5, none⟩ = some (.int .i64 y.t) ∧ W.cell? ⟨b2, off2 + k * 5 + 1, none⟩ = some (.int .i64 y.m) ∧ W.cell? ⟨b2, off2 + k * 5 + 2, none⟩ = some (.int .i64 y.p) ∧ W.cell? ⟨b2, off2 + k * 5 + 3, none⟩ = some (.int .i64 y.a) ∧ W.cell? ⟨b2, off2 + k * 5 + 4, none⟩ = some (.bool y.s)))) (by kernel_rfl) (HS) (fun hHeld => ?_)
      refine kK 0 q434 ?_
      refine kK 1 q435 ?_
      refine kK 2 q436 ?_
      refine kK 3 q437 ?_
      refine kK 4 q438 ?_
      refine kK 5 q439 ?_
      refine kK 6 q440 ?_
      refine kK 7 q441 ?_
      refine kK 8 q442 ?_
      refine kK 9 q443 ?_
      refine kK 10 q444 ?_
      refine wpAnyH_done (by kernel_rfl) ?_ _
      clear HS hne hgd cx0 cx1 cx2 cx3 cx4 dy0 dy1 dy2 dy3 dy4
      go_wp2
      go_ret
      exact ⟨false, rfl, ⟨(fun e => by cases e), fun e => absurd e HN.out⟩, gr_trans b02 (gr_drew hb)⟩
     ·have HA : Hid (∀ j : Nat, j < k + 1 → fl[j]? = fl'[j]?) := hide (by
       intro j hj
       by_cases e : j = k
       ·subst e
        rw [hx, hy, (sameFe_iff x y).1 hs]
       ·exact hall j (by omega))
      have hne : ∀ W, (binOp .neq 49 (.agg #[.int .i64 x.t, .int .i64 x.m, .int .i64 x.p, .int .i64 x.a, .bool x.s]) (.agg #[.int .i64 y.t, .int .i64 y.m, .int .i64 y.p, .int .i64 y.a, .bool y.s])).run Tryz.prog W = .ok (.bool false) W := fun W => by rw [fent_neq2, hs]; rfl
      have hgd : Tryz.prog.eqGuardType Tryz.prog.depth 49 = false := by kernel_rfl
      have HS : (fun W => (W.cell? ⟨w.heap.size, 0, none⟩ = some (.int .i64 i) ∧ W.cell? ⟨w.heap.size, 1, none⟩ = some (.string nm) ∧ W.cell? ⟨w.heap.size, 2, none⟩ = some (.slice a n c) ∧ W.cell? ⟨w.heap.size, 3, none⟩ = some (.slice (some ⟨b, off, none⟩) fn fc) ∧ W.cell? ⟨w.heap.size, 4, none⟩ = some (.slice ra rn rc) ∧ W.cell? ⟨w.heap.size, 5, none⟩ = some (.slice oa on oc) ∧ W.cell? ⟨w.heap.size, 6, none⟩ = some (.int .i64 t) ∧ W.cell? ⟨w.heap.size, 7, none⟩ = some (.int .i64 pa) ∧ W.cell? ⟨w.heap.size, 8, none⟩ = some (.int .i64 wo) ∧ W.cell? ⟨w.heap.size, 9, none⟩ = some (.int .i64 d) ∧ W.cell? ⟨w.heap.size, 10, none⟩ = some (.int .i64 v)) ∧ (W.cell? ⟨w1.heap.size, 0, none⟩ = some (.int .i64 i) ∧ W.cell? ⟨w1.heap.size, 1, none⟩ = some (.string nm) ∧ W.cell? ⟨w1.heap.size, 2, none⟩ = some (.slice a2 n c2) ∧ W.cell? ⟨w1.heap.size, 3, none⟩ = some (.slice (some ⟨b2, off2, none⟩) fn fc2) ∧ W.cell? ⟨w1.heap.size, 4, none⟩ = some (.slice ra2 rn rc2) ∧ W.cell? ⟨w1.heap.size, 5, none⟩ = some (.slice oa2 on2 oc2) ∧ W.cell? ⟨w1.heap.size, 6, none⟩ = some (.int .i64 t) ∧ W.cell? ⟨w1.heap.size, 7, none⟩ = some (.int .i64 pa) ∧ W.cell? ⟨w1.heap.size, 8, none⟩ = some (.int .i64 wo) ∧ W.cell? ⟨w1.heap.size, 9, none⟩ = some (.int .i64 d) ∧ W.cell? ⟨w1.heap.size, 10, none⟩ = some (.int .i64 v)) ∧ (W.cell? ⟨b, off + k * 5, none⟩ = some (.int .i64 x.t) ∧ W.cell? ⟨b, off + k * 5 + 1, none⟩ = some (.int .i64 x.m) ∧ W.cell? ⟨b, off + k * 5 + 2, none⟩ = some (.int .i64 x.p) ∧ W.cell? ⟨b, off + k * 5 + 3, none⟩ = some (.int .i64 x.a) ∧ W.cell? ⟨b, off + k * 5 + 4, none⟩ = some (.bool x.s)) ∧ (W.cell? ⟨b2, off2 + k * 5, none⟩ = some (.int .i64 y.t) ∧ W.cell? ⟨b2, off2 + k * 5 + 1, none⟩ = some (.int .i64 y.m) ∧ W.cell? ⟨b2, off2 + k * 5 + 2, none⟩ = some (.int .i64 y.p) ∧ W.cell? ⟨b2, off2 + k * 5 + 3, none⟩ = some (.int .i64 y.a) ∧ W.cell? ⟨b2, off2 + k * 5 + 4, none⟩ = some (.bool y.s))) wr.drew := ⟨cells11 (kept_block k1 (gr_drew hb)), cells11 (kept_block k2 (gr_drew hb)), ⟨cx0, cx1, cx2, cx3, cx4⟩, dy0, dy1, dy2, dy3, dy4⟩
      clear hs hall hx hy
      go_wp2_with fail
      refine wp_region_held_drew (S := (fun W => (W.cell? ⟨w.heap.size, 0, none⟩ = some (.int .i64 i) ∧ W.cell? ⟨w.heap.size, 1, none⟩ = some (.string nm) ∧ W.cell? ⟨w.heap.size, 2, none⟩ = some (.slice a n c) ∧ W.cell? ⟨w.heap.size, 3, none⟩ = some (.slice (some ⟨b, off, none⟩) fn fc) ∧ W.cell? ⟨w.heap.size, 4, none⟩ = some (.slice ra rn rc) ∧ W.cell? ⟨w.heap.size, 5, none⟩ = some (.slice oa on oc) ∧ W.cell? ⟨w.heap.size, 6, none⟩ = some (.int .i64 t) ∧ W.cell? ⟨w.heap.size, 7, none⟩ = some (.int .i64 pa) ∧ W.cell? ⟨w.heap.size, 8, none⟩ = some (.int .i64 wo) ∧ W.cell? ⟨w.heap.size, 9, none⟩ = some (.int .i64 d) ∧ W.cell? ⟨w.heap.size, 10, none⟩ = some (.int .i64 v)) ∧ (W.cell? ⟨w1.heap.size, 0, none⟩ = some (.int .i64 i) ∧ W.cell? ⟨w1.heap.size, 1, none⟩ = some (.string nm) ∧ W.cell? ⟨w1.heap.size, 2, none⟩ = some (.slice a2 n c2) ∧ W.cell? ⟨w1.heap.size, 3, none⟩ = some (.slice (some ⟨b2, off2, none⟩) fn fc2) ∧ W.cell? ⟨w1.heap.size, 4, none⟩ = some (.slice ra2 rn rc2) ∧ W.cell? ⟨w1.heap.size, 5, none⟩ = some (.slice oa2 on2 oc2) ∧ W.cell? ⟨w1.heap.size, 6, none⟩ = some (.int .i64 t) ∧ W.cell? ⟨w1.heap.size, 7, none⟩ = some (.int .i64 pa) ∧ W.cell? ⟨w1.heap.size, 8, none⟩ = some (.int .i64 wo) ∧ W.cell? ⟨w1.heap.size, 9, none⟩ = some (.int .i64 d) ∧ W.cell? ⟨w1.heap.size, 10, none⟩ = some (.int .i64 v)) ∧ (W.cell? ⟨b, off + k * 5, none⟩ = some (.int .i64 x.t) ∧ W.cell? ⟨b, off + k * 5 + 1, none⟩ = some (.int .i64 x.m) ∧ W.cell? ⟨b, off + k * 5 + 2, none⟩ = some (.int .i64 x.p) ∧ W.cell? ⟨b, off + k * 5 + 3, none⟩ = some (.int .i64 x.a) ∧ W.cell? ⟨b, off + k * 5 + 4, none⟩ = some (.bool x.s)) ∧ (W.cell? ⟨b2, off2 + k * 5, none⟩ = some (.int .i64 y.t) ∧ W.cell? ⟨b2, off2 + k * 5 + 1, none⟩ = some (.int .i64 y.m) ∧ W.cell? ⟨b2, off2 + k * 5 + 2, none⟩ = some (.int .i64 y.p) ∧ W.cell? ⟨b2, off2 + k * 5 + 3, none⟩ = some (.int .i64 y.a) ∧ W.cell? ⟨b2, off2 + k * 5 + 4, none⟩ = some (.bool y.s)))) (by kernel_rfl) (HS) (fun hHeld => ?_)
      refine kK 0 q434 ?_
      refine kK 1 q435 ?_
      refine kK 2 q436 ?_
      refine kK 3 q437 ?_
      refine kK 4 q438 ?_
      refine kK 5 q439 ?_
      refine kK 6 q440 ?_
      refine kK 7 q441 ?_
      refine kK 8 q442 ?_
      refine kK 9 q443 ?_
      refine kK 10 q444 ?_
      refine wpAnyH_done (by kernel_rfl) ?_ _
      clear HS hne hgd cx0 cx1 cx2 cx3 cx4 dy0 dy1 dy2 dy3 dy4
      go_wp2
      go_roundw
      case rel => exact ⟨k + 1, by omega, by go_num, HA.out, gr_drew hb⟩
      case measure => simp [intOf]; omega
    ·obtain rfl : fn = k := by omega
     have HE2 : Hid (fl = fl') := hide (by
      refine List.ext_getElem? (fun j => ?_)
      have s1 := hf.size
      have s2 := hf2.size
      by_cases hj : j < fn
      ·exact hall j hj
      ·rw [List.getElem?_eq_none (by omega), List.getElem?_eq_none (by omega)])
     have vv := hb
     clear hall hb
     go_wp2_with fail
     clear x0 x1 x2 x3 x4 x5 x6 x7 x8 x9 x10 y0 y1 y2 y3 y4 y5 y6 y7 y8 y9 y10
     go_loopw [7] (fun i wr => ∃ k : Nat, k ≤ rn ∧ i = .int .i64 k ∧ (∀ j : Nat, j < k → rl[j]? = rl'[j]?) ∧ Below w2.heap.size w2 wr) (fun i _ => rn - (intOf i).toNat)
     case atStart => exact ⟨0, Nat.zero_le _, rfl, fun j hj => by omega, vv⟩
     case round =>
      obtain ⟨k, hk, rfl, hall, hb⟩ := hrel
      clear vv
      obtain ⟨x0, x1, x2, x3, x4, x5, x6, x7, x8, x9, x10⟩ := cells11 (kept_block k1 hb)
      obtain ⟨y0, y1, y2, y3, y4, y5, y6, y7, y8, y9, y10⟩ := cells11 (kept_block k2 hb)
      by_cases hlt : k < rn
      ·obtain ⟨x, b, off, hx, rfl, cx0, cx1, cx2⟩ := vrow_at (hr.below (gr_trans b02 hb)) k hlt
       obtain ⟨y, b2, off2, hy, rfl, dy0, dy1, dy2⟩ := vrow_at (hr2.below (gr_trans b02 hb)) k hlt
       have j1 : (0 : Int) ≤ (k : Int) := by omega
       have j2 : (k : Int) < (rn : Int) := by omega
       cases hs : sameVr x y
       ·have HN : Hid (¬ (i = i ∧ nm = nm ∧ t = t ∧ pa = pa ∧ wo = wo ∧ d = d ∧ v = v ∧ pl = pl' ∧ fl = fl' ∧ rl = rl' ∧ ol = ol')) := hide (by
         intro e
         have e := e.2.2.2.2.2.2.2.2.2.1
         rw [e, hy] at hx
         cases hx
         rw [(sameVr_iff x x).2 rfl] at hs
         cases hs)
        have hne : ∀ W, (binOp .neq 81 (.agg #[.int .i64 x.i, .int .i64 x.m, .int .i64 x.b]) (.agg #[.int .i64 y.i, .int .i64 y.m, .int .i64 y.b])).run Tryz.prog W = .ok (.bool true) W := fun W => by rw [vrow_neq2, hs]; rfl
        have hgd : Tryz.prog.eqGuardType Tryz.prog.depth 81 = false := by kernel_rfl
        have HS : (fun W => (W.cell? ⟨w.heap.size, 0, none⟩ = some (.int .i64 i) ∧ W.cell? ⟨w.heap.size, 1, none⟩ = some (.string nm) ∧ W.cell? ⟨w.heap.size, 2, none⟩ = some (.slice a n c) ∧ W.cell? ⟨w.heap.size, 3, none⟩ = some (.slice fa fn fc) ∧ W.cell? ⟨w.heap.size, 4, none⟩ = some (.slice (some ⟨b, off, none⟩) rn rc) ∧ W.cell? ⟨w.heap.size, 5, none⟩ = some (.slice oa on oc) ∧ W.cell? ⟨w.heap.size, 6, none⟩ = some (.int .i64 t) ∧ W.cell? ⟨w.heap.size, 7, none⟩ = some (.int .i64 pa) ∧ W.cell? ⟨w.heap.size, 8, none⟩ = some (.int .i64 wo) ∧ W.cell? ⟨w.heap.size, 9, none⟩ = some (.int .i64 d) ∧ W.cell? ⟨w.heap.size, 10, none⟩ = some (.int .i64 v)) ∧ (W.cell? ⟨w1.heap.size, 0, none⟩ = some (.int .i64 i) ∧ W.cell? ⟨w1.heap.size, 1, none⟩ = some (.string nm) ∧ W.cell? ⟨w1.heap.size, 2, none⟩ = some (.slice a2 n c2) ∧ W.cell? ⟨w1.heap.size, 3, none⟩ = some (.slice fa2 fn fc2) ∧ W.cell? ⟨w1.heap.size, 4, none⟩ = some (.slice (some ⟨b2, off2, none⟩) rn rc2) ∧ W.cell? ⟨w1.heap.size, 5, none⟩ = some (.slice oa2 on2 oc2) ∧ W.cell? ⟨w1.heap.size, 6, none⟩ = some (.int .i64 t) ∧ W.cell? ⟨w1.heap.size, 7, none⟩ = some (.int .i64 pa) ∧ W.cell? ⟨w1.heap.size, 8, none⟩ = some (.int .i64 wo) ∧ W.cell? ⟨w1.heap.size, 9, none⟩ = some (.int .i64 d) ∧ W.cell? ⟨w1.heap.size, 10, none⟩ = some (.int .i64 v)) ∧ (W.cell? ⟨b, off + k * 3, none⟩ = some (.int .i64 x.i) ∧ W.cell? ⟨b, off + k * 3 + 1, none⟩ = some (.int .i64 x.m) ∧ W.cell? ⟨b, off + k * 3 + 2, none⟩ = some (.int .i64 x.b)) ∧ (W.cell? ⟨b2, off2 + k * 3, none⟩ = some (.int .i64 y.i) ∧ W.cell? ⟨b2, off2 + k * 3 + 1, none⟩ = some (.int .i64 y.m) ∧ W.cell? ⟨b2, off2 + k * 3 + 2, none⟩ = some (.int .i64 y.b))) wr.drew := ⟨cells11 (kept_block k1 (gr_drew hb)), cells11 (kept_block k2 (gr_drew hb)), ⟨cx0, cx1, cx2⟩, dy0, dy1, dy2⟩
        clear hs hall hx hy
        go_wp2_with fail
        refine wp_region_held_drew (S := (fun W => (W.cell? ⟨w.heap.size, 0, none⟩ = some (.int .i64 i) ∧ W.cell? ⟨w.heap.size, 1, none⟩ = some (.string nm) ∧ W.cell? ⟨w.heap.size, 2, none⟩ = some (.slice a n c) ∧ W.cell? ⟨w.heap.size, 3, none⟩ = some (.slice fa fn fc) ∧ W.cell? ⟨w.heap.size, 4, none⟩ = some (.slice (some ⟨b, off, none⟩) rn rc) ∧ W.cell? ⟨w.heap.size, 5, none⟩ = some (.slice oa on oc) ∧ W.cell? ⟨w.heap.size, 6, none⟩ = some (.int .i64 t) ∧ W.cell? ⟨w.heap.size, 7, none⟩ = some (.int .i64 pa) ∧ W.cell? ⟨w.heap.size, 8, none⟩ = some (.int .i64 wo) ∧ W.cell? ⟨w.heap.size, 9, none⟩ = some (.int .i64 d) ∧ W.cell? ⟨w.heap.size, 10, none⟩ = some (.int .i64 v)) ∧ (W.cell? ⟨w1.heap.size, 0, none⟩ = some (.int .i64 i) ∧ W.cell? ⟨w1.heap.size, 1, none⟩ = some (.string nm) ∧ W.cell? ⟨w1.heap.size, 2, none⟩ = some (.slice a2 n c2) ∧ W.cell? ⟨w1.heap.size, 3, none⟩ = some (.slice fa2 fn fc2) ∧ W.cell? ⟨w1.heap.size, 4, none⟩ = some (.slice (some ⟨b2, off2, none⟩) rn rc2) ∧ W.cell? ⟨w1.heap.size, 5, none⟩ = some (.slice oa2 on2 oc2) ∧ W.cell? ⟨w1.heap.size, 6, none⟩ = some (.int .i64 t) ∧ W.cell? ⟨w1.heap.size, 7, none⟩ = some (.int .i64 pa) ∧ W.cell? ⟨w1.heap.size, 8, none⟩ = some (.int .i64 wo) ∧ W.cell? ⟨w1.heap.size, 9, none⟩ = some (.int .i64 d) ∧ W.cell? ⟨w1.heap.size, 10, none⟩ = some (.int .i64 v)) ∧ (W.cell? ⟨b, off + k * 3, none⟩ = some (.int .i64 x.i) ∧ W.cell? ⟨b, off + k * 3 + 1, none⟩ = some (.int .i64 x.m) ∧ W.cell? ⟨b, off + k * 3 + 2, none⟩ = some (.int .i64 x.b)) ∧ (W.cell? ⟨b2, off2 + k * 3, none⟩ = some (.int .i64 y.i) ∧ W.cell? ⟨b2, off2 + k * 3 + 1, none⟩ = some (.int .i64 y.m) ∧ W.cell? ⟨b2, off2 + k * 3 + 2, none⟩ = some (.int .i64 y.b)))) (by kernel_rfl) (HS) (fun hHeld => ?_)
        refine kK 0 q445 ?_
        refine kK 1 q446 ?_
        refine kK 2 q447 ?_
        refine kK 3 q448 ?_
        refine kK 4 q449 ?_
        refine kK 5 q450 ?_
        refine kK 6 q451 ?_
        refine kK 7 q452 ?_
        refine kK 8 q453 ?_
        refine kK 9 q454 ?_
        refine kK 10 q455 ?_
        refine kK 11 q456 ?_
        refine kK 12 q457 ?_
        refine wpAnyH_done (by kernel_rfl) ?_ _
        clear HS hne hgd cx0 cx1 cx2 dy0 dy1 dy2
        go_wp2
        go_ret
        exact ⟨false, rfl, ⟨(fun e => by cases e), fun e => absurd e HN.out⟩, gr_trans b02 (gr_drew hb)⟩
       ·have HA : Hid (∀ j : Nat, j < k + 1 → rl[j]? = rl'[j]?) := hide (by
         intro j hj
         by_cases e : j = k
         ·subst e
          rw [hx, hy, (sameVr_iff x y).1 hs]
         ·exact hall j (by omega))
        have hne : ∀ W, (binOp .neq 81 (.agg #[.int .i64 x.i, .int .i64 x.m, .int .i64 x.b]) (.agg #[.int .i64 y.i, .int .i64 y.m, .int .i64 y.b])).run Tryz.prog W = .ok (.bool false) W := fun W => by rw [vrow_neq2, hs]; rfl
        have hgd : Tryz.prog.eqGuardType Tryz.prog.depth 81 = false := by kernel_rfl
        have HS : (fun W => (W.cell? ⟨w.heap.size, 0, none⟩ = some (.int .i64 i) ∧ W.cell? ⟨w.heap.size, 1, none⟩ = some (.string nm) ∧ W.cell? ⟨w.heap.size, 2, none⟩ = some (.slice a n c) ∧ W.cell? ⟨w.heap.size, 3, none⟩ = some (.slice fa fn fc) ∧ W.cell? ⟨w.heap.size, 4, none⟩ = some (.slice (some ⟨b, off, none⟩) rn rc) ∧ W.cell? ⟨w.heap.size, 5, none⟩ = some (.slice oa on oc) ∧ W.cell? ⟨w.heap.size, 6, none⟩ = some (.int .i64 t) ∧ W.cell? ⟨w.heap.size, 7, none⟩ = some (.int .i64 pa) ∧ W.cell? ⟨w.heap.size, 8, none⟩ = some (.int .i64 wo) ∧ W.cell? ⟨w.heap.size, 9, none⟩ = some (.int .i64 d) ∧ W.cell? ⟨w.heap.size, 10, none⟩ = some (.int .i64 v)) ∧ (W.cell? ⟨w1.heap.size, 0, none⟩ = some (.int .i64 i) ∧ W.cell? ⟨w1.heap.size, 1, none⟩ = some (.string nm) ∧ W.cell? ⟨w1.heap.size, 2, none⟩ = some (.slice a2 n c2) ∧ W.cell? ⟨w1.heap.size, 3, none⟩ = some (.slice fa2 fn fc2) ∧ W.cell? ⟨w1.heap.size, 4, none⟩ = some (.slice (some ⟨b2, off2, none⟩) rn rc2) ∧ W.cell? ⟨w1.heap.size, 5, none⟩ = some (.slice oa2 on2 oc2) ∧ W.cell? ⟨w1.heap.size, 6, none⟩ = some (.int .i64 t) ∧ W.cell? ⟨w1.heap.size, 7, none⟩ = some (.int .i64 pa) ∧ W.cell? ⟨w1.heap.size, 8, none⟩ = some (.int .i64 wo) ∧ W.cell? ⟨w1.heap.size, 9, none⟩ = some (.int .i64 d) ∧ W.cell? ⟨w1.heap.size, 10, none⟩ = some (.int .i64 v)) ∧ (W.cell? ⟨b, off + k * 3, none⟩ = some (.int .i64 x.i) ∧ W.cell? ⟨b, off + k * 3 + 1, none⟩ = some (.int .i64 x.m) ∧ W.cell? ⟨b, off + k * 3 + 2, none⟩ = some (.int .i64 x.b)) ∧ (W.cell? ⟨b2, off2 + k * 3, none⟩ = some (.int .i64 y.i) ∧ W.cell? ⟨b2, off2 + k * 3 + 1, none⟩ = some (.int .i64 y.m) ∧ W.cell? ⟨b2, off2 + k * 3 + 2, none⟩ = some (.int .i64 y.b))) wr.drew := ⟨cells11 (kept_block k1 (gr_drew hb)), cells11 (kept_block k2 (gr_drew hb)), ⟨cx0, cx1, cx2⟩, dy0, dy1, dy2⟩
        clear hs hall hx hy
        go_wp2_with fail
        refine wp_region_held_drew (S := (fun W => (W.cell? ⟨w.heap.size, 0, none⟩ = some (.int .i64 i) ∧ W.cell? ⟨w.heap.size, 1, none⟩ = some (.string nm) ∧ W.cell? ⟨w.heap.size, 2, none⟩ = some (.slice a n c) ∧ W.cell? ⟨w.heap.size, 3, none⟩ = some (.slice fa fn fc) ∧ W.cell? ⟨w.heap.size, 4, none⟩ = some (.slice (some ⟨b, off, none⟩) rn rc) ∧ W.cell? ⟨w.heap.size, 5, none⟩ = some (.slice oa on oc) ∧ W.cell? ⟨w.heap.size, 6, none⟩ = some (.int .i64 t) ∧ W.cell? ⟨w.heap.size, 7, none⟩ = some (.int .i64 pa) ∧ W.cell? ⟨w.heap.size, 8, none⟩ = some (.int .i64 wo) ∧ W.cell? ⟨w.heap.size, 9, none⟩ = some (.int .i64 d) ∧ W.cell? ⟨w.heap.size, 10, none⟩ = some (.int .i64 v)) ∧ (W.cell? ⟨w1.heap.size, 0, none⟩ = some (.int .i64 i) ∧ W.cell? ⟨w1.heap.size, 1, none⟩ = some (.string nm) ∧ W.cell? ⟨w1.heap.size, 2, none⟩ = some (.slice a2 n c2) ∧ W.cell? ⟨w1.heap.size, 3, none⟩ = some (.slice fa2 fn fc2) ∧ W.cell? ⟨w1.heap.size, 4, none⟩ = some (.slice (some ⟨b2, off2, none⟩) rn rc2) ∧ W.cell? ⟨w1.heap.size, 5, none⟩ = some (.slice oa2 on2 oc2) ∧ W.cell? ⟨w1.heap.size, 6, none⟩ = some (.int .i64 t) ∧ W.cell? ⟨w1.heap.size, 7, none⟩ = some (.int .i64 pa) ∧ W.cell? ⟨w1.heap.size, 8, none⟩ = some (.int .i64 wo) ∧ W.cell? ⟨w1.heap.size, 9, none⟩ = some (.int .i64 d) ∧ W.cell? ⟨w1.heap.size, 10, none⟩ = some (.int .i64 v)) ∧ (W.cell? ⟨b, off + k * 3, none⟩ = some (.int .i64 x.i) ∧ W.cell? ⟨b, off + k * 3 + 1, none⟩ = some (.int .i64 x.m) ∧ W.cell? ⟨b, off + k * 3 + 2, none⟩ = some (.int .i64 x.b)) ∧ (W.cell? ⟨b2, off2 + k * 3, none⟩ = some (.int .i64 y.i) ∧ W.cell? ⟨b2, off2 + k * 3 + 1, none⟩ = some (.int .i64 y.m) ∧ W.cell? ⟨b2, off2 + k * 3 + 2, none⟩ = some (.int .i64 y.b)))) (by kernel_rfl) (HS) (fun hHeld => ?_)
        refine kK 0 q445 ?_
        refine kK 1 q446 ?_
        refine kK 2 q447 ?_
        refine kK 3 q448 ?_
        refine kK 4 q449 ?_
        refine kK 5 q450 ?_
        refine kK 6 q451 ?_
        refine kK 7 q452 ?_
        refine kK 8 q453 ?_
        refine kK 9 q454 ?_
        refine kK 10 q455 ?_
        refine kK 11 q456 ?_
        refine kK 12 q457 ?_
        refine wpAnyH_done (by kernel_rfl) ?_ _
        clear HS hne hgd cx0 cx1 cx2 dy0 dy1 dy2
        go_wp2
        go_roundw
        case rel => exact ⟨k + 1, by omega, by go_num, HA.out, gr_drew hb⟩
        case measure => simp [intOf]; omega
      ·obtain rfl : rn = k := by omega
       have HE3 : Hid (rl = rl') := hide (by
        refine List.ext_getElem? (fun j => ?_)
        have s1 := hr.size
        have s2 := hr2.size
        by_cases hj : j < rn
        ·exact hall j hj
        ·rw [List.getElem?_eq_none (by omega), List.getElem?_eq_none (by omega)])
       have vv := hb
       clear hall hb
       go_wp2
       go_ret
       exact ⟨true, rfl, ⟨(fun _ => by have h1 := HE1.out; have h2 := HE2.out; have h3 := HE3.out; simp [h1, h2, h3, e11]), fun _ => rfl⟩, gr_trans b02 vv⟩

theorem specSameB_any (a : Option Addr) (n c : Nat) (fa : Option Addr) (fn fc : Nat) (ra : Option Addr) (rn rc : Nat) (oa : Option Addr) (on oc : Nat) (A : BR) (a2 : Option Addr) (n2 c2 : Nat) (fa2 : Option Addr) (fn2 fc2 : Nat) (ra2 : Option Addr) (rn2 rc2 : Nat) (oa2 : Option Addr) (on2 oc2 : Nat) (B : BR) (w : World) (h : BrRow w a n c fa fn fc ra rn rc oa on oc A) (h2 : BrRow w a2 n2 c2 fa2 fn2 fc2 ra2 rn2 rc2 oa2 on2 oc2 B) :
  Calls Tryz.prog 27 #[.agg #[.int .i64 A.id, .string A.name, .slice a n c, .slice fa fn fc, .slice ra rn rc, .slice oa on oc, .int .i64 A.ticks, .int .i64 A.parse, .int .i64 A.word, .int .i64 A.drops, .int .i64 A.vers], .agg #[.int .i64 B.id, .string B.name, .slice a2 n2 c2, .slice fa2 fn2 fc2, .slice ra2 rn2 rc2, .slice oa2 on2 oc2, .int .i64 B.ticks, .int .i64 B.parse, .int .i64 B.word, .int .i64 B.drops, .int .i64 B.vers]] w fun e w' => ∃ q : Bool, e = .returned (.bool q) ∧ (q = true ↔ A = B) ∧ Below w.heap.size w w' := by
 refine (specSameB_flat A.id A.name A.ports A.f A.v.rows A.v.own A.ticks A.parse A.word A.drops A.vers B.id B.name B.ports B.f B.v.rows B.v.own B.ticks B.parse B.word B.drops B.vers a n c fa fn fc ra rn rc oa on oc a2 n2 c2 fa2 fn2 fc2 ra2 rn2 rc2 oa2 on2 oc2 w h.ports h2.ports h.f h2.f h.v.rows h2.v.rows h.v.own h2.v.own).mono ?_
 rintro e w' ⟨q, rfl, hq, hb⟩
 refine ⟨q, rfl, hq.trans ?_, hb⟩
 obtain ⟨i, nm, p, f, ⟨r, o⟩, t, pa, wo, d, v⟩ := A
 obtain ⟨i', nm', p', f', ⟨r', o'⟩, t', pa', wo', d', v'⟩ := B
 simp only [BR.mk.injEq, VT.mk.injEq]
 constructor
 ·rintro ⟨h1, h2, h3, h4, h5, h6, h7, h8, h9, h10, h11⟩
  exact ⟨h1, h2, h8, h9, ⟨h10, h11⟩, h3, h4, h5, h6, h7⟩
 ·rintro ⟨h1, h2, h8, h9, ⟨h10, h11⟩, h3, h4, h5, h6, h7⟩
  exact ⟨h1, h2, h3, h4, h5, h6, h7, h8, h9, h10, h11⟩

end Go.Proofs.YtfknffdlmcckkaaGreat
