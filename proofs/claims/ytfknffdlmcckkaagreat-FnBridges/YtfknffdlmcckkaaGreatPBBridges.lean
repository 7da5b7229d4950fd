/-
  FnBridges answers true at all codes.
-/
import Derived.Test.YtfknffdlmcckkaaGreatPBKW
import Derived.Test.YtfknffdlmcckkaaGreatPBBrSameI
import Derived.Test.YtfknffdlmcckkaaGreatPBBrStepI
import Derived.Test.YtfknffdlmcckkaaGreatPBK01
import Derived.Test.YtfknffdlmcckkaaGreatPBK05
import Derived.Test.YtfknffdlmcckkaaGreatPBK25
import Derived.WalkKit
import Derived.ProofKit
import Derived.OpenShut
import Derived.ShutString
import Derived.ChangeOld
import Derived.Below
namespace Go.Proofs.YtfknffdlmcckkaaGreat
open Go.RowKit

abbrev q397 : Oper := ⟨some 32, .load 31 (.tmp 3), 31, "laws.go:610", #[], none⟩
abbrev q398 : Oper := ⟨some 33, .move (.tmp 4), 3, "laws.go:610", #[], none⟩
abbrev q399 : Oper := ⟨some 34, .move (.tmp 0), 22, "laws.go:610", #[], none⟩
abbrev q400 : Oper := ⟨some 35, .call ⟨.value (.func 10), #[.tmp 34, .const (.int .i64 2)], #[22, 3]⟩, 3, "laws.go:610", #[⟨2, .data⟩], none⟩
abbrev q401 : Oper := ⟨some 36, .binOp .rem 3 (.tmp 35) (.const (.int .i64 2)) 3, 3, "laws.go:610", #[⟨3, .data⟩], none⟩
abbrev q402 : Oper := ⟨some 37, .binOp .eql 3 (.tmp 36) (.const (.int .i64 0)) 3, 4, "laws.go:610", #[⟨4, .data⟩], none⟩
abbrev q403 : Oper := ⟨some 38, .call ⟨.value (.func 9), #[.tmp 32, .tmp 33, .tmp 37], #[31, 3, 4]⟩, 31, "laws.go:610", #[⟨0, .data⟩, ⟨1, .data⟩, ⟨5, .data⟩, ⟨3, .chain⟩], none⟩
abbrev q404 : Oper := ⟨some 9, .alloc 31, 0, "laws.go:610", #[], none⟩
abbrev q405 : Oper := ⟨none, .store 31 (.tmp 9) (.tmp 38), 0, "laws.go:610", #[⟨7, .data⟩, ⟨6, .data⟩, ⟨6, .chain⟩, ⟨0, .phase⟩, ⟨1, .phase⟩, ⟨2, .phase⟩, ⟨3, .phase⟩, ⟨4, .phase⟩, ⟨5, .phase⟩, ⟨6, .phase⟩, ⟨7, .phase⟩], none⟩
abbrev q406 : Oper := ⟨some 119, .load 31 (.tmp 3), 31, "laws.go:629", #[], none⟩
abbrev q407 : Oper := ⟨some 120, .call ⟨.value (.func 16), #[.tmp 119], #[31]⟩, 4, "laws.go:629", #[⟨0, .data⟩], none⟩
abbrev q408 : Oper := ⟨some 121, .move (.tmp 120), 4, "laws.go:629", #[⟨1, .data⟩, ⟨1, .chain⟩], none⟩
abbrev q409 : Oper := ⟨some 122, .load 31 (.tmp 8), 31, "laws.go:629", #[⟨2, .guard⟩], some (2, true)⟩
abbrev q410 : Oper := ⟨some 123, .call ⟨.value (.func 16), #[.tmp 122], #[31]⟩, 4, "laws.go:629", #[⟨3, .data⟩, ⟨2, .chain⟩, ⟨2, .guard⟩], some (2, true)⟩
abbrev q411 : Oper := ⟨some 124, .pick (.tmp 121) (.tmp 123) (.const (.bool false)), 4, "laws.go:629", #[⟨2, .data⟩, ⟨4, .data⟩], none⟩
abbrev q412 : Oper := ⟨some 125, .move (.tmp 124), 4, "laws.go:629", #[⟨5, .data⟩, ⟨4, .chain⟩], none⟩
abbrev q413 : Oper := ⟨some 126, .fieldAddr 31 (.tmp 9) 2, 0, "laws.go:629", #[⟨6, .guard⟩], some (6, true)⟩
abbrev q414 : Oper := ⟨some 127, .load 24 (.tmp 126), 24, "laws.go:629", #[⟨7, .data⟩, ⟨6, .guard⟩], some (6, true)⟩
abbrev q415 : Oper := ⟨some 128, .move (.tmp 4), 3, "laws.go:629", #[⟨6, .guard⟩], some (6, true)⟩
abbrev q416 : Oper := ⟨some 129, .indexAddr 24 (.tmp 127) (.tmp 128), 0, "laws.go:629", #[⟨8, .data⟩, ⟨9, .data⟩, ⟨6, .guard⟩], some (6, true)⟩
abbrev q417 : Oper := ⟨some 130, .fieldAddr 44 (.tmp 129) 0, 0, "laws.go:629", #[⟨10, .data⟩, ⟨6, .guard⟩], some (6, true)⟩
abbrev q418 : Oper := ⟨some 131, .load 4 (.tmp 130), 4, "laws.go:629", #[⟨11, .data⟩, ⟨6, .guard⟩], some (6, true)⟩
abbrev q419 : Oper := ⟨some 132, .move (.tmp 0), 22, "laws.go:629", #[⟨6, .guard⟩], some (6, true)⟩
abbrev q420 : Oper := ⟨some 133, .call ⟨.value (.func 10), #[.tmp 132, .const (.int .i64 2)], #[22, 3]⟩, 3, "laws.go:629", #[⟨13, .data⟩, ⟨6, .chain⟩, ⟨6, .guard⟩], some (6, true)⟩
abbrev q421 : Oper := ⟨some 134, .binOp .rem 3 (.tmp 133) (.const (.int .i64 2)) 3, 3, "laws.go:629", #[⟨14, .data⟩, ⟨6, .guard⟩], some (6, true)⟩
abbrev q422 : Oper := ⟨some 135, .binOp .eql 3 (.tmp 134) (.const (.int .i64 0)) 3, 4, "laws.go:629", #[⟨15, .data⟩, ⟨6, .guard⟩], some (6, true)⟩
abbrev q423 : Oper := ⟨some 136, .binOp .eql 4 (.tmp 131) (.tmp 135) 4, 4, "laws.go:629", #[⟨12, .data⟩, ⟨16, .data⟩, ⟨6, .guard⟩], some (6, true)⟩
abbrev q424 : Oper := ⟨some 137, .pick (.tmp 125) (.tmp 136) (.const (.bool false)), 4, "laws.go:629", #[⟨6, .data⟩, ⟨17, .data⟩], none⟩
abbrev q425 : Oper := ⟨some 138, .move (.tmp 137), 4, "laws.go:629", #[⟨18, .data⟩, ⟨14, .chain⟩], none⟩
abbrev q426 : Oper := ⟨some 139, .fieldAddr 31 (.tmp 9) 2, 0, "laws.go:629", #[⟨19, .guard⟩], some (19, true)⟩
abbrev q427 : Oper := ⟨some 140, .load 24 (.tmp 139), 24, "laws.go:629", #[⟨20, .data⟩, ⟨19, .guard⟩], some (19, true)⟩
abbrev q428 : Oper := ⟨some 141, .move (.tmp 4), 3, "laws.go:629", #[⟨19, .guard⟩], some (19, true)⟩
abbrev q429 : Oper := ⟨some 142, .indexAddr 24 (.tmp 140) (.tmp 141), 0, "laws.go:629", #[⟨21, .data⟩, ⟨22, .data⟩, ⟨19, .guard⟩], some (19, true)⟩
abbrev q430 : Oper := ⟨some 143, .fieldAddr 44 (.tmp 142) 2, 0, "laws.go:629", #[⟨23, .data⟩, ⟨19, .guard⟩], some (19, true)⟩
abbrev q431 : Oper := ⟨some 144, .load 4 (.tmp 143), 4, "laws.go:629", #[⟨24, .data⟩, ⟨19, .guard⟩], some (19, true)⟩
abbrev q432 : Oper := ⟨some 145, .unOp .not 4 (.tmp 144), 4, "laws.go:629", #[⟨25, .data⟩, ⟨19, .guard⟩], some (19, true)⟩
abbrev q433 : Oper := ⟨some 146, .pick (.tmp 138) (.tmp 145) (.const (.bool false)), 4, "laws.go:629", #[⟨19, .data⟩, ⟨26, .data⟩], none⟩
abbrev q434 : Oper := ⟨some 147, .move (.tmp 146), 4, "laws.go:629", #[⟨27, .data⟩, ⟨19, .chain⟩], none⟩
abbrev q435 : Oper := ⟨some 148, .fieldAddr 31 (.tmp 10) 5, 0, "laws.go:629", #[⟨28, .guard⟩], some (28, true)⟩
abbrev q436 : Oper := ⟨some 149, .load 3 (.tmp 148), 3, "laws.go:629", #[⟨29, .data⟩, ⟨28, .guard⟩], some (28, true)⟩
abbrev q437 : Oper := ⟨some 150, .fieldAddr 31 (.tmp 3) 5, 0, "laws.go:629", #[⟨28, .guard⟩], some (28, true)⟩
abbrev q438 : Oper := ⟨some 151, .load 3 (.tmp 150), 3, "laws.go:629", #[⟨31, .data⟩, ⟨28, .guard⟩], some (28, true)⟩
abbrev q439 : Oper := ⟨some 152, .binOp .add 3 (.tmp 151) (.const (.int .i64 1)) 3, 3, "laws.go:629", #[⟨32, .data⟩, ⟨28, .guard⟩], some (28, true)⟩
abbrev q440 : Oper := ⟨some 153, .binOp .eql 3 (.tmp 149) (.tmp 152) 3, 4, "laws.go:629", #[⟨30, .data⟩, ⟨33, .data⟩, ⟨28, .guard⟩], some (28, true)⟩
abbrev q441 : Oper := ⟨some 154, .pick (.tmp 147) (.tmp 153) (.const (.bool false)), 4, "laws.go:629", #[⟨28, .data⟩, ⟨34, .data⟩], none⟩
abbrev q442 : Oper := ⟨some 2, .assign (.tmp 154), 4, "laws.go:629", #[⟨35, .data⟩, ⟨28, .chain⟩, ⟨0, .phase⟩, ⟨1, .phase⟩, ⟨2, .phase⟩, ⟨3, .phase⟩, ⟨4, .phase⟩, ⟨5, .phase⟩, ⟨6, .phase⟩, ⟨7, .phase⟩, ⟨8, .phase⟩, ⟨9, .phase⟩, ⟨10, .phase⟩, ⟨11, .phase⟩, ⟨12, .phase⟩, ⟨13, .phase⟩, ⟨14, .phase⟩, ⟨15, .phase⟩, ⟨16, .phase⟩, ⟨17, .phase⟩, ⟨18, .phase⟩, ⟨19, .phase⟩, ⟨20, .phase⟩, ⟨21, .phase⟩, ⟨22, .phase⟩, ⟨23, .phase⟩, ⟨24, .phase⟩, ⟨25, .phase⟩, ⟨26, .phase⟩, ⟨27, .phase⟩, ⟨28, .phase⟩, ⟨29, .phase⟩, ⟨30, .phase⟩, ⟨31, .phase⟩, ⟨32, .phase⟩, ⟨33, .phase⟩, ⟨34, .phase⟩, ⟨35, .phase⟩], none⟩

theorem at2_any (a0 : Option Addr) (l0 c0 : Nat) (z0 : List Int) (hs : l0 ≤ 1048576) : ∃ x : Int, 0 ≤ x ∧ x ≤ 255 ∧ ∀ w, Row w a0 l0 c0 z0 → Calls Tryz.prog 10 #[.slice a0 l0 c0, .int .i64 2] w fun e w' => e = .returned (.int .i64 x) ∧ w' = w := by
 by_cases h2 : 2 < l0
 ·by_cases hr : ∃ w, Row w a0 l0 c0 z0
  ·obtain ⟨w0, r0⟩ := hr
   have hb := getD_byte r0.byte 2
   refine ⟨z0.getD 2 0, hb.1, hb.2, fun w h0 => ?_⟩
   obtain ⟨b, off, rfl, hc⟩ := h0.at (by omega)
   have c2 := hc 2 h2
   have hi : (2 : Int) < (l0 : Int) := by omega
   generalize z0.getD 2 0 = y at *
   have hw := wrap_small y hb
   clear hc
   go_enter Tryz.func10, Tryz.ntmps10
   go_wp2
   go_ret
   exact ⟨rfl, rfl⟩
  ·exact ⟨0, by omega, by omega, fun w h => absurd ⟨w, h⟩ hr⟩
 ·have hi : ¬ (2 : Int) < (l0 : Int) := by omega
  refine ⟨(62 + (l0 : Int) * 7) % 256, by omega, by omega, fun w h0 => ?_⟩
  go_enter Tryz.func10, Tryz.ntmps10
  go_wp2
  go_ret
  exact ⟨rfl, rfl⟩

theorem ent_port {l : List FE} {f : FE} (h : fdbOk l = true) (hf : f ∈ l) : ∃ p : Nat, f.p = (p : Int) ∧ p ≤ 7 := by
 have h1 := (entOk_iff f).1 ((((fdbOk_iff l).1 h).1).1 f hf)
 exact ⟨f.p.toNat, by omega, by omega⟩

theorem din_sizes {w : World} {a : Option Addr} {m c : Nat} {fa : Option Addr} {fn fc : Nat} {ra : Option Addr} {rn rc : Nat} {oa : Option Addr} {on oc : Nat} {B : BR} (h : DIn B m) (h4 : m ≤ 4) (r : BrRow w a m c fa fn fc ra rn rc oa on oc B) : m ≤ 1048576 ∧ fn ≤ 1048576 ∧ rn ≤ 1048576 ∧ on ≤ 1048576 := by
 have e2 := r.f.size
 have e3 := r.v.rows.size
 have e4 := r.v.own.size
 have d2 := ok_len h.f
 have d3 := h.v.len
 have d4 := h.v.own
 omega

set_option maxRecDepth 100000 in
set_option maxHeartbeats 32000000 in
theorem bridges_walk (a0 : Option Addr) (l0 c0 : Nat) (z0 : List Int) (w : World) (h0 : Row w a0 l0 c0 z0) :
  Calls Tryz.prog 3 #[.slice a0 l0 c0] w fun e w' => e = .returned (.bool true) ∧ Below w.heap.size w w' := by
 by_cases hbig : 1048576 < l0
 ·have hi : (1048576 : Int) < (l0 : Int) := by omega
  have hb1 : Calls Tryz.prog 5 #[.slice a0 l0 c0] w fun e w' => e = .returned (.bool true) ∧ w' = w := by
   go_enter Tryz.func5, Tryz.ntmps5
   go_wp2
   go_ret
   exact ⟨rfl, rfl⟩
  go_enter Tryz.func3, Tryz.ntmps3
  go_wp2_with fail
  refine hb1.mono ?_
  rintro e w1 ⟨rfl, e1⟩
  obtain rfl := e1.symm
  go_wp2
  go_ret
  exact ⟨rfl, Below.refl _ _⟩
 have hs : l0 ≤ 1048576 := by omega
 obtain ⟨x2, hx0, hx1, HAT0⟩ := at2_any a0 l0 c0 z0 hs
 have HAT := hide HAT0
 clear HAT0
 go_enter Tryz.func3, Tryz.ntmps3
 go_wp2_with fail
 refine (big_no a0 l0 c0 _ hbig).mono ?_
 rintro e w1 ⟨rfl, e1⟩
 obtain rfl := e1.symm
 go_wp2_with fail
 refine (drawBridge_any a0 l0 c0 z0 _ h0 hs).mono ?_
 rintro e w2 ⟨m, a, c, fa, fn, fc, ra, rn, rc, oa, on, oc, B, port, rfl, oB, din, ⟨h1, h4⟩, ⟨hp0, hp1⟩, hb2⟩
 obtain ⟨k, rfl⟩ : ∃ k : Nat, port = (k : Int) := ⟨port.toNat, by omega⟩
 have hk : k < m := by omega
 clear hp0 hp1
 generalize hw3 : w2.alloc (Obj.cells #[.int .i64 B.id, .string B.name, .slice a m c, .slice fa fn fc, .slice ra rn rc, .slice oa on oc, .int .i64 B.ticks, .int .i64 B.parse, .int .i64 B.word, .int .i64 B.drops, .int .i64 B.vers] 31) = w3
 have b23 : Below w2.heap.size w2 w3 := by rw [← hw3]; exact below_one _ _
 have kB : w3.heap[w2.heap.size]? = some (.cells #[.int .i64 B.id, .string B.name, .slice a m c, .slice fa fn fc, .slice ra rn rc, .slice oa on oc, .int .i64 B.ticks, .int .i64 B.parse, .int .i64 B.word, .int .i64 B.drops, .int .i64 B.vers] 31) := by rw [← hw3]; exact block_last _ _
 have oB := oB.below b23
 have u3 := gr_trans hb2 b23
 go_upto_region 4 with fail
 try rw [hw3]
 clear hw3 hb2 b23
 go_wp2_with fail
 refine (drawHearVec_any a0 l0 c0 z0 _ (h0.below u3) hs).mono ?_
 rintro e w4 ⟨a5, n5, c5, fa5, fn5, fc5, ra5, rn5, rc5, oa5, on5, oc5, B5, port5, v, rfl, o5, few5, hb4⟩
 have oB := oB.below hb4
 have kB := kept_block kB hb4
 have u4 := gr_trans u3 hb4
 clear u3 hb4 o5 few5
 go_upto_region 5 with fail
 generalize hw5 : (w4.alloc (Obj.cells #[.int .i64 B5.id, .string B5.name, .slice a5 n5 c5, .slice fa5 fn5 fc5, .slice ra5 rn5 rc5, .slice oa5 on5 oc5, .int .i64 B5.ticks, .int .i64 B5.parse, .int .i64 B5.word, .int .i64 B5.drops, .int .i64 B5.vers] 31)).alloc (Obj.cells #[.int .i64 v.r, .int .i64 v.c, .int .i64 v.h, .int .i64 v.b, .int .i64 v.p] 35) = w5
 have b45 : Below w4.heap.size w4 w5 := by rw [← hw5]; exact gr_trans (below_one _ _) (below_one _ _)
 have kV : w5.heap[w4.heap.size + 1]? = some (.cells #[.int .i64 v.r, .int .i64 v.c, .int .i64 v.h, .int .i64 v.b, .int .i64 v.p] 35) := by
  rw [← hw5]
  have := block_last (w4.alloc (Obj.cells #[.int .i64 B5.id, .string B5.name, .slice a5 n5 c5, .slice fa5 fn5 fc5, .slice ra5 rn5 rc5, .slice oa5 on5 oc5, .int .i64 B5.ticks, .int .i64 B5.parse, .int .i64 B5.word, .int .i64 B5.drops, .int .i64 B5.vers] 31)) (Obj.cells #[.int .i64 v.r, .int .i64 v.c, .int .i64 v.h, .int .i64 v.b, .int .i64 v.p] 35)
  simpa using this
 generalize hV7 : w4.heap.size + 1 = V7 at *
 have oB := oB.below b45
 have kB := kept_block kB b45
 have u5 := gr_trans u4 b45
 clear hw5 hV7 b45 u4
 obtain ⟨hn1, hn2, hn3, hn4⟩ := din_sizes din h4 oB.row
 have hRf := ok_rng din.f
 have hRv : ∀ r ∈ B.v.rows, r.Rng := fun r hr => (din.v.rows r hr).1
 obtain ⟨pk, hpk⟩ : ∃ x, B.ports[k]? = some x := ⟨B.ports[k]'(by have := din.len; omega), List.getElem?_eq_getElem (by have := din.len; omega)⟩
 obtain ⟨gx1, gx2, gx3⟩ := good_hear din h1 h4 hk hpk v
 obtain ⟨up, hup⟩ : ∃ up : Bool, (x2 % 2 == 0) = up := ⟨_, rfl⟩
 obtain ⟨gy1, gy2⟩ := good_link din h1 h4 hk up
 obtain ⟨gz1, gz2⟩ := good_tick din h1 h4
 have hBok := din_ok din h1 h4
 have lx := (hear_less B (k : Int) v).2.2
 have ly := (link_less B (k : Int) up).2.2
 have lt := (tick_less B).2.2
 generalize hX : hearB B (k : Int) v = X at *
 generalize hY : linkB B (k : Int) up = Y at *
 generalize hT : tickB B = T at *
 have HX := hide hX
 have HY := hide hY
 have HT := hide hT
 have GX1 := hide gx1
 have GX2 := hide gx2
 have GX3 := hide gx3
 have GY1 := hide gy1
 have GY2 := hide gy2
 have GZ1 := hide gz1
 have GZ2 := hide gz2
 have HBOK := hide hBok
 have LX := hide lx
 have LY := hide ly
 have LT := hide lt
 have HPK := hide hpk
 have HDIN := hide din
 clear hX hY hT gx1 gx2 gx3 gy1 gy2 gz1 gz2 hBok din lx ly lt
 obtain ⟨x0, x1, x2, x3, x4, x5, x6, x7, x8, x9, x10⟩ := cells11 kB
 obtain ⟨⟨v0, v1, v2, v3, v4⟩, -⟩ := cells5 kV
 go_wp2_with fail
 refine (implHear_made a m c fa fn fc ra rn rc oa on oc B (k : Int) v _ oB.row hn1 hn2 hn3 hn4 hRf hRv).mono ?_
 rw [HX.out]
 rintro e w6 ⟨a6, n6, c6, fa6, fn6, fc6, ra6, rn6, rc6, oa6, on6, oc6, rfl, oX, hb6⟩
 generalize hw7 : w6.alloc (Obj.cells #[.int .i64 X.id, .string X.name, .slice a6 n6 c6, .slice fa6 fn6 fc6, .slice ra6 rn6 rc6, .slice oa6 on6 oc6, .int .i64 X.ticks, .int .i64 X.parse, .int .i64 X.word, .int .i64 X.drops, .int .i64 X.vers] 31) = w7
 have b67 : Below w6.heap.size w6 w7 := by rw [← hw7]; exact below_one _ _
 have kX : w7.heap[w6.heap.size]? = some (.cells #[.int .i64 X.id, .string X.name, .slice a6 n6 c6, .slice fa6 fn6 fc6, .slice ra6 rn6 rc6, .slice oa6 on6 oc6, .int .i64 X.ticks, .int .i64 X.parse, .int .i64 X.word, .int .i64 X.drops, .int .i64 X.vers] 31) := by rw [← hw7]; exact block_last _ _
 have d7 := gr_trans hb6 b67
 have oX := oX.below b67
 have oB := oB.below d7
 have kB := kept_block kB d7
 have kV := kept_block kV d7
 have u7 := gr_trans u5 d7
 go_upto_region 6 with fail
 try rw [hw7]
 clear hw7 hb6 b67 d7 u5 x0 x1 x2 x3 x4 x5 x6 x7 x8 x9 x10 v0 v1 v2 v3 v4
 go_cut [9] from 15 to 154 (fun s wx => ∃ (g : Nat) (a9 : Option Addr) (n9 c9 : Nat) (fa9 : Option Addr) (fn9 fc9 : Nat) (ra9 : Option Addr) (rn9 rc9 : Nat) (oa9 : Option Addr) (on9 oc9 : Nat), s = .pointer (some ⟨g, 0, none⟩) ∧ w7.heap.size ≤ g ∧ wx.heap[g]? = some (.cells #[.int .i64 Y.id, .string Y.name, .slice a9 n9 c9, .slice fa9 fn9 fc9, .slice ra9 rn9 rc9, .slice oa9 on9 oc9, .int .i64 Y.ticks, .int .i64 Y.parse, .int .i64 Y.word, .int .i64 Y.drops, .int .i64 Y.vers] 31) ∧ BrOwn wx w7.heap.size a9 n9 c9 fa9 fn9 fc9 ra9 rn9 rc9 oa9 on9 oc9 Y ∧ Below w7.heap.size w7 wx)
 case first =>
  cases up
  ·have hm : x2 % 2 = 1 := by simp at hup; omega
   have ht : x2.tmod 2 = 1 := by rw [Int.tmod_eq_emod_of_nonneg hx0]; exact hm
   clear hup
   have vv : Below w7.heap.size w7 w7.drew := gr_drew (Below.refl _ _)
   go_wp2_with fail
   refine wp_region_held_drew (S := (fun W => (W.cell? ⟨w2.heap.size, 0, none⟩ = some (.int .i64 B.id) ∧ W.cell? ⟨w2.heap.size, 1, none⟩ = some (.string B.name) ∧ W.cell? ⟨w2.heap.size, 2, none⟩ = some (.slice a m c) ∧ W.cell? ⟨w2.heap.size, 3, none⟩ = some (.slice fa fn fc) ∧ W.cell? ⟨w2.heap.size, 4, none⟩ = some (.slice ra rn rc) ∧ W.cell? ⟨w2.heap.size, 5, none⟩ = some (.slice oa on oc) ∧ W.cell? ⟨w2.heap.size, 6, none⟩ = some (.int .i64 B.ticks) ∧ W.cell? ⟨w2.heap.size, 7, none⟩ = some (.int .i64 B.parse) ∧ W.cell? ⟨w2.heap.size, 8, none⟩ = some (.int .i64 B.word) ∧ W.cell? ⟨w2.heap.size, 9, none⟩ = some (.int .i64 B.drops) ∧ W.cell? ⟨w2.heap.size, 10, none⟩ = some (.int .i64 B.vers)))) (by kernel_rfl) (cells11 (kept_block kB vv)) (fun hHeld => ?_)
   refine tK (v := ?_) 0 q397 ?_ ?_
   rotate_left
   ·(intro _ h; (try dsimp only at h); go_simp; try with_reducible rfl)
   simp only [Act.put, lA, lB, lC]
   refine tK (v := ?_) 1 q398 ?_ ?_
   rotate_left
   ·(intro _ h; (try dsimp only at h); go_simp; try with_reducible rfl)
   simp only [Act.put, lA, lB, lC]
   refine tK (v := ?_) 2 q399 ?_ ?_
   rotate_left
   ·(intro _ h; (try dsimp only at h); go_simp; try with_reducible rfl)
   simp only [Act.put, lA, lB, lC]
   refine tR [3, 7] ?_
   refine AllReadyH.cons (o := q400) rfl (fun K hK => ?_) ?_
   ·go_simp
    refine (HAT.out _ (h0.below (gr_trans u7 vv))).mono ?_
    rintro e wx ⟨rfl, ex⟩
    obtain rfl := ex.symm
    go_wp2_with fail
    refine hK.out _ _ (cells11 (kept_block kB vv)) (fun hHeld => ?_)
    clear hK K
    try simp only [Act.put, lA, lB, lC]
    refine tK (v := ?_) 4 q401 ?_ ?_
    rotate_left
    ·(intro _ h; (try dsimp only at h); go_simp; try with_reducible rfl)
    simp only [Act.put, lA, lB, lC]
    refine tK (v := .bool false) 5 q402 ?_ ?_
    ·(intro wY hSw; (try dsimp only at hSw); go_simp; first | done | omega)
    simp only [Act.put, lA, lB, lC]
    refine tR [6, 7] ?_
    refine AllReadyH.cons (o := q403) rfl (fun K hK => ?_) ?_
    ·go_simp
     refine (implLink_made a m c fa fn fc ra rn rc oa on oc B (k : Int) false _ (oB.below vv).row hn1 hn2 hn3 hn4 hRf hRv).mono ?_
     rw [HY.out]
     rintro e wx ⟨a9, n9, c9, fa9, fn9, fc9, ra9, rn9, rc9, oa9, on9, oc9, rfl, t9, hbx⟩
     have t9 := t9.lt (base' := w7.heap.size) vv.size
     try have kN := kept_block kN hbx
     have vv := gr_trans vv hbx
     clear hbx
     go_wp2_with fail
     refine hK.out _ _ (cells11 (kept_block kB vv)) (fun hHeld => ?_)
     clear hK K
     try simp only [Act.put, lA, lB, lC]
     refine tR [7] ?_
     refine AllReadyH.cons (o := q404) rfl (fun K hK => ?_) ?_
     ·go_simp
      first
      | refine made_new (K := K _) (fun wx kN hbx => ?_)
      | refine made_drew (K := K _) (fun wx kN hbx => ?_)
      have gN := vv.size
      try have t9 := t9.below hbx
      have vv := gr_trans vv hbx
      clear hbx
      refine hK.out _ _ (cells11 (kept_block kB vv)) (fun hHeld => ?_)
      clear hK K
      try simp only [Act.put, lA, lB, lC]
      refine tR [8] ?_
      refine AllReadyH.cons (o := q405) rfl (fun K hK => ?_) ?_
      ·obtain ⟨b0, b1, b2, b3, b4, b5, b6, b7, b8, b9, b10⟩ := cells11 kN
       have fr := frozen8 kN
       have fr0 := fr 0
       have fr1 := fr 1
       have fr2 := fr 2
       have fr3 := fr 3
       have fr4 := fr 4
       have fr5 := fr 5
       have fr6 := fr 6
       have fr7 := fr 7
       have fr8 := fr 8
       have fr9 := fr 9
       have fr10 := fr 10
       go_simp
       clear b0 b1 b2 b3 b4 b5 b6 b7 b8 b9 b10 fr0 fr1 fr2 fr3 fr4 fr5 fr6 fr7 fr8 fr9 fr10 fr
       have vv := below_set11 vv gN (.int .i64 Y.id) (.string Y.name) (.slice a9 n9 c9) (.slice fa9 fn9 fc9) (.slice ra9 rn9 rc9) (.slice oa9 on9 oc9) (.int .i64 Y.ticks) (.int .i64 Y.parse) (.int .i64 Y.word) (.int .i64 Y.drops) (.int .i64 Y.vers)
       have t9 := t9.boxed11 kN (.int .i64 Y.id) (.string Y.name) (.slice a9 n9 c9) (.slice fa9 fn9 fc9) (.slice ra9 rn9 rc9) (.slice oa9 on9 oc9) (.int .i64 Y.ticks) (.int .i64 Y.parse) (.int .i64 Y.word) (.int .i64 Y.drops) (.int .i64 Y.vers)
       have kN := set_box11B kN (.int .i64 Y.id) (.string Y.name) (.slice a9 n9 c9) (.slice fa9 fn9 fc9) (.slice ra9 rn9 rc9) (.slice oa9 on9 oc9) (.int .i64 Y.ticks) (.int .i64 Y.parse) (.int .i64 Y.word) (.int .i64 Y.drops) (.int .i64 Y.vers)
       refine hK.out _ _ (cells11 (kept_block kB vv)) (fun hHeld => ?_)
       clear hK K
       try simp only [Act.put, lA, lB, lC]
       refine wpAnyH_done (by kernel_rfl) ?_ _
       clear hHeld
       go_wp2_with fail
       go_meet
       exact ⟨_, a9, n9, c9, fa9, fn9, fc9, ra9, rn9, rc9, oa9, on9, oc9, rfl, gN, kN, t9, vv⟩
      exact AllReadyH.nil
     exact AllReadyH.nil
    refine AllReadyH.cons (o := q404) rfl (fun K hK => ?_) ?_
    ·go_simp
     first
     | refine made_new (K := K _) (fun wx kN hbx => ?_)
     | refine made_drew (K := K _) (fun wx kN hbx => ?_)
     have gN := vv.size
     try have t9 := t9.below hbx
     have vv := gr_trans vv hbx
     clear hbx
     refine hK.out _ _ (cells11 (kept_block kB vv)) (fun hHeld => ?_)
     clear hK K
     try simp only [Act.put, lA, lB, lC]
     refine tR [6] ?_
     refine AllReadyH.cons (o := q403) rfl (fun K hK => ?_) ?_
     ·go_simp
      refine (implLink_made a m c fa fn fc ra rn rc oa on oc B (k : Int) false _ (oB.below vv).row hn1 hn2 hn3 hn4 hRf hRv).mono ?_
      rw [HY.out]
      rintro e wx ⟨a9, n9, c9, fa9, fn9, fc9, ra9, rn9, rc9, oa9, on9, oc9, rfl, t9, hbx⟩
      have t9 := t9.lt (base' := w7.heap.size) vv.size
      try have kN := kept_block kN hbx
      have vv := gr_trans vv hbx
      clear hbx
      go_wp2_with fail
      refine hK.out _ _ (cells11 (kept_block kB vv)) (fun hHeld => ?_)
      clear hK K
      try simp only [Act.put, lA, lB, lC]
      refine tR [8] ?_
      refine AllReadyH.cons (o := q405) rfl (fun K hK => ?_) ?_
      ·obtain ⟨b0, b1, b2, b3, b4, b5, b6, b7, b8, b9, b10⟩ := cells11 kN
       have fr := frozen8 kN
       have fr0 := fr 0
       have fr1 := fr 1
       have fr2 := fr 2
       have fr3 := fr 3
       have fr4 := fr 4
       have fr5 := fr 5
       have fr6 := fr 6
       have fr7 := fr 7
       have fr8 := fr 8
       have fr9 := fr 9
       have fr10 := fr 10
       go_simp
       clear b0 b1 b2 b3 b4 b5 b6 b7 b8 b9 b10 fr0 fr1 fr2 fr3 fr4 fr5 fr6 fr7 fr8 fr9 fr10 fr
       have vv := below_set11 vv gN (.int .i64 Y.id) (.string Y.name) (.slice a9 n9 c9) (.slice fa9 fn9 fc9) (.slice ra9 rn9 rc9) (.slice oa9 on9 oc9) (.int .i64 Y.ticks) (.int .i64 Y.parse) (.int .i64 Y.word) (.int .i64 Y.drops) (.int .i64 Y.vers)
       have t9 := t9.boxed11 kN (.int .i64 Y.id) (.string Y.name) (.slice a9 n9 c9) (.slice fa9 fn9 fc9) (.slice ra9 rn9 rc9) (.slice oa9 on9 oc9) (.int .i64 Y.ticks) (.int .i64 Y.parse) (.int .i64 Y.word) (.int .i64 Y.drops) (.int .i64 Y.vers)
       have kN := set_box11B kN (.int .i64 Y.id) (.string Y.name) (.slice a9 n9 c9) (.slice fa9 fn9 fc9) (.slice ra9 rn9 rc9) (.slice oa9 on9 oc9) (.int .i64 Y.ticks) (.int .i64 Y.parse) (.int .i64 Y.word) (.int .i64 Y.drops) (.int .i64 Y.vers)
       refine hK.out _ _ (cells11 (kept_block kB vv)) (fun hHeld => ?_)
       clear hK K
       try simp only [Act.put, lA, lB, lC]
       refine wpAnyH_done (by kernel_rfl) ?_ _
       clear hHeld
       go_wp2_with fail
       go_meet
       exact ⟨_, a9, n9, c9, fa9, fn9, fc9, ra9, rn9, rc9, oa9, on9, oc9, rfl, gN, kN, t9, vv⟩
      exact AllReadyH.nil
     exact AllReadyH.nil
    exact AllReadyH.nil
   refine AllReadyH.cons (o := q404) rfl (fun K hK => ?_) ?_
   ·go_simp
    first
    | refine made_new (K := K _) (fun wx kN hbx => ?_)
    | refine made_drew (K := K _) (fun wx kN hbx => ?_)
    have gN := vv.size
    try have t9 := t9.below hbx
    have vv := gr_trans vv hbx
    clear hbx
    refine hK.out _ _ (cells11 (kept_block kB vv)) (fun hHeld => ?_)
    clear hK K
    try simp only [Act.put, lA, lB, lC]
    refine tR [3] ?_
    refine AllReadyH.cons (o := q400) rfl (fun K hK => ?_) ?_
    ·go_simp
     refine (HAT.out _ (h0.below (gr_trans u7 vv))).mono ?_
     rintro e wx ⟨rfl, ex⟩
     obtain rfl := ex.symm
     go_wp2_with fail
     refine hK.out _ _ (cells11 (kept_block kB vv)) (fun hHeld => ?_)
     clear hK K
     try simp only [Act.put, lA, lB, lC]
     refine tK (v := ?_) 4 q401 ?_ ?_
     rotate_left
     ·(intro _ h; (try dsimp only at h); go_simp; try with_reducible rfl)
     simp only [Act.put, lA, lB, lC]
     refine tK (v := .bool false) 5 q402 ?_ ?_
     ·(intro wY hSw; (try dsimp only at hSw); go_simp; first | done | omega)
     simp only [Act.put, lA, lB, lC]
     refine tR [6] ?_
     refine AllReadyH.cons (o := q403) rfl (fun K hK => ?_) ?_
     ·go_simp
      refine (implLink_made a m c fa fn fc ra rn rc oa on oc B (k : Int) false _ (oB.below vv).row hn1 hn2 hn3 hn4 hRf hRv).mono ?_
      rw [HY.out]
      rintro e wx ⟨a9, n9, c9, fa9, fn9, fc9, ra9, rn9, rc9, oa9, on9, oc9, rfl, t9, hbx⟩
      have t9 := t9.lt (base' := w7.heap.size) vv.size
      try have kN := kept_block kN hbx
      have vv := gr_trans vv hbx
      clear hbx
      go_wp2_with fail
      refine hK.out _ _ (cells11 (kept_block kB vv)) (fun hHeld => ?_)
      clear hK K
      try simp only [Act.put, lA, lB, lC]
      refine tR [8] ?_
      refine AllReadyH.cons (o := q405) rfl (fun K hK => ?_) ?_
      ·obtain ⟨b0, b1, b2, b3, b4, b5, b6, b7, b8, b9, b10⟩ := cells11 kN
       have fr := frozen8 kN
       have fr0 := fr 0
       have fr1 := fr 1
       have fr2 := fr 2
       have fr3 := fr 3
       have fr4 := fr 4
       have fr5 := fr 5
       have fr6 := fr 6
       have fr7 := fr 7
       have fr8 := fr 8
       have fr9 := fr 9
       have fr10 := fr 10
       go_simp
       clear b0 b1 b2 b3 b4 b5 b6 b7 b8 b9 b10 fr0 fr1 fr2 fr3 fr4 fr5 fr6 fr7 fr8 fr9 fr10 fr
       have vv := below_set11 vv gN (.int .i64 Y.id) (.string Y.name) (.slice a9 n9 c9) (.slice fa9 fn9 fc9) (.slice ra9 rn9 rc9) (.slice oa9 on9 oc9) (.int .i64 Y.ticks) (.int .i64 Y.parse) (.int .i64 Y.word) (.int .i64 Y.drops) (.int .i64 Y.vers)
       have t9 := t9.boxed11 kN (.int .i64 Y.id) (.string Y.name) (.slice a9 n9 c9) (.slice fa9 fn9 fc9) (.slice ra9 rn9 rc9) (.slice oa9 on9 oc9) (.int .i64 Y.ticks) (.int .i64 Y.parse) (.int .i64 Y.word) (.int .i64 Y.drops) (.int .i64 Y.vers)
       have kN := set_box11B kN (.int .i64 Y.id) (.string Y.name) (.slice a9 n9 c9) (.slice fa9 fn9 fc9) (.slice ra9 rn9 rc9) (.slice oa9 on9 oc9) (.int .i64 Y.ticks) (.int .i64 Y.parse) (.int .i64 Y.word) (.int .i64 Y.drops) (.int .i64 Y.vers)
       refine hK.out _ _ (cells11 (kept_block kB vv)) (fun hHeld => ?_)
       clear hK K
       try simp only [Act.put, lA, lB, lC]
       refine wpAnyH_done (by kernel_rfl) ?_ _
       clear hHeld
       go_wp2_with fail
       go_meet
       exact ⟨_, a9, n9, c9, fa9, fn9, fc9, ra9, rn9, rc9, oa9, on9, oc9, rfl, gN, kN, t9, vv⟩
      exact AllReadyH.nil
     exact AllReadyH.nil
    exact AllReadyH.nil
   exact AllReadyH.nil
  ·have hm : x2 % 2 = 0 := by simp at hup; omega
   have ht : x2.tmod 2 = 0 := by rw [Int.tmod_eq_emod_of_nonneg hx0]; exact hm
   clear hup
   have vv : Below w7.heap.size w7 w7.drew := gr_drew (Below.refl _ _)
   go_wp2_with fail
   refine wp_region_held_drew (S := (fun W => (W.cell? ⟨w2.heap.size, 0, none⟩ = some (.int .i64 B.id) ∧ W.cell? ⟨w2.heap.size, 1, none⟩ = some (.string B.name) ∧ W.cell? ⟨w2.heap.size, 2, none⟩ = some (.slice a m c) ∧ W.cell? ⟨w2.heap.size, 3, none⟩ = some (.slice fa fn fc) ∧ W.cell? ⟨w2.heap.size, 4, none⟩ = some (.slice ra rn rc) ∧ W.cell? ⟨w2.heap.size, 5, none⟩ = some (.slice oa on oc) ∧ W.cell? ⟨w2.heap.size, 6, none⟩ = some (.int .i64 B.ticks) ∧ W.cell? ⟨w2.heap.size, 7, none⟩ = some (.int .i64 B.parse) ∧ W.cell? ⟨w2.heap.size, 8, none⟩ = some (.int .i64 B.word) ∧ W.cell? ⟨w2.heap.size, 9, none⟩ = some (.int .i64 B.drops) ∧ W.cell? ⟨w2.heap.size, 10, none⟩ = some (.int .i64 B.vers)))) (by kernel_rfl) (cells11 (kept_block kB vv)) (fun hHeld => ?_)
   refine tK (v := ?_) 0 q397 ?_ ?_
   rotate_left
   ·(intro _ h; (try dsimp only at h); go_simp; try with_reducible rfl)
   simp only [Act.put, lA, lB, lC]
   refine tK (v := ?_) 1 q398 ?_ ?_
   rotate_left
   ·(intro _ h; (try dsimp only at h); go_simp; try with_reducible rfl)
   simp only [Act.put, lA, lB, lC]
   refine tK (v := ?_) 2 q399 ?_ ?_
   rotate_left
   ·(intro _ h; (try dsimp only at h); go_simp; try with_reducible rfl)
   simp only [Act.put, lA, lB, lC]
   refine tR [3, 7] ?_
   refine AllReadyH.cons (o := q400) rfl (fun K hK => ?_) ?_
   ·go_simp
    refine (HAT.out _ (h0.below (gr_trans u7 vv))).mono ?_
    rintro e wx ⟨rfl, ex⟩
    obtain rfl := ex.symm
    go_wp2_with fail
    refine hK.out _ _ (cells11 (kept_block kB vv)) (fun hHeld => ?_)
    clear hK K
    try simp only [Act.put, lA, lB, lC]
    refine tK (v := ?_) 4 q401 ?_ ?_
    rotate_left
    ·(intro _ h; (try dsimp only at h); go_simp; try with_reducible rfl)
    simp only [Act.put, lA, lB, lC]
    refine tK (v := .bool true) 5 q402 ?_ ?_
    ·(intro wY hSw; (try dsimp only at hSw); go_simp; first | done | omega)
    simp only [Act.put, lA, lB, lC]
    refine tR [6, 7] ?_
    refine AllReadyH.cons (o := q403) rfl (fun K hK => ?_) ?_
    ·go_simp
     refine (implLink_made a m c fa fn fc ra rn rc oa on oc B (k : Int) true _ (oB.below vv).row hn1 hn2 hn3 hn4 hRf hRv).mono ?_
     rw [HY.out]
     rintro e wx ⟨a9, n9, c9, fa9, fn9, fc9, ra9, rn9, rc9, oa9, on9, oc9, rfl, t9, hbx⟩
     have t9 := t9.lt (base' := w7.heap.size) vv.size
     try have kN := kept_block kN hbx
     have vv := gr_trans vv hbx
     clear hbx
     go_wp2_with fail
     refine hK.out _ _ (cells11 (kept_block kB vv)) (fun hHeld => ?_)
     clear hK K
     try simp only [Act.put, lA, lB, lC]
     refine tR [7] ?_
     refine AllReadyH.cons (o := q404) rfl (fun K hK => ?_) ?_
     ·go_simp
      first
      | refine made_new (K := K _) (fun wx kN hbx => ?_)
      | refine made_drew (K := K _) (fun wx kN hbx => ?_)
      have gN := vv.size
      try have t9 := t9.below hbx
      have vv := gr_trans vv hbx
      clear hbx
      refine hK.out _ _ (cells11 (kept_block kB vv)) (fun hHeld => ?_)
      clear hK K
      try simp only [Act.put, lA, lB, lC]
      refine tR [8] ?_
      refine AllReadyH.cons (o := q405) rfl (fun K hK => ?_) ?_
      ·obtain ⟨b0, b1, b2, b3, b4, b5, b6, b7, b8, b9, b10⟩ := cells11 kN
       have fr := frozen8 kN
       have fr0 := fr 0
       have fr1 := fr 1
       have fr2 := fr 2
       have fr3 := fr 3
       have fr4 := fr 4
       have fr5 := fr 5
       have fr6 := fr 6
       have fr7 := fr 7
       have fr8 := fr 8
       have fr9 := fr 9
       have fr10 := fr 10
       go_simp
       clear b0 b1 b2 b3 b4 b5 b6 b7 b8 b9 b10 fr0 fr1 fr2 fr3 fr4 fr5 fr6 fr7 fr8 fr9 fr10 fr
       have vv := below_set11 vv gN (.int .i64 Y.id) (.string Y.name) (.slice a9 n9 c9) (.slice fa9 fn9 fc9) (.slice ra9 rn9 rc9) (.slice oa9 on9 oc9) (.int .i64 Y.ticks) (.int .i64 Y.parse) (.int .i64 Y.word) (.int .i64 Y.drops) (.int .i64 Y.vers)
       have t9 := t9.boxed11 kN (.int .i64 Y.id) (.string Y.name) (.slice a9 n9 c9) (.slice fa9 fn9 fc9) (.slice ra9 rn9 rc9) (.slice oa9 on9 oc9) (.int .i64 Y.ticks) (.int .i64 Y.parse) (.int .i64 Y.word) (.int .i64 Y.drops) (.int .i64 Y.vers)
       have kN := set_box11B kN (.int .i64 Y.id) (.string Y.name) (.slice a9 n9 c9) (.slice fa9 fn9 fc9) (.slice ra9 rn9 rc9) (.slice oa9 on9 oc9) (.int .i64 Y.ticks) (.int .i64 Y.parse) (.int .i64 Y.word) (.int .i64 Y.drops) (.int .i64 Y.vers)
       refine hK.out _ _ (cells11 (kept_block kB vv)) (fun hHeld => ?_)
       clear hK K
       try simp only [Act.put, lA, lB, lC]
       refine wpAnyH_done (by kernel_rfl) ?_ _
       clear hHeld
       go_wp2_with fail
       go_meet
       exact ⟨_, a9, n9, c9, fa9, fn9, fc9, ra9, rn9, rc9, oa9, on9, oc9, rfl, gN, kN, t9, vv⟩
      exact AllReadyH.nil
     exact AllReadyH.nil
    refine AllReadyH.cons (o := q404) rfl (fun K hK => ?_) ?_
    ·go_simp
     first
     | refine made_new (K := K _) (fun wx kN hbx => ?_)
     | refine made_drew (K := K _) (fun wx kN hbx => ?_)
     have gN := vv.size
     try have t9 := t9.below hbx
     have vv := gr_trans vv hbx
     clear hbx
     refine hK.out _ _ (cells11 (kept_block kB vv)) (fun hHeld => ?_)
     clear hK K
     try simp only [Act.put, lA, lB, lC]
     refine tR [6] ?_
     refine AllReadyH.cons (o := q403) rfl (fun K hK => ?_) ?_
     ·go_simp
      refine (implLink_made a m c fa fn fc ra rn rc oa on oc B (k : Int) true _ (oB.below vv).row hn1 hn2 hn3 hn4 hRf hRv).mono ?_
      rw [HY.out]
      rintro e wx ⟨a9, n9, c9, fa9, fn9, fc9, ra9, rn9, rc9, oa9, on9, oc9, rfl, t9, hbx⟩
      have t9 := t9.lt (base' := w7.heap.size) vv.size
      try have kN := kept_block kN hbx
      have vv := gr_trans vv hbx
      clear hbx
      go_wp2_with fail
      refine hK.out _ _ (cells11 (kept_block kB vv)) (fun hHeld => ?_)
      clear hK K
      try simp only [Act.put, lA, lB, lC]
      refine tR [8] ?_
      refine AllReadyH.cons (o := q405) rfl (fun K hK => ?_) ?_
      ·obtain ⟨b0, b1, b2, b3, b4, b5, b6, b7, b8, b9, b10⟩ := cells11 kN
       have fr := frozen8 kN
       have fr0 := fr 0
       have fr1 := fr 1
       have fr2 := fr 2
       have fr3 := fr 3
       have fr4 := fr 4
       have fr5 := fr 5
       have fr6 := fr 6
       have fr7 := fr 7
       have fr8 := fr 8
       have fr9 := fr 9
       have fr10 := fr 10
       go_simp
       clear b0 b1 b2 b3 b4 b5 b6 b7 b8 b9 b10 fr0 fr1 fr2 fr3 fr4 fr5 fr6 fr7 fr8 fr9 fr10 fr
       have vv := below_set11 vv gN (.int .i64 Y.id) (.string Y.name) (.slice a9 n9 c9) (.slice fa9 fn9 fc9) (.slice ra9 rn9 rc9) (.slice oa9 on9 oc9) (.int .i64 Y.ticks) (.int .i64 Y.parse) (.int .i64 Y.word) (.int .i64 Y.drops) (.int .i64 Y.vers)
       have t9 := t9.boxed11 kN (.int .i64 Y.id) (.string Y.name) (.slice a9 n9 c9) (.slice fa9 fn9 fc9) (.slice ra9 rn9 rc9) (.slice oa9 on9 oc9) (.int .i64 Y.ticks) (.int .i64 Y.parse) (.int .i64 Y.word) (.int .i64 Y.drops) (.int .i64 Y.vers)
       have kN := set_box11B kN (.int .i64 Y.id) (.string Y.name) (.slice a9 n9 c9) (.slice fa9 fn9 fc9) (.slice ra9 rn9 rc9) (.slice oa9 on9 oc9) (.int .i64 Y.ticks) (.int .i64 Y.parse) (.int .i64 Y.word) (.int .i64 Y.drops) (.int .i64 Y.vers)
       refine hK.out _ _ (cells11 (kept_block kB vv)) (fun hHeld => ?_)
       clear hK K
       try simp only [Act.put, lA, lB, lC]
       refine wpAnyH_done (by kernel_rfl) ?_ _
       clear hHeld
       go_wp2_with fail
       go_meet
       exact ⟨_, a9, n9, c9, fa9, fn9, fc9, ra9, rn9, rc9, oa9, on9, oc9, rfl, gN, kN, t9, vv⟩
      exact AllReadyH.nil
     exact AllReadyH.nil
    exact AllReadyH.nil
   refine AllReadyH.cons (o := q404) rfl (fun K hK => ?_) ?_
   ·go_simp
    first
    | refine made_new (K := K _) (fun wx kN hbx => ?_)
    | refine made_drew (K := K _) (fun wx kN hbx => ?_)
    have gN := vv.size
    try have t9 := t9.below hbx
    have vv := gr_trans vv hbx
    clear hbx
    refine hK.out _ _ (cells11 (kept_block kB vv)) (fun hHeld => ?_)
    clear hK K
    try simp only [Act.put, lA, lB, lC]
    refine tR [3] ?_
    refine AllReadyH.cons (o := q400) rfl (fun K hK => ?_) ?_
    ·go_simp
     refine (HAT.out _ (h0.below (gr_trans u7 vv))).mono ?_
     rintro e wx ⟨rfl, ex⟩
     obtain rfl := ex.symm
     go_wp2_with fail
     refine hK.out _ _ (cells11 (kept_block kB vv)) (fun hHeld => ?_)
     clear hK K
     try simp only [Act.put, lA, lB, lC]
     refine tK (v := ?_) 4 q401 ?_ ?_
     rotate_left
     ·(intro _ h; (try dsimp only at h); go_simp; try with_reducible rfl)
     simp only [Act.put, lA, lB, lC]
     refine tK (v := .bool true) 5 q402 ?_ ?_
     ·(intro wY hSw; (try dsimp only at hSw); go_simp; first | done | omega)
     simp only [Act.put, lA, lB, lC]
     refine tR [6] ?_
     refine AllReadyH.cons (o := q403) rfl (fun K hK => ?_) ?_
     ·go_simp
      refine (implLink_made a m c fa fn fc ra rn rc oa on oc B (k : Int) true _ (oB.below vv).row hn1 hn2 hn3 hn4 hRf hRv).mono ?_
      rw [HY.out]
      rintro e wx ⟨a9, n9, c9, fa9, fn9, fc9, ra9, rn9, rc9, oa9, on9, oc9, rfl, t9, hbx⟩
      have t9 := t9.lt (base' := w7.heap.size) vv.size
      try have kN := kept_block kN hbx
      have vv := gr_trans vv hbx
      clear hbx
      go_wp2_with fail
      refine hK.out _ _ (cells11 (kept_block kB vv)) (fun hHeld => ?_)
      clear hK K
      try simp only [Act.put, lA, lB, lC]
      refine tR [8] ?_
      refine AllReadyH.cons (o := q405) rfl (fun K hK => ?_) ?_
      ·obtain ⟨b0, b1, b2, b3, b4, b5, b6, b7, b8, b9, b10⟩ := cells11 kN
       have fr := frozen8 kN
       have fr0 := fr 0
       have fr1 := fr 1
       have fr2 := fr 2
       have fr3 := fr 3
       have fr4 := fr 4
       have fr5 := fr 5
       have fr6 := fr 6
       have fr7 := fr 7
       have fr8 := fr 8
       have fr9 := fr 9
       have fr10 := fr 10
       go_simp
       clear b0 b1 b2 b3 b4 b5 b6 b7 b8 b9 b10 fr0 fr1 fr2 fr3 fr4 fr5 fr6 fr7 fr8 fr9 fr10 fr
       have vv := below_set11 vv gN (.int .i64 Y.id) (.string Y.name) (.slice a9 n9 c9) (.slice fa9 fn9 fc9) (.slice ra9 rn9 rc9) (.slice oa9 on9 oc9) (.int .i64 Y.ticks) (.int .i64 Y.parse) (.int .i64 Y.word) (.int .i64 Y.drops) (.int .i64 Y.vers)
       have t9 := t9.boxed11 kN (.int .i64 Y.id) (.string Y.name) (.slice a9 n9 c9) (.slice fa9 fn9 fc9) (.slice ra9 rn9 rc9) (.slice oa9 on9 oc9) (.int .i64 Y.ticks) (.int .i64 Y.parse) (.int .i64 Y.word) (.int .i64 Y.drops) (.int .i64 Y.vers)
       have kN := set_box11B kN (.int .i64 Y.id) (.string Y.name) (.slice a9 n9 c9) (.slice fa9 fn9 fc9) (.slice ra9 rn9 rc9) (.slice oa9 on9 oc9) (.int .i64 Y.ticks) (.int .i64 Y.parse) (.int .i64 Y.word) (.int .i64 Y.drops) (.int .i64 Y.vers)
       refine hK.out _ _ (cells11 (kept_block kB vv)) (fun hHeld => ?_)
       clear hK K
       try simp only [Act.put, lA, lB, lC]
       refine wpAnyH_done (by kernel_rfl) ?_ _
       clear hHeld
       go_wp2_with fail
       go_meet
       exact ⟨_, a9, n9, c9, fa9, fn9, fc9, ra9, rn9, rc9, oa9, on9, oc9, rfl, gN, kN, t9, vv⟩
      exact AllReadyH.nil
     exact AllReadyH.nil
    exact AllReadyH.nil
   exact AllReadyH.nil
 case rest =>
  obtain ⟨gY, a9, n9, c9, fa9, fn9, fc9, ra9, rn9, rc9, oa9, on9, oc9, rfl, -, kY, oY, hb8⟩ := hcut
  obtain ⟨w8, hw8⟩ : ∃ x, x = wc := ⟨_, rfl⟩
  subst hw8
  have oX := oX.below hb8
  have kX := kept_block kX hb8
  have oB := oB.below hb8
  have kB := kept_block kB hb8
  have kV := kept_block kV hb8
  have u8 := gr_trans u7 hb8
  clear hb8 u7
  obtain ⟨x0, x1, x2, x3, x4, x5, x6, x7, x8, x9, x10⟩ := cells11 kB
  go_wp2_with fail
  refine (implTick_made a m c fa fn fc ra rn rc oa on oc B _ oB.row hn1 hn2 hn3 hn4 hRf hRv).mono ?_
  rw [HT.out]
  rintro e w9 ⟨a8, n8, c8, fa8, fn8, fc8, ra8, rn8, rc8, oa8, on8, oc8, rfl, oT, hb9⟩
  generalize hw10 : w9.alloc (Obj.cells #[.int .i64 T.id, .string T.name, .slice a8 n8 c8, .slice fa8 fn8 fc8, .slice ra8 rn8 rc8, .slice oa8 on8 oc8, .int .i64 T.ticks, .int .i64 T.parse, .int .i64 T.word, .int .i64 T.drops, .int .i64 T.vers] 31) = w10
  have b910 : Below w9.heap.size w9 w10 := by rw [← hw10]; exact below_one _ _
  have kT : w10.heap[w9.heap.size]? = some (.cells #[.int .i64 T.id, .string T.name, .slice a8 n8 c8, .slice fa8 fn8 fc8, .slice ra8 rn8 rc8, .slice oa8 on8 oc8, .int .i64 T.ticks, .int .i64 T.parse, .int .i64 T.word, .int .i64 T.drops, .int .i64 T.vers] 31) := by rw [← hw10]; exact block_last _ _
  have d := gr_trans hb9 b910
  have oT := oT.below b910
  have oY := oY.below d
  have kY := kept_block kY d
  have oX := oX.below d
  have kX := kept_block kX d
  have oB := oB.below d
  have kB := kept_block kB d
  have kV := kept_block kV d
  have u10 := gr_trans u8 d
  go_upto_region 8 with fail
  try rw [hw10]
  clear hw10 hb9 b910 d u8 x0 x1 x2 x3 x4 x5 x6 x7 x8 x9 x10
  obtain ⟨y0, y1, y2, y3, y4, y5, y6, y7, y8, y9, y10⟩ := cells11 kY
  obtain ⟨t0, t1, t2, t3, t4, t5, t6, t7, t8, t9, t10⟩ := cells11 kT
  go_upto_region 9 with fail
  generalize hw11 : w10.alloc (Obj.cells #[.int .i64 Y.id, .string Y.name, .slice a9 n9 c9, .slice fa9 fn9 fc9, .slice ra9 rn9 rc9, .slice oa9 on9 oc9, .int .i64 Y.ticks, .int .i64 Y.parse, .int .i64 Y.word, .int .i64 Y.drops, .int .i64 Y.vers, .int .i64 T.id, .string T.name, .slice a8 n8 c8, .slice fa8 fn8 fc8, .slice ra8 rn8 rc8, .slice oa8 on8 oc8, .int .i64 T.ticks, .int .i64 T.parse, .int .i64 T.word, .int .i64 T.drops, .int .i64 T.vers] 31) = w11
  have b1011 : Below w10.heap.size w10 w11 := by rw [← hw11]; exact below_one _ _
  have kL : w11.heap[w10.heap.size]? = some (.cells #[.int .i64 Y.id, .string Y.name, .slice a9 n9 c9, .slice fa9 fn9 fc9, .slice ra9 rn9 rc9, .slice oa9 on9 oc9, .int .i64 Y.ticks, .int .i64 Y.parse, .int .i64 Y.word, .int .i64 Y.drops, .int .i64 Y.vers, .int .i64 T.id, .string T.name, .slice a8 n8 c8, .slice fa8 fn8 fc8, .slice ra8 rn8 rc8, .slice oa8 on8 oc8, .int .i64 T.ticks, .int .i64 T.parse, .int .i64 T.word, .int .i64 T.drops, .int .i64 T.vers] 31) := by rw [← hw11]; exact block_last _ _
  have oL : w11.ownsRow w10.heap.size 31 11 (.slice (some ⟨w10.heap.size, 0, none⟩) 2 2) 2 (brF.all [(⟨a9, n9, c9, fa9, fn9, fc9, ra9, rn9, rc9, oa9, on9, oc9, Y⟩ : BV), ⟨a8, n8, c8, fa8, fn8, fc8, ra8, rn8, rc8, oa8, on8, oc8, T⟩]) := own_lit brF (l := [(⟨a9, n9, c9, fa9, fn9, fc9, ra9, rn9, rc9, oa9, on9, oc9, Y⟩ : BV), ⟨a8, n8, c8, fa8, fn8, fc8, ra8, rn8, rc8, oa8, on8, oc8, T⟩]) kL rfl (Nat.le_refl _) (by simp)
  have M10 := hide (And.intro u10 (And.intro oT (And.intro oY (And.intro kY (And.intro kT (And.intro oX (And.intro kX (And.intro oB kB))))))))
  have oT := oT.below b1011
  have oY := oY.below b1011
  have kY := kept_block kY b1011
  have kT := kept_block kT b1011
  have oX := oX.below b1011
  have kX := kept_block kX b1011
  have oB := oB.below b1011
  have kB := kept_block kB b1011
  have kV := kept_block kV b1011
  have u11 := gr_trans u10 b1011
  have HS11 := hide b1011
  clear hw11 b1011 u10 y0 y1 y2 y3 y4 y5 y6 y7 y8 y9 y10 t0 t1 t2 t3 t4 t5 t6 t7 t8 t9 t10 kL
  obtain ⟨x', pb, po, hx', ha, q0, -⟩ := pt_at oB.row.ports k hk
  rw [HPK.out] at hx'
  cases hx'
  subst ha
  have i1 : (0 : Int) ≤ (k : Int) := by omega
  have i2 : (k : Int) < (m : Int) := by omega
  go_cut [53] from 44 to 53 (fun s wx => s = .bool (pk.up && okVc v.r v.c v.h v.b v.p) ∧ Below w11.heap.size w11 wx)
  case first =>
   obtain ⟨x0, x1, x2, x3, x4, x5, x6, x7, x8, x9, x10⟩ := cells11 kB
   cases hpu : pk.up
   ·rw [hpu] at q0
    go_wp2
    go_meet
    exact ⟨by rw [hpu]; rfl, Below.refl _ _⟩
   ·rw [hpu] at q0
    obtain ⟨⟨v0, v1, v2, v3, v4⟩, -⟩ := cells5 kV
    go_wp2_with fail
    refine (implVecOk_any v.r v.c v.h v.b v.p _).mono ?_
    rintro e w12 ⟨rfl, hb12⟩
    have HB := hide hb12
    clear hb12
    go_wp2
    go_meet
    exact ⟨by rw [hpu]; rfl, HB.out⟩
  case rest =>
   obtain ⟨rfl, hb12⟩ := hcut
   obtain ⟨w12, hw12⟩ : ∃ x, x = wc := ⟨_, rfl⟩
   subst hw12
   have oL := gown_below oL hb12
   have oT := oT.below hb12
   have oY := oY.below hb12
   have kY := kept_block kY hb12
   have kT := kept_block kT hb12
   have oX := oX.below hb12
   have kX := kept_block kX hb12
   have oB := oB.below hb12
   have kB := kept_block kB hb12
   have u11 := gr_trans u11 hb12
   have HSB : Hid (Below w10.heap.size w10 w12) := hide (gr_trans HS11.out hb12)
   clear hb12 kV
   generalize hcc : (pk.up && okVc v.r v.c v.h v.b v.p) = cc
   have HCC := hide hcc
   clear hcc
   go_upto_if 53 with fail
   go_cut [11] from 54 to 61 (fun s wx => ∃ (nn : Nat) (aL : Option Addr) (cL : Nat) (LL : List BV), s = .slice aL nn cL ∧ nn ≤ 3 ∧ GRow brF wx aL nn cL LL ∧ (∀ x ∈ LL, x.Reads wx ∧ goodB x.B ∧ x.B.v = B.v) ∧ Below w10.heap.size w10 wx)
   case first =>
    obtain ⟨x0, x1, x2, x3, x4, x5, x6, x7, x8, x9, x10⟩ := cells11 kB
    cases cc
    ·have HXB : Hid (X = B) := hide (GX2.out HCC.out)
     obtain ⟨u0, u1, u2, u3, u4, u5, u6, u7, u8, u9, u10⟩ := cells11 kX
     go_wp2_with fail
     refine (implSameB_any a6 n6 c6 fa6 fn6 fc6 ra6 rn6 rc6 oa6 on6 oc6 X (some ⟨pb, po, none⟩) m c fa fn fc ra rn rc oa on oc B _ oX.row oB.row).mono ?_
     rintro e wL ⟨q, rfl, hq, hbL⟩
     obtain rfl : q = true := hq.2 HXB.out
     clear u0 u1 u2 u3 u4 u5 u6 u7 u8 u9 u10 x0 x1 x2 x3 x4 x5 x6 x7 x8 x9 x10 hq
     have hL : GRow brF wL (some ⟨w10.heap.size, 0, none⟩) 2 2 [(⟨a9, n9, c9, fa9, fn9, fc9, ra9, rn9, rc9, oa9, on9, oc9, Y⟩ : BV), ⟨a8, n8, c8, fa8, fn8, fc8, ra8, rn8, rc8, oa8, on8, oc8, T⟩] := grow_own (F := brF) (gown_below oL hbL)
     have oT := oT.below hbL
     have oY := oY.below hbL
     have kY := kept_block kY hbL
     have kT := kept_block kT hbL
     have oX := oX.below hbL
     have kX := kept_block kX hbL
     have oB := oB.below hbL
     have kB := kept_block kB hbL
     have hG : ∀ x ∈ ([(⟨a9, n9, c9, fa9, fn9, fc9, ra9, rn9, rc9, oa9, on9, oc9, Y⟩ : BV), ⟨a8, n8, c8, fa8, fn8, fc8, ra8, rn8, rc8, oa8, on8, oc8, T⟩] : List BV), x.Reads wL ∧ goodB x.B ∧ x.B.v = B.v := by
      intro x hx
      simp only [List.mem_cons, List.not_mem_nil, or_false] at hx
      rcases hx with rfl | rfl
      ·exact ⟨oY.row, GY1.out, LY.out⟩
      ·exact ⟨oT.row, GZ1.out, LT.out⟩
     have HR := hide (And.intro hL (And.intro hG (gr_trans HSB.out hbL)))
     clear hL hG hbL oL
     go_wp2
     go_meet
     exact ⟨2, _, 2, _, rfl, by omega, HR.out.1, HR.out.2.1, HR.out.2.2⟩
    ·have hgX : goodB X := by
      have h12 := Bool.and_eq_true_iff.1 HCC.out
      exact GX1.out h12.1 h12.2
     obtain ⟨u0, u1, u2, u3, u4, u5, u6, u7, u8, u9, u10⟩ := cells11 kX
     generalize hwn : w12.alloc (Obj.cells #[.int .i64 X.id, .string X.name, .slice a6 n6 c6, .slice fa6 fn6 fc6, .slice ra6 rn6 rc6, .slice oa6 on6 oc6, .int .i64 X.ticks, .int .i64 X.parse, .int .i64 X.word, .int .i64 X.drops, .int .i64 X.vers] 31) = wn
     have bn : Below w12.heap.size w12 wn := by rw [← hwn]; exact below_one _ _
     have kn : wn.heap[w12.heap.size]? = some (.cells #[.int .i64 X.id, .string X.name, .slice a6 n6 c6, .slice fa6 fn6 fc6, .slice ra6 rn6 rc6, .slice oa6 on6 oc6, .int .i64 X.ticks, .int .i64 X.parse, .int .i64 X.word, .int .i64 X.drops, .int .i64 X.vers] 31) := by rw [← hwn]; exact block_last _ _
     have gn1 : GRow brF wn (some ⟨w12.heap.size, 0, none⟩) 1 1 [(⟨a6, n6, c6, fa6, fn6, fc6, ra6, rn6, rc6, oa6, on6, oc6, X⟩ : BV)] := grow_own (F := brF) (own_one brF (x := (⟨a6, n6, c6, fa6, fn6, fc6, ra6, rn6, rc6, oa6, on6, oc6, X⟩ : BV)) (base := 0) kn rfl (Nat.zero_le _))
     have oLn := gown_below oL bn
     have hbs : w10.heap.size ≤ wn.heap.size := Nat.le_trans HSB.out.size bn.size
     have HOL := hide oLn
     clear oL oT oY kY kT oX kX oB kB u11
     go_wp2_with (at_builtin; refine wpList_append_flat (F := brF) _ rfl _ _ 42 31 rfl w10.heap.size Tryz.underlying42 brInfo rfl (by decide) _ 2 [(⟨a9, n9, c9, fa9, fn9, fc9, ra9, rn9, rc9, oa9, on9, oc9, Y⟩ : BV), ⟨a8, n8, c8, fa8, fn8, fc8, ra8, rn8, rc8, oa8, on8, oc8, T⟩] rfl oLn (some ⟨w12.heap.size, 0, none⟩) 1 1 [(⟨a6, n6, c6, fa6, fn6, fc6, ra6, rn6, rc6, oa6, on6, oc6, X⟩ : BV)] rfl gn1 (by omega) hbs ?_)
     intro aL cL wL how hL hgr hbL0
     have bL : Below w10.heap.size w10 wL := (gr_trans HSB.out bn).trans hbL0
     clear hwn bn kn gn1 oLn HOL hbs how hgr hbL0 u0 u1 u2 u3 u4 u5 u6 u7 u8 u9 u10 x0 x1 x2 x3 x4 x5 x6 x7 x8 x9 x10
     obtain ⟨u10, oT, oY, kY, kT, oX, kX, oB, kB⟩ := M10.out
     have oT := oT.below bL
     have oY := oY.below bL
     have kY := kept_block kY bL
     have kT := kept_block kT bL
     have oX := oX.below bL
     have kX := kept_block kX bL
     have oB := oB.below bL
     have kB := kept_block kB bL
     have hL : GRow brF wL aL 3 cL [(⟨a9, n9, c9, fa9, fn9, fc9, ra9, rn9, rc9, oa9, on9, oc9, Y⟩ : BV), ⟨a8, n8, c8, fa8, fn8, fc8, ra8, rn8, rc8, oa8, on8, oc8, T⟩, ⟨a6, n6, c6, fa6, fn6, fc6, ra6, rn6, rc6, oa6, on6, oc6, X⟩] := hL
     have hG : ∀ x ∈ ([(⟨a9, n9, c9, fa9, fn9, fc9, ra9, rn9, rc9, oa9, on9, oc9, Y⟩ : BV), ⟨a8, n8, c8, fa8, fn8, fc8, ra8, rn8, rc8, oa8, on8, oc8, T⟩, ⟨a6, n6, c6, fa6, fn6, fc6, ra6, rn6, rc6, oa6, on6, oc6, X⟩] : List BV), x.Reads wL ∧ goodB x.B ∧ x.B.v = B.v := by
      intro x hx
      simp only [List.mem_cons, List.not_mem_nil, or_false] at hx
      rcases hx with rfl | rfl | rfl
      ·exact ⟨oY.row, GY1.out, LY.out⟩
      ·exact ⟨oT.row, GZ1.out, LT.out⟩
      ·exact ⟨oX.row, hgX, LX.out⟩
     have HR := hide (And.intro hL (And.intro hG bL))
     clear hL hG bL
     go_wp2
     go_meet
     exact ⟨3, _, _, _, rfl, by omega, HR.out.1, HR.out.2.1, HR.out.2.2⟩
   case rest =>
    obtain ⟨nn, aL, cL, LL, rfl, hnn, hL, hG, bL⟩ := hcut
    obtain ⟨wL, hwL⟩ : ∃ x, x = wc := ⟨_, rfl⟩
    subst hwL
    clear oL oT oY kY kT oX kX oB kB u11
    obtain ⟨u10, oT, oY, kY, kT, oX, kX, oB, kB⟩ := M10.out
    have oT := oT.below bL
    have oY := oY.below bL
    have kY := kept_block kY bL
    have kT := kept_block kT bL
    have oX := oX.below bL
    have kX := kept_block kX bL
    have oB := oB.below bL
    have kB := kept_block kB bL
    have uL := gr_trans u10 bL
    clear bL u10
    go_wp2_with fail
    go_loopw [12] (fun s wr => ∃ i : Nat, i ≤ nn ∧ s = .int .i64 i ∧ Below wL.heap.size wL wr) (fun s _ => nn - (intOf s).toNat)
    case atStart => exact ⟨0, Nat.zero_le _, rfl, Below.refl _ _⟩
    case round =>
     obtain ⟨i, hi, rfl, hb⟩ := hrel
     have i3 : (0 : Int) ≤ (i : Int) := by omega
     by_cases hlt : i < nn
     ·obtain ⟨x, lb, lo, hx, hae, e0, e1, e2, e3, e4, e5, e6, e7, e8, e9, e10⟩ := br_at (hL.below hb) i hlt
      subst hae
      obtain ⟨hxr0, hxg, hxv⟩ := hG x (List.mem_of_getElem? hx)
      have hxr : BrRow wr x.a x.n x.c x.fa x.fn x.fc x.ra x.rn x.rc x.oa x.on x.oc x.B := BrRow.below hxr0 hb
      have HOK := hide hxg.1
      have hgood := hxg.2
      have hFok := (bridgeOk_parts hxg.1).2.2.2.2.1
      have hfl : x.fn ≤ 12 := by have := ok_len hFok; have := hxr.f.size; omega
      have hRx : ∀ r ∈ x.B.v.rows, r.Rng := by rw [hxv]; exact hRv
      have i4 : (i : Int) < (nn : Int) := by omega
      have HE : Hid (∀ W, Below wr.heap.size wr W → (W.cell? ⟨lb, lo + i * 11, none⟩ = some (.int .i64 x.B.id) ∧ W.cell? ⟨lb, lo + i * 11 + 1, none⟩ = some (.string x.B.name) ∧ W.cell? ⟨lb, lo + i * 11 + 2, none⟩ = some (.slice x.a x.n x.c) ∧ W.cell? ⟨lb, lo + i * 11 + 3, none⟩ = some (.slice x.fa x.fn x.fc) ∧ W.cell? ⟨lb, lo + i * 11 + 4, none⟩ = some (.slice x.ra x.rn x.rc) ∧ W.cell? ⟨lb, lo + i * 11 + 5, none⟩ = some (.slice x.oa x.on x.oc) ∧ W.cell? ⟨lb, lo + i * 11 + 6, none⟩ = some (.int .i64 x.B.ticks) ∧ W.cell? ⟨lb, lo + i * 11 + 7, none⟩ = some (.int .i64 x.B.parse) ∧ W.cell? ⟨lb, lo + i * 11 + 8, none⟩ = some (.int .i64 x.B.word) ∧ W.cell? ⟨lb, lo + i * 11 + 9, none⟩ = some (.int .i64 x.B.drops) ∧ W.cell? ⟨lb, lo + i * 11 + 10, none⟩ = some (.int .i64 x.B.vers))) := hide (fun W hW => ⟨kept_cell e0 hW, kept_cell e1 hW, kept_cell e2 hW, kept_cell e3 hW, kept_cell e4 hW, kept_cell e5 hW, kept_cell e6 hW, kept_cell e7 hW, kept_cell e8 hW, kept_cell e9 hW, kept_cell e10 hW⟩)
      have vv : Below wr.heap.size wr wr.drew := gr_drew (Below.refl _ _)
      clear hx hxg hxv hxr0
      go_wp2_with fail
      clear e0 e1 e2 e3 e4 e5 e6 e7 e8 e9 e10
      refine wp_region_held_drew (S := (fun W => (W.cell? ⟨lb, lo + i * 11, none⟩ = some (.int .i64 x.B.id) ∧ W.cell? ⟨lb, lo + i * 11 + 1, none⟩ = some (.string x.B.name) ∧ W.cell? ⟨lb, lo + i * 11 + 2, none⟩ = some (.slice x.a x.n x.c) ∧ W.cell? ⟨lb, lo + i * 11 + 3, none⟩ = some (.slice x.fa x.fn x.fc) ∧ W.cell? ⟨lb, lo + i * 11 + 4, none⟩ = some (.slice x.ra x.rn x.rc) ∧ W.cell? ⟨lb, lo + i * 11 + 5, none⟩ = some (.slice x.oa x.on x.oc) ∧ W.cell? ⟨lb, lo + i * 11 + 6, none⟩ = some (.int .i64 x.B.ticks) ∧ W.cell? ⟨lb, lo + i * 11 + 7, none⟩ = some (.int .i64 x.B.parse) ∧ W.cell? ⟨lb, lo + i * 11 + 8, none⟩ = some (.int .i64 x.B.word) ∧ W.cell? ⟨lb, lo + i * 11 + 9, none⟩ = some (.int .i64 x.B.drops) ∧ W.cell? ⟨lb, lo + i * 11 + 10, none⟩ = some (.int .i64 x.B.vers)))) (by kernel_rfl) (HE.out _ vv) (fun hHeld => ?_)
      refine tK (v := ?_) 0 ⟨some 68, .move (.tmp 11), 42, "laws.go:619", #[], none⟩ ?_ ?_
      rotate_left
      ·(intro _ h; (try dsimp only at h); go_simp; try with_reducible rfl)
      simp only [Act.put, lA, lB, lC]
      refine tK (v := ?_) 1 ⟨some 69, .move (.tmp 12), 3, "laws.go:619", #[], none⟩ ?_ ?_
      rotate_left
      ·(intro _ h; (try dsimp only at h); go_simp; try with_reducible rfl)
      simp only [Act.put, lA, lB, lC]
      refine tK (v := ?_) 2 ⟨some 70, .indexAddr 42 (.tmp 68) (.tmp 69), 0, "laws.go:619", #[⟨0, .data⟩, ⟨1, .data⟩], none⟩ ?_ ?_
      rotate_left
      ·(intro _ h; (try dsimp only at h); go_simp; try with_reducible rfl)
      simp only [Act.put, lA, lB, lC]
      refine tK (v := ?_) 3 ⟨some 71, .fieldAddr 31 (.tmp 70) 0, 0, "laws.go:619", #[⟨2, .data⟩], none⟩ ?_ ?_
      rotate_left
      ·(intro _ h; (try dsimp only at h); go_simp; try with_reducible rfl)
      simp only [Act.put, lA, lB, lC]
      refine tK (v := ?_) 4 ⟨some 72, .load 3 (.tmp 71), 3, "laws.go:619", #[⟨3, .data⟩], none⟩ ?_ ?_
      rotate_left
      ·(intro _ h; (try dsimp only at h); go_simp; try with_reducible rfl)
      simp only [Act.put, lA, lB, lC]
      refine tK (v := ?_) 5 ⟨some 73, .move (.tmp 11), 42, "laws.go:619", #[], none⟩ ?_ ?_
      rotate_left
      ·(intro _ h; (try dsimp only at h); go_simp; try with_reducible rfl)
      simp only [Act.put, lA, lB, lC]
      refine tK (v := ?_) 6 ⟨some 74, .move (.tmp 12), 3, "laws.go:619", #[], none⟩ ?_ ?_
      rotate_left
      ·(intro _ h; (try dsimp only at h); go_simp; try with_reducible rfl)
      simp only [Act.put, lA, lB, lC]
      refine tK (v := ?_) 7 ⟨some 75, .indexAddr 42 (.tmp 73) (.tmp 74), 0, "laws.go:619", #[⟨5, .data⟩, ⟨6, .data⟩], none⟩ ?_ ?_
      rotate_left
      ·(intro _ h; (try dsimp only at h); go_simp; try with_reducible rfl)
      simp only [Act.put, lA, lB, lC]
      refine tK (v := ?_) 8 ⟨some 76, .fieldAddr 31 (.tmp 75) 2, 0, "laws.go:619", #[⟨7, .data⟩], none⟩ ?_ ?_
      rotate_left
      ·(intro _ h; (try dsimp only at h); go_simp; try with_reducible rfl)
      simp only [Act.put, lA, lB, lC]
      refine tK (v := ?_) 9 ⟨some 77, .load 24 (.tmp 76), 24, "laws.go:619", #[⟨8, .data⟩], none⟩ ?_ ?_
      rotate_left
      ·(intro _ h; (try dsimp only at h); go_simp; try with_reducible rfl)
      simp only [Act.put, lA, lB, lC]
      refine tR [10] ?_
      refine AllReadyH.cons (o := ⟨some 78, .call ⟨.value (.func 14), #[.tmp 72, .tmp 77], #[3, 24]⟩, 3, "laws.go:619", #[⟨4, .data⟩, ⟨9, .data⟩], none⟩) rfl (fun K hK => ?_) ?_
      ·go_simp
       refine (implSends_any x.B.id x.a x.n x.c x.B.ports _ (hxr.ports.below vv)).mono ?_
       rintro e wt ⟨rfl, hbt⟩
       have vv := gr_trans vv hbt
       clear hbt
       go_wp2_with fail
       refine hK.out _ _ (HE.out _ vv) (fun hHeld => ?_)
       clear hK K
       try simp only [Act.put, lA, lB, lC]
       refine tK (v := ?_) 11 ⟨some 13, .assign (.tmp 78), 3, "laws.go:619", #[⟨10, .data⟩, ⟨10, .chain⟩, ⟨0, .phase⟩, ⟨1, .phase⟩, ⟨2, .phase⟩, ⟨3, .phase⟩, ⟨4, .phase⟩, ⟨5, .phase⟩, ⟨6, .phase⟩, ⟨7, .phase⟩, ⟨8, .phase⟩, ⟨9, .phase⟩, ⟨10, .phase⟩], none⟩ ?_ ?_
       rotate_left
       ·(intro _ h; (try dsimp only at h); go_simp; try with_reducible rfl)
       simp only [Act.put, lA, lB, lC]
       refine wpAnyH_done (by kernel_rfl) ?_ _
       have HE2 : Hid (∀ W, Below wt.heap.size wt W → (W.cell? ⟨lb, lo + i * 11, none⟩ = some (.int .i64 x.B.id) ∧ W.cell? ⟨lb, lo + i * 11 + 1, none⟩ = some (.string x.B.name) ∧ W.cell? ⟨lb, lo + i * 11 + 2, none⟩ = some (.slice x.a x.n x.c) ∧ W.cell? ⟨lb, lo + i * 11 + 3, none⟩ = some (.slice x.fa x.fn x.fc) ∧ W.cell? ⟨lb, lo + i * 11 + 4, none⟩ = some (.slice x.ra x.rn x.rc) ∧ W.cell? ⟨lb, lo + i * 11 + 5, none⟩ = some (.slice x.oa x.on x.oc) ∧ W.cell? ⟨lb, lo + i * 11 + 6, none⟩ = some (.int .i64 x.B.ticks) ∧ W.cell? ⟨lb, lo + i * 11 + 7, none⟩ = some (.int .i64 x.B.parse) ∧ W.cell? ⟨lb, lo + i * 11 + 8, none⟩ = some (.int .i64 x.B.word) ∧ W.cell? ⟨lb, lo + i * 11 + 9, none⟩ = some (.int .i64 x.B.drops) ∧ W.cell? ⟨lb, lo + i * 11 + 10, none⟩ = some (.int .i64 x.B.vers))) := hide (fun W hW => HE.out _ (gr_trans vv hW))
       obtain ⟨w16, hw16⟩ : ∃ y, y = wt := ⟨_, rfl⟩
       subst hw16
       have hb := gr_trans hb vv
       have hxr := hxr.below vv
       have hE := HE.out _ vv
       clear hHeld vv
       generalize hbits : sendsOf x.B.id x.B.ports = bits
       have HBI := hide hbits
       clear hbits
       obtain ⟨e0, e1, e2, e3, e4, e5, e6, e7, e8, e9, e10⟩ := hE
       go_wp2_with fail
       clear e0 e1 e2 e3 e4 e5 e6 e7 e8 e9 e10
       go_loopw [14] (fun s wr2 => ∃ j : Nat, j ≤ x.fn ∧ s = .int .i64 j ∧ Below w16.heap.size w16 wr2) (fun s _ => x.fn - (intOf s).toNat)
       case atStart => exact ⟨0, Nat.zero_le _, rfl, Below.refl _ _⟩
       case round =>
        obtain ⟨j, hj, rfl, hb2⟩ := hrel
        obtain ⟨e0, e1, e2, e3, e4, e5, e6, e7, e8, e9, e10⟩ := HE2.out _ hb2
        have j1 : (0 : Int) ≤ (j : Int) := by omega
        by_cases hjl : j < x.fn
        ·obtain ⟨f, fb, fo, hf, hfa, c0, c1, c2, c3, c4⟩ := fent_at (hxr.f.below hb2) j hjl
         have hfm := List.mem_of_getElem? hf
         obtain ⟨pN, hpN, hp7⟩ := ent_port hFok hfm
         have j2 : (j : Int) < (x.fn : Int) := by omega
         rw [hfa] at e3
         rw [hpN] at c2
         cases hs : f.s
         ·have HBT : Hid (bitOf bits (pN : Int) = true) := hide (by rw [← HBI.out, ← hpN]; exact hgood f hfm hs)
          rw [hs] at c4
          clear hs hf hfm
          go_wp2_with fail
          refine (lawBit_yes bits pN hp7 _ HBT.out).mono ?_
          rintro e wz ⟨rfl, ez⟩
          obtain rfl := ez.symm
          go_wp2
          go_roundw
          case rel => exact ⟨j + 1, by omega, by go_num, hb2⟩
          case measure => simp [intOf]; omega
         ·rw [hs] at c4
          clear hs hf hfm
          go_wp2
          go_roundw
          case rel => exact ⟨j + 1, by omega, by go_num, hb2⟩
          case measure => simp [intOf]; omega
        ·have hjn : ¬ (j : Int) < (x.fn : Int) := by omega
         go_wp2_with fail
         refine (implBridgeOk_any x.a x.n x.c x.fa x.fn x.fc x.ra x.rn x.rc x.oa x.on x.oc x.B _ (hxr.below hb2) (by omega) hRx).mono ?_
         rintro e wz ⟨rfl, hbz⟩
         rw [HOK.out]
         have HB := hide (gr_trans (gr_trans hb hb2) hbz)
         clear e0 e1 e2 e3 e4 e5 e6 e7 e8 e9 e10 hbz
         go_wp2
         go_roundw
         case rel => exact ⟨i + 1, by omega, by go_num, HB.out⟩
         case measure => simp [intOf]; omega
      exact AllReadyH.nil
     ·have hii : ¬ (i : Int) < (nn : Int) := by omega
      obtain ⟨px, hpx, hpu1, hph⟩ := GY2.out
      have hpl : k < n9 := by have := oY.row.ports.size; have := (List.getElem?_eq_some_iff.1 hpx).1; omega
      obtain ⟨px', yb, yo, hpx', hya, y0, -, y2, -⟩ := pt_at oY.row.ports k hpl
      rw [hpx] at hpx'
      cases hpx'
      subst hya
      rw [hpu1] at y0
      rw [hph] at y2
      have hfx : fn6 ≤ 16777216 := by have h1 := ok_len (bridgeOk_parts GX3.out).2.2.2.2.1; have h2 := oX.row.f.size; omega
      have hz2 := GZ2.out
      have htk : -9223372036854775808 ≤ B.ticks ∧ B.ticks ≤ 9223372036854775806 := by have := HDIN.out.t; omega
      have hwt : IntKind.i64.wrap (B.ticks + 1) = B.ticks + 1 := by rw [IntKind.wrap_i64]; omega
      have k1 : (0 : Int) ≤ (k : Int) := by omega
      have k2 : (k : Int) < (n9 : Int) := by omega
      cases up
      ·have hm : x2 % 2 = 1 := by simp at hup; omega
       have ht : x2.tmod 2 = 1 := by rw [Int.tmod_eq_emod_of_nonneg hx0]; exact hm
       clear hup
       have HS : Hid (∀ W, Below wr.heap.size wr W → (fun W => (W.cell? ⟨w2.heap.size, 0, none⟩ = some (.int .i64 B.id) ∧ W.cell? ⟨w2.heap.size, 1, none⟩ = some (.string B.name) ∧ W.cell? ⟨w2.heap.size, 2, none⟩ = some (.slice (some ⟨pb, po, none⟩) m c) ∧ W.cell? ⟨w2.heap.size, 3, none⟩ = some (.slice fa fn fc) ∧ W.cell? ⟨w2.heap.size, 4, none⟩ = some (.slice ra rn rc) ∧ W.cell? ⟨w2.heap.size, 5, none⟩ = some (.slice oa on oc) ∧ W.cell? ⟨w2.heap.size, 6, none⟩ = some (.int .i64 B.ticks) ∧ W.cell? ⟨w2.heap.size, 7, none⟩ = some (.int .i64 B.parse) ∧ W.cell? ⟨w2.heap.size, 8, none⟩ = some (.int .i64 B.word) ∧ W.cell? ⟨w2.heap.size, 9, none⟩ = some (.int .i64 B.drops) ∧ W.cell? ⟨w2.heap.size, 10, none⟩ = some (.int .i64 B.vers)) ∧ (W.cell? ⟨w6.heap.size, 0, none⟩ = some (.int .i64 X.id) ∧ W.cell? ⟨w6.heap.size, 1, none⟩ = some (.string X.name) ∧ W.cell? ⟨w6.heap.size, 2, none⟩ = some (.slice a6 n6 c6) ∧ W.cell? ⟨w6.heap.size, 3, none⟩ = some (.slice fa6 fn6 fc6) ∧ W.cell? ⟨w6.heap.size, 4, none⟩ = some (.slice ra6 rn6 rc6) ∧ W.cell? ⟨w6.heap.size, 5, none⟩ = some (.slice oa6 on6 oc6) ∧ W.cell? ⟨w6.heap.size, 6, none⟩ = some (.int .i64 X.ticks) ∧ W.cell? ⟨w6.heap.size, 7, none⟩ = some (.int .i64 X.parse) ∧ W.cell? ⟨w6.heap.size, 8, none⟩ = some (.int .i64 X.word) ∧ W.cell? ⟨w6.heap.size, 9, none⟩ = some (.int .i64 X.drops) ∧ W.cell? ⟨w6.heap.size, 10, none⟩ = some (.int .i64 X.vers)) ∧ (W.cell? ⟨gY, 0, none⟩ = some (.int .i64 Y.id) ∧ W.cell? ⟨gY, 1, none⟩ = some (.string Y.name) ∧ W.cell? ⟨gY, 2, none⟩ = some (.slice (some ⟨yb, yo, none⟩) n9 c9) ∧ W.cell? ⟨gY, 3, none⟩ = some (.slice fa9 fn9 fc9) ∧ W.cell? ⟨gY, 4, none⟩ = some (.slice ra9 rn9 rc9) ∧ W.cell? ⟨gY, 5, none⟩ = some (.slice oa9 on9 oc9) ∧ W.cell? ⟨gY, 6, none⟩ = some (.int .i64 Y.ticks) ∧ W.cell? ⟨gY, 7, none⟩ = some (.int .i64 Y.parse) ∧ W.cell? ⟨gY, 8, none⟩ = some (.int .i64 Y.word) ∧ W.cell? ⟨gY, 9, none⟩ = some (.int .i64 Y.drops) ∧ W.cell? ⟨gY, 10, none⟩ = some (.int .i64 Y.vers)) ∧ (W.cell? ⟨w9.heap.size, 0, none⟩ = some (.int .i64 T.id) ∧ W.cell? ⟨w9.heap.size, 1, none⟩ = some (.string T.name) ∧ W.cell? ⟨w9.heap.size, 2, none⟩ = some (.slice a8 n8 c8) ∧ W.cell? ⟨w9.heap.size, 3, none⟩ = some (.slice fa8 fn8 fc8) ∧ W.cell? ⟨w9.heap.size, 4, none⟩ = some (.slice ra8 rn8 rc8) ∧ W.cell? ⟨w9.heap.size, 5, none⟩ = some (.slice oa8 on8 oc8) ∧ W.cell? ⟨w9.heap.size, 6, none⟩ = some (.int .i64 T.ticks) ∧ W.cell? ⟨w9.heap.size, 7, none⟩ = some (.int .i64 T.parse) ∧ W.cell? ⟨w9.heap.size, 8, none⟩ = some (.int .i64 T.word) ∧ W.cell? ⟨w9.heap.size, 9, none⟩ = some (.int .i64 T.drops) ∧ W.cell? ⟨w9.heap.size, 10, none⟩ = some (.int .i64 T.vers)) ∧ (W.cell? ⟨yb, yo + k * 8, none⟩ = some (.bool false) ∧ W.cell? ⟨yb, yo + k * 8 + 2, none⟩ = some (.bool false))) W) := hide (fun W hW => ⟨cells11 (kept_block kB (gr_trans hb hW)), cells11 (kept_block kX (gr_trans hb hW)), cells11 (kept_block kY (gr_trans hb hW)), cells11 (kept_block kT (gr_trans hb hW)), kept_cell y0 (gr_trans hb hW), kept_cell y2 (gr_trans hb hW)⟩)
       have vv : Below wr.heap.size wr wr.drew := gr_drew (Below.refl _ _)
       go_wp2_with fail
       refine wp_region_held_drew (S := (fun W => (W.cell? ⟨w2.heap.size, 0, none⟩ = some (.int .i64 B.id) ∧ W.cell? ⟨w2.heap.size, 1, none⟩ = some (.string B.name) ∧ W.cell? ⟨w2.heap.size, 2, none⟩ = some (.slice (some ⟨pb, po, none⟩) m c) ∧ W.cell? ⟨w2.heap.size, 3, none⟩ = some (.slice fa fn fc) ∧ W.cell? ⟨w2.heap.size, 4, none⟩ = some (.slice ra rn rc) ∧ W.cell? ⟨w2.heap.size, 5, none⟩ = some (.slice oa on oc) ∧ W.cell? ⟨w2.heap.size, 6, none⟩ = some (.int .i64 B.ticks) ∧ W.cell? ⟨w2.heap.size, 7, none⟩ = some (.int .i64 B.parse) ∧ W.cell? ⟨w2.heap.size, 8, none⟩ = some (.int .i64 B.word) ∧ W.cell? ⟨w2.heap.size, 9, none⟩ = some (.int .i64 B.drops) ∧ W.cell? ⟨w2.heap.size, 10, none⟩ = some (.int .i64 B.vers)) ∧ (W.cell? ⟨w6.heap.size, 0, none⟩ = some (.int .i64 X.id) ∧ W.cell? ⟨w6.heap.size, 1, none⟩ = some (.string X.name) ∧ W.cell? ⟨w6.heap.size, 2, none⟩ = some (.slice a6 n6 c6) ∧ W.cell? ⟨w6.heap.size, 3, none⟩ = some (.slice fa6 fn6 fc6) ∧ W.cell? ⟨w6.heap.size, 4, none⟩ = some (.slice ra6 rn6 rc6) ∧ W.cell? ⟨w6.heap.size, 5, none⟩ = some (.slice oa6 on6 oc6) ∧ W.cell? ⟨w6.heap.size, 6, none⟩ = some (.int .i64 X.ticks) ∧ W.cell? ⟨w6.heap.size, 7, none⟩ = some (.int .i64 X.parse) ∧ W.cell? ⟨w6.heap.size, 8, none⟩ = some (.int .i64 X.word) ∧ W.cell? ⟨w6.heap.size, 9, none⟩ = some (.int .i64 X.drops) ∧ W.cell? ⟨w6.heap.size, 10, none⟩ = some (.int .i64 X.vers)) ∧ (W.cell? ⟨gY, 0, none⟩ = some (.int .i64 Y.id) ∧ W.cell? ⟨gY, 1, none⟩ = some (.string Y.name) ∧ W.cell? ⟨gY, 2, none⟩ = some (.slice (some ⟨yb, yo, none⟩) n9 c9) ∧ W.cell? ⟨gY, 3, none⟩ = some (.slice fa9 fn9 fc9) ∧ W.cell? ⟨gY, 4, none⟩ = some (.slice ra9 rn9 rc9) ∧ W.cell? ⟨gY, 5, none⟩ = some (.slice oa9 on9 oc9) ∧ W.cell? ⟨gY, 6, none⟩ = some (.int .i64 Y.ticks) ∧ W.cell? ⟨gY, 7, none⟩ = some (.int .i64 Y.parse) ∧ W.cell? ⟨gY, 8, none⟩ = some (.int .i64 Y.word) ∧ W.cell? ⟨gY, 9, none⟩ = some (.int .i64 Y.drops) ∧ W.cell? ⟨gY, 10, none⟩ = some (.int .i64 Y.vers)) ∧ (W.cell? ⟨w9.heap.size, 0, none⟩ = some (.int .i64 T.id) ∧ W.cell? ⟨w9.heap.size, 1, none⟩ = some (.string T.name) ∧ W.cell? ⟨w9.heap.size, 2, none⟩ = some (.slice a8 n8 c8) ∧ W.cell? ⟨w9.heap.size, 3, none⟩ = some (.slice fa8 fn8 fc8) ∧ W.cell? ⟨w9.heap.size, 4, none⟩ = some (.slice ra8 rn8 rc8) ∧ W.cell? ⟨w9.heap.size, 5, none⟩ = some (.slice oa8 on8 oc8) ∧ W.cell? ⟨w9.heap.size, 6, none⟩ = some (.int .i64 T.ticks) ∧ W.cell? ⟨w9.heap.size, 7, none⟩ = some (.int .i64 T.parse) ∧ W.cell? ⟨w9.heap.size, 8, none⟩ = some (.int .i64 T.word) ∧ W.cell? ⟨w9.heap.size, 9, none⟩ = some (.int .i64 T.drops) ∧ W.cell? ⟨w9.heap.size, 10, none⟩ = some (.int .i64 T.vers)) ∧ (W.cell? ⟨yb, yo + k * 8, none⟩ = some (.bool false) ∧ W.cell? ⟨yb, yo + k * 8 + 2, none⟩ = some (.bool false)))) (by kernel_rfl) (HS.out _ vv) (fun hHeld => ?_)
       refine tK (v := ?_) 0 q406 ?_ ?_
       rotate_left
       ·(intro _ h; (try dsimp only at h); go_simp; try with_reducible rfl)
       simp only [Act.put, lA, lB, lC]
       refine tR [1] ?_
       refine AllReadyH.cons (o := q407) rfl (fun K hK => ?_) ?_
       ·go_simp
        refine (implBridgeOk_any (some ⟨pb, po, none⟩) m c fa fn fc ra rn rc oa on oc B _ (oB.row.below (gr_trans hb vv)) (by omega) hRv).mono ?_
        rintro e wt ⟨rfl, hbt⟩
        rw [HBOK.out]
        have vv := gr_trans vv hbt
        clear hbt
        go_wp2_with fail
        refine hK.out _ _ (HS.out _ vv) (fun hHeld => ?_)
        clear hK K
        try simp only [Act.put, lA, lB, lC]
        refine tK (v := ?_) 2 q408 ?_ ?_
        rotate_left
        ·(intro _ h; (try dsimp only at h); go_simp; try with_reducible rfl)
        simp only [Act.put, lA, lB, lC]
        refine tK (v := ?_) 3 q409 ?_ ?_
        rotate_left
        ·(intro _ h; (try dsimp only at h); go_simp; try with_reducible rfl)
        simp only [Act.put, lA, lB, lC]
        refine tR [4] ?_
        refine AllReadyH.cons (o := q410) rfl (fun K hK => ?_) ?_
        ·go_simp
         refine (implBridgeOk_any a6 n6 c6 fa6 fn6 fc6 ra6 rn6 rc6 oa6 on6 oc6 X _ (oX.row.below (gr_trans hb vv)) hfx (by rw [LX.out]; exact hRv)).mono ?_
         rintro e wt ⟨rfl, hbt⟩
         rw [GX3.out]
         have vv := gr_trans vv hbt
         clear hbt
         go_wp2_with fail
         refine hK.out _ _ (HS.out _ vv) (fun hHeld => ?_)
         clear hK K
         try simp only [Act.put, lA, lB, lC]
         refine tK (v := ?_) 5 q411 ?_ ?_
         rotate_left
         ·(intro _ h; (try dsimp only at h); go_simp; try with_reducible rfl)
         simp only [Act.put, lA, lB, lC]
         refine tK (v := ?_) 6 q412 ?_ ?_
         rotate_left
         ·(intro _ h; (try dsimp only at h); go_simp; try with_reducible rfl)
         simp only [Act.put, lA, lB, lC]
         refine tK (v := ?_) 7 q413 ?_ ?_
         rotate_left
         ·(intro _ h; (try dsimp only at h); go_simp; try with_reducible rfl)
         simp only [Act.put, lA, lB, lC]
         refine tK (v := ?_) 8 q414 ?_ ?_
         rotate_left
         ·(intro _ h; (try dsimp only at h); go_simp; try with_reducible rfl)
         simp only [Act.put, lA, lB, lC]
         refine tK (v := ?_) 9 q415 ?_ ?_
         rotate_left
         ·(intro _ h; (try dsimp only at h); go_simp; try with_reducible rfl)
         simp only [Act.put, lA, lB, lC]
         refine tK (v := ?_) 10 q416 ?_ ?_
         rotate_left
         ·(intro _ h; (try dsimp only at h); go_simp; try with_reducible rfl)
         simp only [Act.put, lA, lB, lC]
         refine tK (v := ?_) 11 q417 ?_ ?_
         rotate_left
         ·(intro _ h; (try dsimp only at h); go_simp; try with_reducible rfl)
         simp only [Act.put, lA, lB, lC]
         refine tK (v := ?_) 12 q418 ?_ ?_
         rotate_left
         ·(intro _ h; (try dsimp only at h); go_simp; try with_reducible rfl)
         simp only [Act.put, lA, lB, lC]
         refine tK (v := ?_) 13 q419 ?_ ?_
         rotate_left
         ·(intro _ h; (try dsimp only at h); go_simp; try with_reducible rfl)
         simp only [Act.put, lA, lB, lC]
         refine tR [14] ?_
         refine AllReadyH.cons (o := q420) rfl (fun K hK => ?_) ?_
         ·go_simp
          refine (HAT.out _ (h0.below (gr_trans uL (gr_trans hb vv)))).mono ?_
          rintro e wx ⟨rfl, ex⟩
          obtain rfl := ex.symm
          go_wp2_with fail
          refine hK.out _ _ (HS.out _ vv) (fun hHeld => ?_)
          clear hK K
          try simp only [Act.put, lA, lB, lC]
          refine tK (v := ?_) 15 q421 ?_ ?_
          rotate_left
          ·(intro _ h; (try dsimp only at h); go_simp; try with_reducible rfl)
          simp only [Act.put, lA, lB, lC]
          refine tK (v := .bool false) 16 q422 ?_ ?_
          ·(intro wY hSw; (try dsimp only at hSw); go_simp; first | done | omega)
          simp only [Act.put, lA, lB, lC]
          refine tK (v := .bool true) 17 q423 ?_ ?_
          ·(intro wY hSw; (try dsimp only at hSw); go_simp; first | done | omega)
          simp only [Act.put, lA, lB, lC]
          refine tK (v := ?_) 18 q424 ?_ ?_
          rotate_left
          ·(intro _ h; (try dsimp only at h); go_simp; try with_reducible rfl)
          simp only [Act.put, lA, lB, lC]
          refine tK (v := ?_) 19 q425 ?_ ?_
          rotate_left
          ·(intro _ h; (try dsimp only at h); go_simp; try with_reducible rfl)
          simp only [Act.put, lA, lB, lC]
          refine tK (v := ?_) 20 q426 ?_ ?_
          rotate_left
          ·(intro _ h; (try dsimp only at h); go_simp; try with_reducible rfl)
          simp only [Act.put, lA, lB, lC]
          refine tK (v := ?_) 21 q427 ?_ ?_
          rotate_left
          ·(intro _ h; (try dsimp only at h); go_simp; try with_reducible rfl)
          simp only [Act.put, lA, lB, lC]
          refine tK (v := ?_) 22 q428 ?_ ?_
          rotate_left
          ·(intro _ h; (try dsimp only at h); go_simp; try with_reducible rfl)
          simp only [Act.put, lA, lB, lC]
          refine tK (v := ?_) 23 q429 ?_ ?_
          rotate_left
          ·(intro _ h; (try dsimp only at h); go_simp; try with_reducible rfl)
          simp only [Act.put, lA, lB, lC]
          refine tK (v := ?_) 24 q430 ?_ ?_
          rotate_left
          ·(intro _ h; (try dsimp only at h); go_simp; try with_reducible rfl)
          simp only [Act.put, lA, lB, lC]
          refine tK (v := ?_) 25 q431 ?_ ?_
          rotate_left
          ·(intro _ h; (try dsimp only at h); go_simp; try with_reducible rfl)
          simp only [Act.put, lA, lB, lC]
          refine tK (v := ?_) 26 q432 ?_ ?_
          rotate_left
          ·(intro _ h; (try dsimp only at h); go_simp; try with_reducible rfl)
          simp only [Act.put, lA, lB, lC]
          refine tK (v := ?_) 27 q433 ?_ ?_
          rotate_left
          ·(intro _ h; (try dsimp only at h); go_simp; try with_reducible rfl)
          simp only [Act.put, lA, lB, lC]
          refine tK (v := ?_) 28 q434 ?_ ?_
          rotate_left
          ·(intro _ h; (try dsimp only at h); go_simp; try with_reducible rfl)
          simp only [Act.put, lA, lB, lC]
          refine tK (v := ?_) 29 q435 ?_ ?_
          rotate_left
          ·(intro _ h; (try dsimp only at h); go_simp; try with_reducible rfl)
          simp only [Act.put, lA, lB, lC]
          refine tK (v := ?_) 30 q436 ?_ ?_
          rotate_left
          ·(intro _ h; (try dsimp only at h); go_simp; try with_reducible rfl)
          simp only [Act.put, lA, lB, lC]
          refine tK (v := ?_) 31 q437 ?_ ?_
          rotate_left
          ·(intro _ h; (try dsimp only at h); go_simp; try with_reducible rfl)
          simp only [Act.put, lA, lB, lC]
          refine tK (v := ?_) 32 q438 ?_ ?_
          rotate_left
          ·(intro _ h; (try dsimp only at h); go_simp; try with_reducible rfl)
          simp only [Act.put, lA, lB, lC]
          refine tK (v := ?_) 33 q439 ?_ ?_
          rotate_left
          ·(intro _ h; (try dsimp only at h); go_simp; try with_reducible rfl)
          simp only [Act.put, lA, lB, lC]
          refine tK (v := .bool true) 34 q440 ?_ ?_
          ·(intro wY hSw; (try dsimp only at hSw); go_simp; first | done | omega)
          simp only [Act.put, lA, lB, lC]
          refine tK (v := ?_) 35 q441 ?_ ?_
          rotate_left
          ·(intro _ h; (try dsimp only at h); go_simp; try with_reducible rfl)
          simp only [Act.put, lA, lB, lC]
          refine tK (v := ?_) 36 q442 ?_ ?_
          rotate_left
          ·(intro _ h; (try dsimp only at h); go_simp; try with_reducible rfl)
          simp only [Act.put, lA, lB, lC]
          refine wpAnyH_done (by kernel_rfl) ?_ _
          have HB := hide (gr_trans uL (gr_trans hb vv))
          clear HS vv hHeld
          go_wp2
          go_ret
          exact ⟨rfl, HB.out⟩
         exact AllReadyH.nil
        exact AllReadyH.nil
       exact AllReadyH.nil
      ·have hm : x2 % 2 = 0 := by simp at hup; omega
       have ht : x2.tmod 2 = 0 := by rw [Int.tmod_eq_emod_of_nonneg hx0]; exact hm
       clear hup
       have HS : Hid (∀ W, Below wr.heap.size wr W → (fun W => (W.cell? ⟨w2.heap.size, 0, none⟩ = some (.int .i64 B.id) ∧ W.cell? ⟨w2.heap.size, 1, none⟩ = some (.string B.name) ∧ W.cell? ⟨w2.heap.size, 2, none⟩ = some (.slice (some ⟨pb, po, none⟩) m c) ∧ W.cell? ⟨w2.heap.size, 3, none⟩ = some (.slice fa fn fc) ∧ W.cell? ⟨w2.heap.size, 4, none⟩ = some (.slice ra rn rc) ∧ W.cell? ⟨w2.heap.size, 5, none⟩ = some (.slice oa on oc) ∧ W.cell? ⟨w2.heap.size, 6, none⟩ = some (.int .i64 B.ticks) ∧ W.cell? ⟨w2.heap.size, 7, none⟩ = some (.int .i64 B.parse) ∧ W.cell? ⟨w2.heap.size, 8, none⟩ = some (.int .i64 B.word) ∧ W.cell? ⟨w2.heap.size, 9, none⟩ = some (.int .i64 B.drops) ∧ W.cell? ⟨w2.heap.size, 10, none⟩ = some (.int .i64 B.vers)) ∧ (W.cell? ⟨w6.heap.size, 0, none⟩ = some (.int .i64 X.id) ∧ W.cell? ⟨w6.heap.size, 1, none⟩ = some (.string X.name) ∧ W.cell? ⟨w6.heap.size, 2, none⟩ = some (.slice a6 n6 c6) ∧ W.cell? ⟨w6.heap.size, 3, none⟩ = some (.slice fa6 fn6 fc6) ∧ W.cell? ⟨w6.heap.size, 4, none⟩ = some (.slice ra6 rn6 rc6) ∧ W.cell? ⟨w6.heap.size, 5, none⟩ = some (.slice oa6 on6 oc6) ∧ W.cell? ⟨w6.heap.size, 6, none⟩ = some (.int .i64 X.ticks) ∧ W.cell? ⟨w6.heap.size, 7, none⟩ = some (.int .i64 X.parse) ∧ W.cell? ⟨w6.heap.size, 8, none⟩ = some (.int .i64 X.word) ∧ W.cell? ⟨w6.heap.size, 9, none⟩ = some (.int .i64 X.drops) ∧ W.cell? ⟨w6.heap.size, 10, none⟩ = some (.int .i64 X.vers)) ∧ (W.cell? ⟨gY, 0, none⟩ = some (.int .i64 Y.id) ∧ W.cell? ⟨gY, 1, none⟩ = some (.string Y.name) ∧ W.cell? ⟨gY, 2, none⟩ = some (.slice (some ⟨yb, yo, none⟩) n9 c9) ∧ W.cell? ⟨gY, 3, none⟩ = some (.slice fa9 fn9 fc9) ∧ W.cell? ⟨gY, 4, none⟩ = some (.slice ra9 rn9 rc9) ∧ W.cell? ⟨gY, 5, none⟩ = some (.slice oa9 on9 oc9) ∧ W.cell? ⟨gY, 6, none⟩ = some (.int .i64 Y.ticks) ∧ W.cell? ⟨gY, 7, none⟩ = some (.int .i64 Y.parse) ∧ W.cell? ⟨gY, 8, none⟩ = some (.int .i64 Y.word) ∧ W.cell? ⟨gY, 9, none⟩ = some (.int .i64 Y.drops) ∧ W.cell? ⟨gY, 10, none⟩ = some (.int .i64 Y.vers)) ∧ (W.cell? ⟨w9.heap.size, 0, none⟩ = some (.int .i64 T.id) ∧ W.cell? ⟨w9.heap.size, 1, none⟩ = some (.string T.name) ∧ W.cell? ⟨w9.heap.size, 2, none⟩ = some (.slice a8 n8 c8) ∧ W.cell? ⟨w9.heap.size, 3, none⟩ = some (.slice fa8 fn8 fc8) ∧ W.cell? ⟨w9.heap.size, 4, none⟩ = some (.slice ra8 rn8 rc8) ∧ W.cell? ⟨w9.heap.size, 5, none⟩ = some (.slice oa8 on8 oc8) ∧ W.cell? ⟨w9.heap.size, 6, none⟩ = some (.int .i64 T.ticks) ∧ W.cell? ⟨w9.heap.size, 7, none⟩ = some (.int .i64 T.parse) ∧ W.cell? ⟨w9.heap.size, 8, none⟩ = some (.int .i64 T.word) ∧ W.cell? ⟨w9.heap.size, 9, none⟩ = some (.int .i64 T.drops) ∧ W.cell? ⟨w9.heap.size, 10, none⟩ = some (.int .i64 T.vers)) ∧ (W.cell? ⟨yb, yo + k * 8, none⟩ = some (.bool true) ∧ W.cell? ⟨yb, yo + k * 8 + 2, none⟩ = some (.bool false))) W) := hide (fun W hW => ⟨cells11 (kept_block kB (gr_trans hb hW)), cells11 (kept_block kX (gr_trans hb hW)), cells11 (kept_block kY (gr_trans hb hW)), cells11 (kept_block kT (gr_trans hb hW)), kept_cell y0 (gr_trans hb hW), kept_cell y2 (gr_trans hb hW)⟩)
       have vv : Below wr.heap.size wr wr.drew := gr_drew (Below.refl _ _)
       go_wp2_with fail
       refine wp_region_held_drew (S := (fun W => (W.cell? ⟨w2.heap.size, 0, none⟩ = some (.int .i64 B.id) ∧ W.cell? ⟨w2.heap.size, 1, none⟩ = some (.string B.name) ∧ W.cell? ⟨w2.heap.size, 2, none⟩ = some (.slice (some ⟨pb, po, none⟩) m c) ∧ W.cell? ⟨w2.heap.size, 3, none⟩ = some (.slice fa fn fc) ∧ W.cell? ⟨w2.heap.size, 4, none⟩ = some (.slice ra rn rc) ∧ W.cell? ⟨w2.heap.size, 5, none⟩ = some (.slice oa on oc) ∧ W.cell? ⟨w2.heap.size, 6, none⟩ = some (.int .i64 B.ticks) ∧ W.cell? ⟨w2.heap.size, 7, none⟩ = some (.int .i64 B.parse) ∧ W.cell? ⟨w2.heap.size, 8, none⟩ = some (.int .i64 B.word) ∧ W.cell? ⟨w2.heap.size, 9, none⟩ = some (.int .i64 B.drops) ∧ W.cell? ⟨w2.heap.size, 10, none⟩ = some (.int .i64 B.vers)) ∧ (W.cell? ⟨w6.heap.size, 0, none⟩ = some (.int .i64 X.id) ∧ W.cell? ⟨w6.heap.size, 1, none⟩ = some (.string X.name) ∧ W.cell? ⟨w6.heap.size, 2, none⟩ = some (.slice a6 n6 c6) ∧ W.cell? ⟨w6.heap.size, 3, none⟩ = some (.slice fa6 fn6 fc6) ∧ W.cell? ⟨w6.heap.size, 4, none⟩ = some (.slice ra6 rn6 rc6) ∧ W.cell? ⟨w6.heap.size, 5, none⟩ = some (.slice oa6 on6 oc6) ∧ W.cell? ⟨w6.heap.size, 6, none⟩ = some (.int .i64 X.ticks) ∧ W.cell? ⟨w6.heap.size, 7, none⟩ = some (.int .i64 X.parse) ∧ W.cell? ⟨w6.heap.size, 8, none⟩ = some (.int .i64 X.word) ∧ W.cell? ⟨w6.heap.size, 9, none⟩ = some (.int .i64 X.drops) ∧ W.cell? ⟨w6.heap.size, 10, none⟩ = some (.int .i64 X.vers)) ∧ (W.cell? ⟨gY, 0, none⟩ = some (.int .i64 Y.id) ∧ W.cell? ⟨gY, 1, none⟩ = some (.string Y.name) ∧ W.cell? ⟨gY, 2, none⟩ = some (.slice (some ⟨yb, yo, none⟩) n9 c9) ∧ W.cell? ⟨gY, 3, none⟩ = some (.slice fa9 fn9 fc9) ∧ W.cell? ⟨gY, 4, none⟩ = some (.slice ra9 rn9 rc9) ∧ W.cell? ⟨gY, 5, none⟩ = some (.slice oa9 on9 oc9) ∧ W.cell? ⟨gY, 6, none⟩ = some (.int .i64 Y.ticks) ∧ W.cell? ⟨gY, 7, none⟩ = some (.int .i64 Y.parse) ∧ W.cell? ⟨gY, 8, none⟩ = some (.int .i64 Y.word) ∧ W.cell? ⟨gY, 9, none⟩ = some (.int .i64 Y.drops) ∧ W.cell? ⟨gY, 10, none⟩ = some (.int .i64 Y.vers)) ∧ (W.cell? ⟨w9.heap.size, 0, none⟩ = some (.int .i64 T.id) ∧ W.cell? ⟨w9.heap.size, 1, none⟩ = some (.string T.name) ∧ W.cell? ⟨w9.heap.size, 2, none⟩ = some (.slice a8 n8 c8) ∧ W.cell? ⟨w9.heap.size, 3, none⟩ = some (.slice fa8 fn8 fc8) ∧ W.cell? ⟨w9.heap.size, 4, none⟩ = some (.slice ra8 rn8 rc8) ∧ W.cell? ⟨w9.heap.size, 5, none⟩ = some (.slice oa8 on8 oc8) ∧ W.cell? ⟨w9.heap.size, 6, none⟩ = some (.int .i64 T.ticks) ∧ W.cell? ⟨w9.heap.size, 7, none⟩ = some (.int .i64 T.parse) ∧ W.cell? ⟨w9.heap.size, 8, none⟩ = some (.int .i64 T.word) ∧ W.cell? ⟨w9.heap.size, 9, none⟩ = some (.int .i64 T.drops) ∧ W.cell? ⟨w9.heap.size, 10, none⟩ = some (.int .i64 T.vers)) ∧ (W.cell? ⟨yb, yo + k * 8, none⟩ = some (.bool true) ∧ W.cell? ⟨yb, yo + k * 8 + 2, none⟩ = some (.bool false)))) (by kernel_rfl) (HS.out _ vv) (fun hHeld => ?_)
       refine tK (v := ?_) 0 q406 ?_ ?_
       rotate_left
       ·(intro _ h; (try dsimp only at h); go_simp; try with_reducible rfl)
       simp only [Act.put, lA, lB, lC]
       refine tR [1] ?_
       refine AllReadyH.cons (o := q407) rfl (fun K hK => ?_) ?_
       ·go_simp
        refine (implBridgeOk_any (some ⟨pb, po, none⟩) m c fa fn fc ra rn rc oa on oc B _ (oB.row.below (gr_trans hb vv)) (by omega) hRv).mono ?_
        rintro e wt ⟨rfl, hbt⟩
        rw [HBOK.out]
        have vv := gr_trans vv hbt
        clear hbt
        go_wp2_with fail
        refine hK.out _ _ (HS.out _ vv) (fun hHeld => ?_)
        clear hK K
        try simp only [Act.put, lA, lB, lC]
        refine tK (v := ?_) 2 q408 ?_ ?_
        rotate_left
        ·(intro _ h; (try dsimp only at h); go_simp; try with_reducible rfl)
        simp only [Act.put, lA, lB, lC]
        refine tK (v := ?_) 3 q409 ?_ ?_
        rotate_left
        ·(intro _ h; (try dsimp only at h); go_simp; try with_reducible rfl)
        simp only [Act.put, lA, lB, lC]
        refine tR [4] ?_
        refine AllReadyH.cons (o := q410) rfl (fun K hK => ?_) ?_
        ·go_simp
         refine (implBridgeOk_any a6 n6 c6 fa6 fn6 fc6 ra6 rn6 rc6 oa6 on6 oc6 X _ (oX.row.below (gr_trans hb vv)) hfx (by rw [LX.out]; exact hRv)).mono ?_
         rintro e wt ⟨rfl, hbt⟩
         rw [GX3.out]
         have vv := gr_trans vv hbt
         clear hbt
         go_wp2_with fail
         refine hK.out _ _ (HS.out _ vv) (fun hHeld => ?_)
         clear hK K
         try simp only [Act.put, lA, lB, lC]
         refine tK (v := ?_) 5 q411 ?_ ?_
         rotate_left
         ·(intro _ h; (try dsimp only at h); go_simp; try with_reducible rfl)
         simp only [Act.put, lA, lB, lC]
         refine tK (v := ?_) 6 q412 ?_ ?_
         rotate_left
         ·(intro _ h; (try dsimp only at h); go_simp; try with_reducible rfl)
         simp only [Act.put, lA, lB, lC]
         refine tK (v := ?_) 7 q413 ?_ ?_
         rotate_left
         ·(intro _ h; (try dsimp only at h); go_simp; try with_reducible rfl)
         simp only [Act.put, lA, lB, lC]
         refine tK (v := ?_) 8 q414 ?_ ?_
         rotate_left
         ·(intro _ h; (try dsimp only at h); go_simp; try with_reducible rfl)
         simp only [Act.put, lA, lB, lC]
         refine tK (v := ?_) 9 q415 ?_ ?_
         rotate_left
         ·(intro _ h; (try dsimp only at h); go_simp; try with_reducible rfl)
         simp only [Act.put, lA, lB, lC]
         refine tK (v := ?_) 10 q416 ?_ ?_
         rotate_left
         ·(intro _ h; (try dsimp only at h); go_simp; try with_reducible rfl)
         simp only [Act.put, lA, lB, lC]
         refine tK (v := ?_) 11 q417 ?_ ?_
         rotate_left
         ·(intro _ h; (try dsimp only at h); go_simp; try with_reducible rfl)
         simp only [Act.put, lA, lB, lC]
         refine tK (v := ?_) 12 q418 ?_ ?_
         rotate_left
         ·(intro _ h; (try dsimp only at h); go_simp; try with_reducible rfl)
         simp only [Act.put, lA, lB, lC]
         refine tK (v := ?_) 13 q419 ?_ ?_
         rotate_left
         ·(intro _ h; (try dsimp only at h); go_simp; try with_reducible rfl)
         simp only [Act.put, lA, lB, lC]
         refine tR [14] ?_
         refine AllReadyH.cons (o := q420) rfl (fun K hK => ?_) ?_
         ·go_simp
          refine (HAT.out _ (h0.below (gr_trans uL (gr_trans hb vv)))).mono ?_
          rintro e wx ⟨rfl, ex⟩
          obtain rfl := ex.symm
          go_wp2_with fail
          refine hK.out _ _ (HS.out _ vv) (fun hHeld => ?_)
          clear hK K
          try simp only [Act.put, lA, lB, lC]
          refine tK (v := ?_) 15 q421 ?_ ?_
          rotate_left
          ·(intro _ h; (try dsimp only at h); go_simp; try with_reducible rfl)
          simp only [Act.put, lA, lB, lC]
          refine tK (v := .bool true) 16 q422 ?_ ?_
          ·(intro wY hSw; (try dsimp only at hSw); go_simp; first | done | omega)
          simp only [Act.put, lA, lB, lC]
          refine tK (v := .bool true) 17 q423 ?_ ?_
          ·(intro wY hSw; (try dsimp only at hSw); go_simp; first | done | omega)
          simp only [Act.put, lA, lB, lC]
          refine tK (v := ?_) 18 q424 ?_ ?_
          rotate_left
          ·(intro _ h; (try dsimp only at h); go_simp; try with_reducible rfl)
          simp only [Act.put, lA, lB, lC]
          refine tK (v := ?_) 19 q425 ?_ ?_
          rotate_left
          ·(intro _ h; (try dsimp only at h); go_simp; try with_reducible rfl)
          simp only [Act.put, lA, lB, lC]
          refine tK (v := ?_) 20 q426 ?_ ?_
          rotate_left
          ·(intro _ h; (try dsimp only at h); go_simp; try with_reducible rfl)
          simp only [Act.put, lA, lB, lC]
          refine tK (v := ?_) 21 q427 ?_ ?_
          rotate_left
          ·(intro _ h; (try dsimp only at h); go_simp; try with_reducible rfl)
          simp only [Act.put, lA, lB, lC]
          refine tK (v := ?_) 22 q428 ?_ ?_
          rotate_left
          ·(intro _ h; (try dsimp only at h); go_simp; try with_reducible rfl)
          simp only [Act.put, lA, lB, lC]
          refine tK (v := ?_) 23 q429 ?_ ?_
          rotate_left
          ·(intro _ h; (try dsimp only at h); go_simp; try with_reducible rfl)
          simp only [Act.put, lA, lB, lC]
          refine tK (v := ?_) 24 q430 ?_ ?_
          rotate_left
          ·(intro _ h; (try dsimp only at h); go_simp; try with_reducible rfl)
          simp only [Act.put, lA, lB, lC]
          refine tK (v := ?_) 25 q431 ?_ ?_
          rotate_left
          ·(intro _ h; (try dsimp only at h); go_simp; try with_reducible rfl)
          simp only [Act.put, lA, lB, lC]
          refine tK (v := ?_) 26 q432 ?_ ?_
          rotate_left
          ·(intro _ h; (try dsimp only at h); go_simp; try with_reducible rfl)
          simp only [Act.put, lA, lB, lC]
          refine tK (v := ?_) 27 q433 ?_ ?_
          rotate_left
          ·(intro _ h; (try dsimp only at h); go_simp; try with_reducible rfl)
          simp only [Act.put, lA, lB, lC]
          refine tK (v := ?_) 28 q434 ?_ ?_
          rotate_left
          ·(intro _ h; (try dsimp only at h); go_simp; try with_reducible rfl)
          simp only [Act.put, lA, lB, lC]
          refine tK (v := ?_) 29 q435 ?_ ?_
          rotate_left
          ·(intro _ h; (try dsimp only at h); go_simp; try with_reducible rfl)
          simp only [Act.put, lA, lB, lC]
          refine tK (v := ?_) 30 q436 ?_ ?_
          rotate_left
          ·(intro _ h; (try dsimp only at h); go_simp; try with_reducible rfl)
          simp only [Act.put, lA, lB, lC]
          refine tK (v := ?_) 31 q437 ?_ ?_
          rotate_left
          ·(intro _ h; (try dsimp only at h); go_simp; try with_reducible rfl)
          simp only [Act.put, lA, lB, lC]
          refine tK (v := ?_) 32 q438 ?_ ?_
          rotate_left
          ·(intro _ h; (try dsimp only at h); go_simp; try with_reducible rfl)
          simp only [Act.put, lA, lB, lC]
          refine tK (v := ?_) 33 q439 ?_ ?_
          rotate_left
          ·(intro _ h; (try dsimp only at h); go_simp; try with_reducible rfl)
          simp only [Act.put, lA, lB, lC]
          refine tK (v := .bool true) 34 q440 ?_ ?_
          ·(intro wY hSw; (try dsimp only at hSw); go_simp; first | done | omega)
          simp only [Act.put, lA, lB, lC]
          refine tK (v := ?_) 35 q441 ?_ ?_
          rotate_left
          ·(intro _ h; (try dsimp only at h); go_simp; try with_reducible rfl)
          simp only [Act.put, lA, lB, lC]
          refine tK (v := ?_) 36 q442 ?_ ?_
          rotate_left
          ·(intro _ h; (try dsimp only at h); go_simp; try with_reducible rfl)
          simp only [Act.put, lA, lB, lC]
          refine wpAnyH_done (by kernel_rfl) ?_ _
          have HB := hide (gr_trans uL (gr_trans hb vv))
          clear HS vv hHeld
          go_wp2
          go_ret
          exact ⟨rfl, HB.out⟩
         exact AllReadyH.nil
        exact AllReadyH.nil
       exact AllReadyH.nil

theorem fnBridges_own : ownKnob Tryz.prog.godebug = none := by kernel_rfl
theorem fnBridges_laid : laidOutB Tryz.prog = true := by kernel_rfl

open Go.ChangeShapes Go.WideShapes Go.ChangeAt in
open Go.ChangeMaps (open_string shut_string) in
set_option maxRecDepth 100000 in
theorem fnBridges_lifted (os : Os) (started : os.Started) (H : Type) (enc : TypeId × Value → H) :
  ReturnsInHanded {} Tryz.checked os 3 .any (Rows.fnBridgesSpec.pre6 enc Tryz.prog Tryz.f3 Rows.fnBridgesRow.domain false) (Rows.fnBridgesSpec.post enc Tryz.prog Tryz.f3 false true false false) := by
 refine returnsInHanded_of_change (C := Tryz.checked) fnBridges_own started (by kernel_rfl) Tryz.func3
  (ChangeSpec.witness6 (enc := enc) (C := Tryz.checked) false ⟨#[], #[.slice none 0 0], []⟩ 8 (by kernel_rfl) (by kernel_rfl) (by kernel_rfl) (by kernel_rfl)) ?_
 intro W base args ds gs before hval0 hW hcnd _
 have hval : ∀ (j : Nat) t v, Tryz.f3.params[j]? = some t → args[j]? = some v → Value.okWide Tryz.prog W .any base t v := hval0
 have hW' := hW
 obtain ⟨p, q, hA0, hV, rfl, hfz, hnd⟩ := hW
 have hA : DataW.TrodAll enc Tryz.prog W 0 (fun _ => true) true Tryz.f3.params.toList args.toList ds p := hA0
 rw [Tryz.params3] at hA hval
 obtain ⟨v0, vs0, d0, ds0, p0, q0, hargs, rfl, rfl, h0, r0⟩ := trodAll_cons hA
 obtain ⟨rfl, rfl, rfl⟩ := trodAll_nil r0
 obtain rfl : args = #[v0] := by cases args; simp_all
 obtain ⟨rfl, rfl⟩ := trodVars_none hV
 obtain ⟨a0, len0, cap0, rfl⟩ := okWide_slice Tryz.underlying22 (hval 0 22 v0 rfl rfl)
 have k0 := h0
 have lt0 : ∀ x ∈ p0, x.block < W.heap.size := by obtain ⟨m, hm⟩ := k0; exact DataW.trod_lt m _ _ _ hm
 obtain ⟨z0, w0⟩ : ∃ zs, Row W a0 len0 cap0 zs := by
  obtain ⟨fuel, hf⟩ := h0
  rcases open_ints Tryz.underlying22 Tryz.underlying5 (by kernel_rfl) hf with ⟨hcs, _⟩ | ⟨x, l, c, zs, hcs, _, hl, hm, hz, _, hcell, hwz⟩
  ·simp [Value.cells] at hcs
   obtain ⟨rfl, rfl, rfl⟩ := hcs
   exact ⟨[], row_nil W⟩
  ·simp [Value.cells] at hcs
   obtain ⟨rfl, rfl, rfl⟩ := hcs
   exact ⟨zs.take len0, row_open hl hm (by simpa using hz) hcell hwz⟩
 clear hA0 hval0
 refine (bridges_walk a0 len0 cap0 z0 W w0).mono fun e W' ⟨he, bel⟩ => ?_
 subst he
 exact ⟨_, rfl, _, _, _, [], _, [], hW', trodAll_mk1 (shut_bool Tryz.underlying4 _), (trodAll_cons_mk (Below.trod fnBridges_laid (by kernel_rfl) (of_decide_eq_true (by kernel_rfl)) k0 bel lt0) trodAll_mk0), rfl, bel.frame _, fun h => by cases h⟩

theorem fnBridges_holds : Rows.FnBridgesSaid :=
 OpenClaim.holds_of_wide 3 Tryz.f3 rfl rfl rfl rfl rfl rfl rfl ⟨rfl, rfl, rfl, rfl, rfl⟩ rfl rfl rfl rfl rfl (by kernel_rfl) Tryz.func3 (by kernel_rfl)
  (of_decide_eq_true (by kernel_rfl)) (by unfold Func.isWrapper; first | (rw [if_pos (by decide +kernel)]; kernel_rfl) | (rw [if_neg (by decide +kernel)]; exact ⟨rfl, rfl⟩))
  (fun os started H enc _ => fnBridges_lifted os started H enc)

#print axioms fnBridges_holds

end Go.Proofs.YtfknffdlmcckkaaGreat
