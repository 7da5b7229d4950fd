/-
  FnBridgesBent answers true at all codes.
-/
import Derived.Test.YtfknffdlmcckkaaGreatPTKW
import Derived.Test.YtfknffdlmcckkaaGreatPTBrOkI
import Derived.Test.YtfknffdlmcckkaaGreatPTBrOkS
import Derived.Test.YtfknffdlmcckkaaGreatPTBrSameI
import Derived.Test.YtfknffdlmcckkaaGreatPTBrSameS
import Derived.Test.YtfknffdlmcckkaaGreatPTBrStepI
import Derived.Test.YtfknffdlmcckkaaGreatPTBrStepS
import Derived.Test.YtfknffdlmcckkaaGreatPTK01
import Derived.Test.YtfknffdlmcckkaaGreatPTK07
import Derived.Test.YtfknffdlmcckkaaGreatPTK25
import Derived.Test.YtfknffdlmcckkaaGreatPTK32
import Derived.Deep.RegionHeld3
import Derived.WalkKit
import Derived.ProofKit
import Derived.OpenShut
import Derived.ShutString
import Derived.ChangeOld
import Derived.Below
namespace Go.Proofs.YtfknffdlmcckkaaGreat
open Go.RowKit

theorem few_rows {B : BR} (h : FewB B) : ∀ r ∈ B.v.rows, r.Rng := by
 obtain ⟨pp, hf, -⟩ := h.v
 exact fun r hr => (hf.rows r hr).1

theorem new_cases : ∀ id ∈ ([1, 99, 0, 100] : List Int), ∀ p ∈ ([1, 6, 0, 7] : List Int), bridgeOk (bridgeNewAt id p) = decide (0 < (bridgeNewAt id p).ports.length) ∧ ((bridgeNewAt id p).v.rows.all (fun r => decide (0 ≤ r.i) && decide (r.i ≤ 1000) && decide (0 ≤ r.m) && decide (r.m ≤ 1000) && decide (0 ≤ r.b) && decide (r.b ≤ 1000))) = true ∧ (bridgeNewAt id p).f.length ≤ 12 := by
 decide +kernel

theorem new_says (id : Int) (hi : id ∈ ([1, 99, 0, 100] : List Int)) (p : Int) (hp : p ∈ ([1, 6, 0, 7] : List Int)) : bridgeOk (bridgeNewAt id p) = decide (0 < (bridgeNewAt id p).ports.length) ∧ (∀ r ∈ (bridgeNewAt id p).v.rows, r.Rng) ∧ (bridgeNewAt id p).f.length ≤ 12 := by
 obtain ⟨h1, h2, h3⟩ := new_cases id hi p hp
 refine ⟨h1, fun r hr => ?_, h3⟩
 have h4 := List.all_eq_true.1 h2 r hr
 simp only [Bool.and_eq_true, decide_eq_true_eq] at h4
 unfold VR.Rng I64
 omega

set_option maxRecDepth 100000 in
set_option maxHeartbeats 32000000 in
theorem bridgesBent_walk (a0 : Option Addr) (l0 c0 : Nat) (z0 : List Int) (w : World) (h0 : Row w a0 l0 c0 z0) :
  Calls Tryz.prog 4 #[.slice a0 l0 c0] w fun e w' => e = .returned (.bool true) ∧ Below w.heap.size w w' := by
 by_cases hbig : 1048576 < l0
 ·have hi : (1048576 : Int) < (l0 : Int) := by omega
  have hb1 : Calls Tryz.prog 5 #[.slice a0 l0 c0] w fun e w' => e = .returned (.bool true) ∧ w' = w := by
   go_enter Tryz.func5, Tryz.ntmps5
   go_wp2
   go_ret
   exact ⟨rfl, rfl⟩
  go_enter Tryz.func4, Tryz.ntmps4
  go_wp2_with fail
  refine hb1.mono ?_
  rintro e w1 ⟨rfl, e1⟩
  obtain rfl := e1.symm
  go_wp2
  go_ret
  exact ⟨rfl, Below.refl _ _⟩
 have hs : l0 ≤ 1048576 := by omega
 go_enter Tryz.func4, Tryz.ntmps4
 go_wp2_with fail
 refine (big_no a0 l0 c0 _ hbig).mono ?_
 rintro e w1 ⟨rfl, e1⟩
 obtain rfl := e1.symm
 have u : Below w.heap.size w w := Below.refl _ _
 go_wp2_with fail
 refine (drawHearVec_any a0 l0 c0 z0 _ (h0.below u) hs).mono ?_
 rintro e wd1 ⟨a1, n1, c1, fa1, fn1, fc1, ra1, rn1, rc1, oa1, on1, oc1, B1, p1, v, rfl, o1, few1, hb⟩
 have u := gr_trans u hb
 clear hb
 generalize hwx : (wd1.alloc (Obj.cells #[.int .i64 B1.id, .string B1.name, .slice a1 n1 c1, .slice fa1 fn1 fc1, .slice ra1 rn1 rc1, .slice oa1 on1 oc1, .int .i64 B1.ticks, .int .i64 B1.parse, .int .i64 B1.word, .int .i64 B1.drops, .int .i64 B1.vers] 31)).alloc (Obj.cells #[.int .i64 v.r, .int .i64 v.c, .int .i64 v.h, .int .i64 v.b, .int .i64 v.p] 35) = wb1
 have bx : Below wd1.heap.size wd1 wb1 := by rw [← hwx]; exact gr_trans (below_one _ _) (below_one _ _)
 have k1 : wb1.heap[wd1.heap.size]? = some (.cells #[.int .i64 B1.id, .string B1.name, .slice a1 n1 c1, .slice fa1 fn1 fc1, .slice ra1 rn1 rc1, .slice oa1 on1 oc1, .int .i64 B1.ticks, .int .i64 B1.parse, .int .i64 B1.word, .int .i64 B1.drops, .int .i64 B1.vers] 31) := by rw [← hwx]; exact kept_block (block_last _ _) (below_one _ _)
 have kVe : wb1.heap[wd1.heap.size + 1]? = some (.cells #[.int .i64 v.r, .int .i64 v.c, .int .i64 v.h, .int .i64 v.b, .int .i64 v.p] 35) := by
  rw [← hwx]
  have := block_last (wd1.alloc (Obj.cells #[.int .i64 B1.id, .string B1.name, .slice a1 n1 c1, .slice fa1 fn1 fc1, .slice ra1 rn1 rc1, .slice oa1 on1 oc1, .int .i64 B1.ticks, .int .i64 B1.parse, .int .i64 B1.word, .int .i64 B1.drops, .int .i64 B1.vers] 31)) (Obj.cells #[.int .i64 v.r, .int .i64 v.c, .int .i64 v.h, .int .i64 v.b, .int .i64 v.p] 35)
  simpa using this
 have u := gr_trans u bx
 have o1 := o1.below bx
 go_upto_region 4 with fail
 try rw [hwx]
 generalize hVb : wd1.heap.size + 1 = Vb at *
 clear hVb
 generalize hX1 : wd1.heap.size = X1 at *
 clear hwx bx hX1
 obtain ⟨m11, m21, m31, m41⟩ := few_sizes few1 o1.row
 have r1 := few_rows few1
 go_wp2_with fail
 refine (drawLinkSet_any a0 l0 c0 z0 _ (h0.below u) hs).mono ?_
 rintro e wd2 ⟨a2, n2, c2, fa2, fn2, fc2, ra2, rn2, rc2, oa2, on2, oc2, B2, p2, up, rfl, o2, few2, hb⟩
 have k1 := kept_block k1 hb
 have o1 := o1.below hb
 have kVe := kept_block kVe hb
 have u := gr_trans u hb
 clear hb
 generalize hwx : wd2.alloc (Obj.cells #[.int .i64 B2.id, .string B2.name, .slice a2 n2 c2, .slice fa2 fn2 fc2, .slice ra2 rn2 rc2, .slice oa2 on2 oc2, .int .i64 B2.ticks, .int .i64 B2.parse, .int .i64 B2.word, .int .i64 B2.drops, .int .i64 B2.vers] 31) = wb2
 have bx : Below wd2.heap.size wd2 wb2 := by rw [← hwx]; exact below_one _ _
 have k2 : wb2.heap[wd2.heap.size]? = some (.cells #[.int .i64 B2.id, .string B2.name, .slice a2 n2 c2, .slice fa2 fn2 fc2, .slice ra2 rn2 rc2, .slice oa2 on2 oc2, .int .i64 B2.ticks, .int .i64 B2.parse, .int .i64 B2.word, .int .i64 B2.drops, .int .i64 B2.vers] 31) := by rw [← hwx]; exact block_last _ _
 have k1 := kept_block k1 bx
 have o1 := o1.below bx
 have kVe := kept_block kVe bx
 have u := gr_trans u bx
 have o2 := o2.below bx
 go_upto_region 5 with fail
 try rw [hwx]
 generalize hX2 : wd2.heap.size = X2 at *
 clear hwx bx hX2
 obtain ⟨m12, m22, m32, m42⟩ := few_sizes few2 o2.row
 have r2 := few_rows few2
 go_wp2_with fail
 refine (drawTick_any a0 l0 c0 z0 _ (h0.below u) hs).mono ?_
 rintro e wd3 ⟨a3, n3, c3, fa3, fn3, fc3, ra3, rn3, rc3, oa3, on3, oc3, B3, rfl, o3, few3, hb⟩
 have k1 := kept_block k1 hb
 have o1 := o1.below hb
 have kVe := kept_block kVe hb
 have k2 := kept_block k2 hb
 have o2 := o2.below hb
 have u := gr_trans u hb
 clear hb
 generalize hwx : wd3.alloc (Obj.cells #[.int .i64 B3.id, .string B3.name, .slice a3 n3 c3, .slice fa3 fn3 fc3, .slice ra3 rn3 rc3, .slice oa3 on3 oc3, .int .i64 B3.ticks, .int .i64 B3.parse, .int .i64 B3.word, .int .i64 B3.drops, .int .i64 B3.vers] 31) = wb3
 have bx : Below wd3.heap.size wd3 wb3 := by rw [← hwx]; exact below_one _ _
 have k3 : wb3.heap[wd3.heap.size]? = some (.cells #[.int .i64 B3.id, .string B3.name, .slice a3 n3 c3, .slice fa3 fn3 fc3, .slice ra3 rn3 rc3, .slice oa3 on3 oc3, .int .i64 B3.ticks, .int .i64 B3.parse, .int .i64 B3.word, .int .i64 B3.drops, .int .i64 B3.vers] 31) := by rw [← hwx]; exact block_last _ _
 have k1 := kept_block k1 bx
 have o1 := o1.below bx
 have kVe := kept_block kVe bx
 have k2 := kept_block k2 bx
 have o2 := o2.below bx
 have u := gr_trans u bx
 have o3 := o3.below bx
 go_upto_region 6 with fail
 try rw [hwx]
 generalize hX3 : wd3.heap.size = X3 at *
 clear hwx bx hX3
 obtain ⟨m13, m23, m33, m43⟩ := few_sizes few3 o3.row
 have r3 := few_rows few3
 go_wp2_with fail
 refine (drawBridgeOk_any a0 l0 c0 z0 _ (h0.below u) hs).mono ?_
 rintro e wd4 ⟨a4, n4, c4, fa4, fn4, fc4, ra4, rn4, rc4, oa4, on4, oc4, B4, rfl, o4, few4, hb⟩
 have k1 := kept_block k1 hb
 have o1 := o1.below hb
 have kVe := kept_block kVe hb
 have k2 := kept_block k2 hb
 have o2 := o2.below hb
 have k3 := kept_block k3 hb
 have o3 := o3.below hb
 have u := gr_trans u hb
 clear hb
 generalize hwx : wd4.alloc (Obj.cells #[.int .i64 B4.id, .string B4.name, .slice a4 n4 c4, .slice fa4 fn4 fc4, .slice ra4 rn4 rc4, .slice oa4 on4 oc4, .int .i64 B4.ticks, .int .i64 B4.parse, .int .i64 B4.word, .int .i64 B4.drops, .int .i64 B4.vers] 31) = wb4
 have bx : Below wd4.heap.size wd4 wb4 := by rw [← hwx]; exact below_one _ _
 have k4 : wb4.heap[wd4.heap.size]? = some (.cells #[.int .i64 B4.id, .string B4.name, .slice a4 n4 c4, .slice fa4 fn4 fc4, .slice ra4 rn4 rc4, .slice oa4 on4 oc4, .int .i64 B4.ticks, .int .i64 B4.parse, .int .i64 B4.word, .int .i64 B4.drops, .int .i64 B4.vers] 31) := by rw [← hwx]; exact block_last _ _
 have k1 := kept_block k1 bx
 have o1 := o1.below bx
 have kVe := kept_block kVe bx
 have k2 := kept_block k2 bx
 have o2 := o2.below bx
 have k3 := kept_block k3 bx
 have o3 := o3.below bx
 have u := gr_trans u bx
 have o4 := o4.below bx
 go_upto_region 7 with fail
 try rw [hwx]
 generalize hX4 : wd4.heap.size = X4 at *
 clear hwx bx hX4
 obtain ⟨m14, m24, m34, m44⟩ := few_sizes few4 o4.row
 have r4 := few_rows few4
 go_wp2_with fail
 refine (drawSame_any a0 l0 c0 z0 _ (h0.below u) hs).mono ?_
 rintro e wd5 ⟨a5, n5, c5, fa5, fn5, fc5, ra5, rn5, rc5, oa5, on5, oc5, B5, a6, n6, c6, fa6, fn6, fc6, ra6, rn6, rc6, oa6, on6, oc6, B6, rfl, o5, o6, few5, hB56, hb⟩
 have k1 := kept_block k1 hb
 have o1 := o1.below hb
 have kVe := kept_block kVe hb
 have k2 := kept_block k2 hb
 have o2 := o2.below hb
 have k3 := kept_block k3 hb
 have o3 := o3.below hb
 have k4 := kept_block k4 hb
 have o4 := o4.below hb
 have u := gr_trans u hb
 clear hb
 generalize hwx : (wd5.alloc (Obj.cells #[.int .i64 B5.id, .string B5.name, .slice a5 n5 c5, .slice fa5 fn5 fc5, .slice ra5 rn5 rc5, .slice oa5 on5 oc5, .int .i64 B5.ticks, .int .i64 B5.parse, .int .i64 B5.word, .int .i64 B5.drops, .int .i64 B5.vers] 31)).alloc (Obj.cells #[.int .i64 B6.id, .string B6.name, .slice a6 n6 c6, .slice fa6 fn6 fc6, .slice ra6 rn6 rc6, .slice oa6 on6 oc6, .int .i64 B6.ticks, .int .i64 B6.parse, .int .i64 B6.word, .int .i64 B6.drops, .int .i64 B6.vers] 31) = wb5
 have bx : Below wd5.heap.size wd5 wb5 := by rw [← hwx]; exact gr_trans (below_one _ _) (below_one _ _)
 have k5 : wb5.heap[wd5.heap.size]? = some (.cells #[.int .i64 B5.id, .string B5.name, .slice a5 n5 c5, .slice fa5 fn5 fc5, .slice ra5 rn5 rc5, .slice oa5 on5 oc5, .int .i64 B5.ticks, .int .i64 B5.parse, .int .i64 B5.word, .int .i64 B5.drops, .int .i64 B5.vers] 31) := by rw [← hwx]; exact kept_block (block_last _ _) (below_one _ _)
 have k6 : wb5.heap[wd5.heap.size + 1]? = some (.cells #[.int .i64 B6.id, .string B6.name, .slice a6 n6 c6, .slice fa6 fn6 fc6, .slice ra6 rn6 rc6, .slice oa6 on6 oc6, .int .i64 B6.ticks, .int .i64 B6.parse, .int .i64 B6.word, .int .i64 B6.drops, .int .i64 B6.vers] 31) := by
  rw [← hwx]
  have := block_last (wd5.alloc (Obj.cells #[.int .i64 B5.id, .string B5.name, .slice a5 n5 c5, .slice fa5 fn5 fc5, .slice ra5 rn5 rc5, .slice oa5 on5 oc5, .int .i64 B5.ticks, .int .i64 B5.parse, .int .i64 B5.word, .int .i64 B5.drops, .int .i64 B5.vers] 31)) (Obj.cells #[.int .i64 B6.id, .string B6.name, .slice a6 n6 c6, .slice fa6 fn6 fc6, .slice ra6 rn6 rc6, .slice oa6 on6 oc6, .int .i64 B6.ticks, .int .i64 B6.parse, .int .i64 B6.word, .int .i64 B6.drops, .int .i64 B6.vers] 31)
  simpa using this
 have k1 := kept_block k1 bx
 have o1 := o1.below bx
 have kVe := kept_block kVe bx
 have k2 := kept_block k2 bx
 have o2 := o2.below bx
 have k3 := kept_block k3 bx
 have o3 := o3.below bx
 have k4 := kept_block k4 bx
 have o4 := o4.below bx
 have u := gr_trans u bx
 have o5 := o5.below bx
 have o6 := o6.below bx
 go_upto_region 8 with fail
 try rw [hwx]
 generalize hX6 : wd5.heap.size + 1 = X6 at *
 generalize hX5 : wd5.heap.size = X5 at *
 clear hwx bx hX5 hX6 hB56
 go_wp2_with fail
 refine (drawBridgeNew_any a0 l0 c0 z0 _ (h0.below u) hs).mono ?_
 rintro e wn0 ⟨nid, nports, rfl, ⟨hni, hnp⟩, hb⟩
 have k1 := kept_block k1 hb
 have o1 := o1.below hb
 have kVe := kept_block kVe hb
 have k2 := kept_block k2 hb
 have o2 := o2.below hb
 have k3 := kept_block k3 hb
 have o3 := o3.below hb
 have k4 := kept_block k4 hb
 have o4 := o4.below hb
 have k5 := kept_block k5 hb
 have o5 := o5.below hb
 have k6 := kept_block k6 hb
 have o6 := o6.below hb
 have u := gr_trans u hb
 clear hb
 have HNI := hide hni
 have HNP := hide hnp
 have hnew := new_says nid hni nports hnp
 clear hni hnp
 go_wp2_with fail
 refine (implNew_any nid nports _).mono ?_
 generalize hBN : bridgeNewAt nid nports = BN at *
 rintro e wn1 ⟨a7, n7, c7, fa7, fn7, fc7, ra7, rn7, rc7, oa7, on7, oc7, rfl, o7, hb⟩
 have k1 := kept_block k1 hb
 have o1 := o1.below hb
 have kVe := kept_block kVe hb
 have k2 := kept_block k2 hb
 have o2 := o2.below hb
 have k3 := kept_block k3 hb
 have o3 := o3.below hb
 have k4 := kept_block k4 hb
 have o4 := o4.below hb
 have k5 := kept_block k5 hb
 have o5 := o5.below hb
 have k6 := kept_block k6 hb
 have o6 := o6.below hb
 have u := gr_trans u hb
 clear hb
 generalize hwx : wn1.alloc (Obj.cells #[.int .i64 BN.id, .string BN.name, .slice a7 n7 c7, .slice fa7 fn7 fc7, .slice ra7 rn7 rc7, .slice oa7 on7 oc7, .int .i64 BN.ticks, .int .i64 BN.parse, .int .i64 BN.word, .int .i64 BN.drops, .int .i64 BN.vers] 31) = wb7
 have bx : Below wn1.heap.size wn1 wb7 := by rw [← hwx]; exact below_one _ _
 have k7 : wb7.heap[wn1.heap.size]? = some (.cells #[.int .i64 BN.id, .string BN.name, .slice a7 n7 c7, .slice fa7 fn7 fc7, .slice ra7 rn7 rc7, .slice oa7 on7 oc7, .int .i64 BN.ticks, .int .i64 BN.parse, .int .i64 BN.word, .int .i64 BN.drops, .int .i64 BN.vers] 31) := by rw [← hwx]; exact block_last _ _
 have k1 := kept_block k1 bx
 have o1 := o1.below bx
 have kVe := kept_block kVe bx
 have k2 := kept_block k2 bx
 have o2 := o2.below bx
 have k3 := kept_block k3 bx
 have o3 := o3.below bx
 have k4 := kept_block k4 bx
 have o4 := o4.below bx
 have k5 := kept_block k5 bx
 have o5 := o5.below bx
 have k6 := kept_block k6 bx
 have o6 := o6.below bx
 have u := gr_trans u bx
 have o7 := o7.below bx
 go_upto_region 10 with fail
 try rw [hwx]
 generalize hX7 : wn1.heap.size = X7 at *
 clear hwx bx hX7
 obtain ⟨b4, hb4⟩ : ∃ b, bridgeOk B4 = b := ⟨_, rfl⟩
 have HK4 := hide hb4
 clear hb4
 have HBN := hide hBN
 have hnn := o7.row.ports.size
 obtain ⟨bn, hbn⟩ : ∃ b : Bool, decide (0 < n7) = b := ⟨_, rfl⟩
 have HK7 : Hid (bridgeOk BN = bn) := hide (by rw [hnew.1, ← hbn, hnn])
 have HR7 := hide hnew.2.1
 have HF7 : Hid (fn7 ≤ 16777216) := hide (by have e2 := o7.row.f.size; have e3 := hnew.2.2; omega)
 have hbn2 : decide (0 < (n7 : Int)) = bn := by rw [← hbn]; simp
 have hbn3 : decide ((n7 : Int) > 0) = bn := hbn2
 clear hBN hnn hnew
 have vv : Below wb7.heap.size wb7 wb7.drew := gr_drew (Below.refl _ _)
 go_wp2_with fail
 refine wp_region_held_drew (S := (fun W => (W.cell? ⟨X1, 0, none⟩ = some (.int .i64 B1.id) ∧ W.cell? ⟨X1, 1, none⟩ = some (.string B1.name) ∧ W.cell? ⟨X1, 2, none⟩ = some (.slice a1 n1 c1) ∧ W.cell? ⟨X1, 3, none⟩ = some (.slice fa1 fn1 fc1) ∧ W.cell? ⟨X1, 4, none⟩ = some (.slice ra1 rn1 rc1) ∧ W.cell? ⟨X1, 5, none⟩ = some (.slice oa1 on1 oc1) ∧ W.cell? ⟨X1, 6, none⟩ = some (.int .i64 B1.ticks) ∧ W.cell? ⟨X1, 7, none⟩ = some (.int .i64 B1.parse) ∧ W.cell? ⟨X1, 8, none⟩ = some (.int .i64 B1.word) ∧ W.cell? ⟨X1, 9, none⟩ = some (.int .i64 B1.drops) ∧ W.cell? ⟨X1, 10, none⟩ = some (.int .i64 B1.vers)) ∧ (W.cell? ⟨X2, 0, none⟩ = some (.int .i64 B2.id) ∧ W.cell? ⟨X2, 1, none⟩ = some (.string B2.name) ∧ W.cell? ⟨X2, 2, none⟩ = some (.slice a2 n2 c2) ∧ W.cell? ⟨X2, 3, none⟩ = some (.slice fa2 fn2 fc2) ∧ W.cell? ⟨X2, 4, none⟩ = some (.slice ra2 rn2 rc2) ∧ W.cell? ⟨X2, 5, none⟩ = some (.slice oa2 on2 oc2) ∧ W.cell? ⟨X2, 6, none⟩ = some (.int .i64 B2.ticks) ∧ W.cell? ⟨X2, 7, none⟩ = some (.int .i64 B2.parse) ∧ W.cell? ⟨X2, 8, none⟩ = some (.int .i64 B2.word) ∧ W.cell? ⟨X2, 9, none⟩ = some (.int .i64 B2.drops) ∧ W.cell? ⟨X2, 10, none⟩ = some (.int .i64 B2.vers)) ∧ (W.cell? ⟨X3, 0, none⟩ = some (.int .i64 B3.id) ∧ W.cell? ⟨X3, 1, none⟩ = some (.string B3.name) ∧ W.cell? ⟨X3, 2, none⟩ = some (.slice a3 n3 c3) ∧ W.cell? ⟨X3, 3, none⟩ = some (.slice fa3 fn3 fc3) ∧ W.cell? ⟨X3, 4, none⟩ = some (.slice ra3 rn3 rc3) ∧ W.cell? ⟨X3, 5, none⟩ = some (.slice oa3 on3 oc3) ∧ W.cell? ⟨X3, 6, none⟩ = some (.int .i64 B3.ticks) ∧ W.cell? ⟨X3, 7, none⟩ = some (.int .i64 B3.parse) ∧ W.cell? ⟨X3, 8, none⟩ = some (.int .i64 B3.word) ∧ W.cell? ⟨X3, 9, none⟩ = some (.int .i64 B3.drops) ∧ W.cell? ⟨X3, 10, none⟩ = some (.int .i64 B3.vers)) ∧ (W.cell? ⟨X4, 0, none⟩ = some (.int .i64 B4.id) ∧ W.cell? ⟨X4, 1, none⟩ = some (.string B4.name) ∧ W.cell? ⟨X4, 2, none⟩ = some (.slice a4 n4 c4) ∧ W.cell? ⟨X4, 3, none⟩ = some (.slice fa4 fn4 fc4) ∧ W.cell? ⟨X4, 4, none⟩ = some (.slice ra4 rn4 rc4) ∧ W.cell? ⟨X4, 5, none⟩ = some (.slice oa4 on4 oc4) ∧ W.cell? ⟨X4, 6, none⟩ = some (.int .i64 B4.ticks) ∧ W.cell? ⟨X4, 7, none⟩ = some (.int .i64 B4.parse) ∧ W.cell? ⟨X4, 8, none⟩ = some (.int .i64 B4.word) ∧ W.cell? ⟨X4, 9, none⟩ = some (.int .i64 B4.drops) ∧ W.cell? ⟨X4, 10, none⟩ = some (.int .i64 B4.vers)) ∧ (W.cell? ⟨X5, 0, none⟩ = some (.int .i64 B5.id) ∧ W.cell? ⟨X5, 1, none⟩ = some (.string B5.name) ∧ W.cell? ⟨X5, 2, none⟩ = some (.slice a5 n5 c5) ∧ W.cell? ⟨X5, 3, none⟩ = some (.slice fa5 fn5 fc5) ∧ W.cell? ⟨X5, 4, none⟩ = some (.slice ra5 rn5 rc5) ∧ W.cell? ⟨X5, 5, none⟩ = some (.slice oa5 on5 oc5) ∧ W.cell? ⟨X5, 6, none⟩ = some (.int .i64 B5.ticks) ∧ W.cell? ⟨X5, 7, none⟩ = some (.int .i64 B5.parse) ∧ W.cell? ⟨X5, 8, none⟩ = some (.int .i64 B5.word) ∧ W.cell? ⟨X5, 9, none⟩ = some (.int .i64 B5.drops) ∧ W.cell? ⟨X5, 10, none⟩ = some (.int .i64 B5.vers)) ∧ (W.cell? ⟨X6, 0, none⟩ = some (.int .i64 B6.id) ∧ W.cell? ⟨X6, 1, none⟩ = some (.string B6.name) ∧ W.cell? ⟨X6, 2, none⟩ = some (.slice a6 n6 c6) ∧ W.cell? ⟨X6, 3, none⟩ = some (.slice fa6 fn6 fc6) ∧ W.cell? ⟨X6, 4, none⟩ = some (.slice ra6 rn6 rc6) ∧ W.cell? ⟨X6, 5, none⟩ = some (.slice oa6 on6 oc6) ∧ W.cell? ⟨X6, 6, none⟩ = some (.int .i64 B6.ticks) ∧ W.cell? ⟨X6, 7, none⟩ = some (.int .i64 B6.parse) ∧ W.cell? ⟨X6, 8, none⟩ = some (.int .i64 B6.word) ∧ W.cell? ⟨X6, 9, none⟩ = some (.int .i64 B6.drops) ∧ W.cell? ⟨X6, 10, none⟩ = some (.int .i64 B6.vers)) ∧ (W.cell? ⟨X7, 0, none⟩ = some (.int .i64 BN.id) ∧ W.cell? ⟨X7, 1, none⟩ = some (.string BN.name) ∧ W.cell? ⟨X7, 2, none⟩ = some (.slice a7 n7 c7) ∧ W.cell? ⟨X7, 3, none⟩ = some (.slice fa7 fn7 fc7) ∧ W.cell? ⟨X7, 4, none⟩ = some (.slice ra7 rn7 rc7) ∧ W.cell? ⟨X7, 5, none⟩ = some (.slice oa7 on7 oc7) ∧ W.cell? ⟨X7, 6, none⟩ = some (.int .i64 BN.ticks) ∧ W.cell? ⟨X7, 7, none⟩ = some (.int .i64 BN.parse) ∧ W.cell? ⟨X7, 8, none⟩ = some (.int .i64 BN.word) ∧ W.cell? ⟨X7, 9, none⟩ = some (.int .i64 BN.drops) ∧ W.cell? ⟨X7, 10, none⟩ = some (.int .i64 BN.vers)) ∧ (W.cell? ⟨Vb, 0, none⟩ = some (.int .i64 v.r) ∧ W.cell? ⟨Vb, 1, none⟩ = some (.int .i64 v.c) ∧ W.cell? ⟨Vb, 2, none⟩ = some (.int .i64 v.h) ∧ W.cell? ⟨Vb, 3, none⟩ = some (.int .i64 v.b) ∧ W.cell? ⟨Vb, 4, none⟩ = some (.int .i64 v.p)))) (by kernel_rfl) (⟨cells11 (kept_block k1 vv), cells11 (kept_block k2 vv), cells11 (kept_block k3 vv), cells11 (kept_block k4 vv), cells11 (kept_block k5 vv), cells11 (kept_block k6 vv), cells11 (kept_block k7 vv), (cells5 (kept_block kVe vv)).1⟩) (fun hHeld => ?_)
 refine kK 0 ⟨some 47, .load 31 (.tmp 3), 31, "laws.go:644", #[], none⟩ ?_
 refine kK 1 ⟨some 48, .move (.tmp 4), 3, "laws.go:644", #[], none⟩ ?_
 refine kK 2 ⟨some 49, .load 35 (.tmp 5), 35, "laws.go:644", #[], none⟩ ?_
 refine kK 4 ⟨some 51, .load 31 (.tmp 3), 31, "laws.go:644", #[], none⟩ ?_
 refine kK 5 ⟨some 52, .move (.tmp 4), 3, "laws.go:644", #[], none⟩ ?_
 refine kK 6 ⟨some 53, .load 35 (.tmp 5), 35, "laws.go:644", #[], none⟩ ?_
 refine tR [3] ?_
 refine AllReadyH.cons (o := ⟨some 50, .call ⟨.value (.func 8), #[.tmp 47, .tmp 48, .tmp 49], #[31, 3, 35]⟩, 31, "laws.go:644", #[⟨0, .data⟩, ⟨1, .data⟩, ⟨2, .data⟩], none⟩) rfl (fun K hK => ?_) ?_
 ·go_simp
  refine (implHear_made a1 n1 c1 fa1 fn1 fc1 ra1 rn1 rc1 oa1 on1 oc1 B1 p1 v _ (o1.row.below vv) m11 m21 m31 m41 few1.fr r1).mono ?_
  rintro e wt ⟨a8, n8, c8, fa8, fn8, fc8, ra8, rn8, rc8, oa8, on8, oc8, rfl, tI, hbt⟩
  have vv := gr_trans vv hbt
  clear hbt
  go_wp2_with fail
  refine hK.out _ _ (⟨cells11 (kept_block k1 vv), cells11 (kept_block k2 vv), cells11 (kept_block k3 vv), cells11 (kept_block k4 vv), cells11 (kept_block k5 vv), cells11 (kept_block k6 vv), cells11 (kept_block k7 vv), (cells5 (kept_block kVe vv)).1⟩) (fun hHeld => ?_)
  clear hK K
  try simp only [Act.put, lA, lB, lC]
  refine tR [7] ?_
  refine AllReadyH.cons (o := ⟨some 54, .call ⟨.value (.func 23), #[.tmp 51, .tmp 52, .tmp 53], #[31, 3, 35]⟩, 31, "laws.go:644", #[⟨4, .data⟩, ⟨5, .data⟩, ⟨6, .data⟩, ⟨3, .chain⟩], none⟩) rfl (fun K hK => ?_) ?_
  ·go_simp
   refine (specHear_made a1 n1 c1 fa1 fn1 fc1 ra1 rn1 rc1 oa1 on1 oc1 B1 p1 v _ (o1.row.below vv) m11 m21 m31 m41).mono ?_
   rintro e wt ⟨a9, n9, c9, fa9, fn9, fc9, ra9, rn9, rc9, oa9, on9, oc9, rfl, tS, hbt⟩
   have tI := tI.below hbt
   have vv := gr_trans vv hbt
   clear hbt
   go_wp2_with fail
   refine hK.out _ _ (⟨cells11 (kept_block k1 vv), cells11 (kept_block k2 vv), cells11 (kept_block k3 vv), cells11 (kept_block k4 vv), cells11 (kept_block k5 vv), cells11 (kept_block k6 vv), cells11 (kept_block k7 vv), (cells5 (kept_block kVe vv)).1⟩) (fun hHeld => ?_)
   clear hK K
   try simp only [Act.put, lA, lB, lC]
   refine tR [8] ?_
   refine AllReadyH.cons (o := ⟨some 55, .call ⟨.value (.func 13), #[.tmp 50, .tmp 54], #[31, 31]⟩, 4, "laws.go:644", #[⟨3, .data⟩, ⟨7, .data⟩, ⟨7, .chain⟩], none⟩) rfl (fun K hK => ?_) ?_
   ·go_simp
    refine (implSameB_any _ _ _ _ _ _ _ _ _ _ _ _ (hearB B1 p1 v) _ _ _ _ _ _ _ _ _ _ _ _ (hearB B1 p1 v) _ tI.row tS.row).mono ?_
    rintro e wt ⟨qq, rfl, hqq, hbt⟩
    obtain rfl : qq = true := hqq.2 rfl
    clear tI tS hqq
    have vv := gr_trans vv hbt
    clear hbt
    go_wp2_with fail
    refine hK.out _ _ (⟨cells11 (kept_block k1 vv), cells11 (kept_block k2 vv), cells11 (kept_block k3 vv), cells11 (kept_block k4 vv), cells11 (kept_block k5 vv), cells11 (kept_block k6 vv), cells11 (kept_block k7 vv), (cells5 (kept_block kVe vv)).1⟩) (fun hHeld => ?_)
    clear hK K
    try simp only [Act.put, lA, lB, lC]
    refine kK 9 ⟨some 56, .move (.tmp 55), 4, "laws.go:644", #[⟨8, .data⟩, ⟨8, .chain⟩], none⟩ ?_
    refine kK 10 ⟨some 57, .load 31 (.tmp 6), 31, "laws.go:644", #[⟨9, .guard⟩], some (9, true)⟩ ?_
    refine kK 11 ⟨some 58, .move (.tmp 7), 3, "laws.go:644", #[⟨9, .guard⟩], some (9, true)⟩ ?_
    refine kK 12 ⟨some 59, .move (.tmp 8), 4, "laws.go:644", #[⟨9, .guard⟩], some (9, true)⟩ ?_
    refine kK 14 ⟨some 61, .load 31 (.tmp 6), 31, "laws.go:644", #[⟨9, .guard⟩], some (9, true)⟩ ?_
    refine kK 15 ⟨some 62, .move (.tmp 7), 3, "laws.go:644", #[⟨9, .guard⟩], some (9, true)⟩ ?_
    refine kK 16 ⟨some 63, .move (.tmp 8), 4, "laws.go:644", #[⟨9, .guard⟩], some (9, true)⟩ ?_
    refine tR [13] ?_
    refine AllReadyH.cons (o := ⟨some 60, .call ⟨.value (.func 9), #[.tmp 57, .tmp 58, .tmp 59], #[31, 3, 4]⟩, 31, "laws.go:644", #[⟨10, .data⟩, ⟨11, .data⟩, ⟨12, .data⟩, ⟨9, .chain⟩, ⟨9, .guard⟩], some (9, true)⟩) rfl (fun K hK => ?_) ?_
    ·go_simp
     refine (implLink_made a2 n2 c2 fa2 fn2 fc2 ra2 rn2 rc2 oa2 on2 oc2 B2 p2 up _ (o2.row.below vv) m12 m22 m32 m42 few2.fr r2).mono ?_
     rintro e wt ⟨a8, n8, c8, fa8, fn8, fc8, ra8, rn8, rc8, oa8, on8, oc8, rfl, tI, hbt⟩
     have vv := gr_trans vv hbt
     clear hbt
     go_wp2_with fail
     refine hK.out _ _ (⟨cells11 (kept_block k1 vv), cells11 (kept_block k2 vv), cells11 (kept_block k3 vv), cells11 (kept_block k4 vv), cells11 (kept_block k5 vv), cells11 (kept_block k6 vv), cells11 (kept_block k7 vv), (cells5 (kept_block kVe vv)).1⟩) (fun hHeld => ?_)
     clear hK K
     try simp only [Act.put, lA, lB, lC]
     refine tR [17] ?_
     refine AllReadyH.cons (o := ⟨some 64, .call ⟨.value (.func 24), #[.tmp 61, .tmp 62, .tmp 63], #[31, 3, 4]⟩, 31, "laws.go:644", #[⟨14, .data⟩, ⟨15, .data⟩, ⟨16, .data⟩, ⟨13, .chain⟩, ⟨9, .guard⟩], some (9, true)⟩) rfl (fun K hK => ?_) ?_
     ·go_simp
      refine (specLink_made a2 n2 c2 fa2 fn2 fc2 ra2 rn2 rc2 oa2 on2 oc2 B2 p2 up _ (o2.row.below vv) m12 m22 m32 m42).mono ?_
      rintro e wt ⟨a9, n9, c9, fa9, fn9, fc9, ra9, rn9, rc9, oa9, on9, oc9, rfl, tS, hbt⟩
      have tI := tI.below hbt
      have vv := gr_trans vv hbt
      clear hbt
      go_wp2_with fail
      refine hK.out _ _ (⟨cells11 (kept_block k1 vv), cells11 (kept_block k2 vv), cells11 (kept_block k3 vv), cells11 (kept_block k4 vv), cells11 (kept_block k5 vv), cells11 (kept_block k6 vv), cells11 (kept_block k7 vv), (cells5 (kept_block kVe vv)).1⟩) (fun hHeld => ?_)
      clear hK K
      try simp only [Act.put, lA, lB, lC]
      refine tR [18] ?_
      refine AllReadyH.cons (o := ⟨some 65, .call ⟨.value (.func 13), #[.tmp 60, .tmp 64], #[31, 31]⟩, 4, "laws.go:644", #[⟨13, .data⟩, ⟨17, .data⟩, ⟨17, .chain⟩, ⟨9, .guard⟩], some (9, true)⟩) rfl (fun K hK => ?_) ?_
      ·go_simp
       refine (implSameB_any _ _ _ _ _ _ _ _ _ _ _ _ (linkB B2 p2 up) _ _ _ _ _ _ _ _ _ _ _ _ (linkB B2 p2 up) _ tI.row tS.row).mono ?_
       rintro e wt ⟨qq, rfl, hqq, hbt⟩
       obtain rfl : qq = true := hqq.2 rfl
       clear tI tS hqq
       have vv := gr_trans vv hbt
       clear hbt
       go_wp2_with fail
       refine hK.out _ _ (⟨cells11 (kept_block k1 vv), cells11 (kept_block k2 vv), cells11 (kept_block k3 vv), cells11 (kept_block k4 vv), cells11 (kept_block k5 vv), cells11 (kept_block k6 vv), cells11 (kept_block k7 vv), (cells5 (kept_block kVe vv)).1⟩) (fun hHeld => ?_)
       clear hK K
       try simp only [Act.put, lA, lB, lC]
       refine kK 19 ⟨some 66, .pick (.tmp 56) (.tmp 65) (.const (.bool false)), 4, "laws.go:644", #[⟨9, .data⟩, ⟨18, .data⟩], none⟩ ?_
       refine kK 20 ⟨some 67, .move (.tmp 66), 4, "laws.go:644", #[⟨19, .data⟩, ⟨18, .chain⟩], none⟩ ?_
       refine kK 21 ⟨some 68, .load 31 (.tmp 9), 31, "laws.go:644", #[⟨20, .guard⟩], some (20, true)⟩ ?_
       refine kK 23 ⟨some 70, .load 31 (.tmp 9), 31, "laws.go:644", #[⟨20, .guard⟩], some (20, true)⟩ ?_
       refine tR [22] ?_
       refine AllReadyH.cons (o := ⟨some 69, .call ⟨.value (.func 11), #[.tmp 68], #[31]⟩, 31, "laws.go:644", #[⟨21, .data⟩, ⟨20, .chain⟩, ⟨20, .guard⟩], some (20, true)⟩) rfl (fun K hK => ?_) ?_
       ·go_simp
        refine (implTick_made a3 n3 c3 fa3 fn3 fc3 ra3 rn3 rc3 oa3 on3 oc3 B3 _ (o3.row.below vv) m13 m23 m33 m43 few3.fr r3).mono ?_
        rintro e wt ⟨a8, n8, c8, fa8, fn8, fc8, ra8, rn8, rc8, oa8, on8, oc8, rfl, tI, hbt⟩
        have vv := gr_trans vv hbt
        clear hbt
        go_wp2_with fail
        refine hK.out _ _ (⟨cells11 (kept_block k1 vv), cells11 (kept_block k2 vv), cells11 (kept_block k3 vv), cells11 (kept_block k4 vv), cells11 (kept_block k5 vv), cells11 (kept_block k6 vv), cells11 (kept_block k7 vv), (cells5 (kept_block kVe vv)).1⟩) (fun hHeld => ?_)
        clear hK K
        try simp only [Act.put, lA, lB, lC]
        refine tR [24] ?_
        refine AllReadyH.cons (o := ⟨some 71, .call ⟨.value (.func 25), #[.tmp 70], #[31]⟩, 31, "laws.go:644", #[⟨23, .data⟩, ⟨22, .chain⟩, ⟨20, .guard⟩], some (20, true)⟩) rfl (fun K hK => ?_) ?_
        ·go_simp
         refine (specTick_made a3 n3 c3 fa3 fn3 fc3 ra3 rn3 rc3 oa3 on3 oc3 B3 _ (o3.row.below vv) m13 m23 m33 m43 few3.fr).mono ?_
         rintro e wt ⟨a9, n9, c9, fa9, fn9, fc9, ra9, rn9, rc9, oa9, on9, oc9, rfl, tS, hbt⟩
         have tI := tI.below hbt
         have vv := gr_trans vv hbt
         clear hbt
         go_wp2_with fail
         refine hK.out _ _ (⟨cells11 (kept_block k1 vv), cells11 (kept_block k2 vv), cells11 (kept_block k3 vv), cells11 (kept_block k4 vv), cells11 (kept_block k5 vv), cells11 (kept_block k6 vv), cells11 (kept_block k7 vv), (cells5 (kept_block kVe vv)).1⟩) (fun hHeld => ?_)
         clear hK K
         try simp only [Act.put, lA, lB, lC]
         refine tR [25] ?_
         refine AllReadyH.cons (o := ⟨some 72, .call ⟨.value (.func 13), #[.tmp 69, .tmp 71], #[31, 31]⟩, 4, "laws.go:644", #[⟨22, .data⟩, ⟨24, .data⟩, ⟨24, .chain⟩, ⟨20, .guard⟩], some (20, true)⟩) rfl (fun K hK => ?_) ?_
         ·go_simp
          refine (implSameB_any _ _ _ _ _ _ _ _ _ _ _ _ (tickB B3) _ _ _ _ _ _ _ _ _ _ _ _ (tickB B3) _ tI.row tS.row).mono ?_
          rintro e wt ⟨qq, rfl, hqq, hbt⟩
          obtain rfl : qq = true := hqq.2 rfl
          clear tI tS hqq
          have vv := gr_trans vv hbt
          clear hbt
          go_wp2_with fail
          refine hK.out _ _ (⟨cells11 (kept_block k1 vv), cells11 (kept_block k2 vv), cells11 (kept_block k3 vv), cells11 (kept_block k4 vv), cells11 (kept_block k5 vv), cells11 (kept_block k6 vv), cells11 (kept_block k7 vv), (cells5 (kept_block kVe vv)).1⟩) (fun hHeld => ?_)
          clear hK K
          try simp only [Act.put, lA, lB, lC]
          refine kK 26 ⟨some 73, .pick (.tmp 67) (.tmp 72) (.const (.bool false)), 4, "laws.go:644", #[⟨20, .data⟩, ⟨25, .data⟩], none⟩ ?_
          refine kK 27 ⟨some 74, .move (.tmp 73), 4, "laws.go:644", #[⟨26, .data⟩, ⟨25, .chain⟩], none⟩ ?_
          refine kK 28 ⟨some 75, .load 31 (.tmp 10), 31, "laws.go:644", #[⟨27, .guard⟩], some (27, true)⟩ ?_
          refine kK 30 ⟨some 77, .load 31 (.tmp 10), 31, "laws.go:644", #[⟨27, .guard⟩], some (27, true)⟩ ?_
          refine tR [29] ?_
          refine AllReadyH.cons (o := ⟨some 76, .call ⟨.value (.func 16), #[.tmp 75], #[31]⟩, 4, "laws.go:644", #[⟨28, .data⟩, ⟨27, .chain⟩, ⟨27, .guard⟩], some (27, true)⟩) rfl (fun K hK => ?_) ?_
          ·go_simp
           refine (implBridgeOk_any a4 n4 c4 fa4 fn4 fc4 ra4 rn4 rc4 oa4 on4 oc4 B4 _ (o4.row.below vv) (by omega) r4).mono ?_
           rintro e wt ⟨rfl, hbt⟩
           rw [HK4.out]
           have vv := gr_trans vv hbt
           clear hbt
           go_wp2_with fail
           refine hK.out _ _ (⟨cells11 (kept_block k1 vv), cells11 (kept_block k2 vv), cells11 (kept_block k3 vv), cells11 (kept_block k4 vv), cells11 (kept_block k5 vv), cells11 (kept_block k6 vv), cells11 (kept_block k7 vv), (cells5 (kept_block kVe vv)).1⟩) (fun hHeld => ?_)
           clear hK K
           try simp only [Act.put, lA, lB, lC]
           refine tR [31] ?_
           refine AllReadyH.cons (o := ⟨some 78, .call ⟨.value (.func 26), #[.tmp 77], #[31]⟩, 4, "laws.go:644", #[⟨30, .data⟩, ⟨29, .chain⟩, ⟨27, .guard⟩], some (27, true)⟩) rfl (fun K hK => ?_) ?_
           ·go_simp
            refine (specBridgeOk_any a4 n4 c4 fa4 fn4 fc4 ra4 rn4 rc4 oa4 on4 oc4 B4 _ (o4.row.below vv)).mono ?_
            rintro e wt ⟨rfl, hbt⟩
            rw [HK4.out]
            have vv := gr_trans vv hbt
            clear hbt
            go_wp2_with fail
            refine hK.out _ _ (⟨cells11 (kept_block k1 vv), cells11 (kept_block k2 vv), cells11 (kept_block k3 vv), cells11 (kept_block k4 vv), cells11 (kept_block k5 vv), cells11 (kept_block k6 vv), cells11 (kept_block k7 vv), (cells5 (kept_block kVe vv)).1⟩) (fun hHeld => ?_)
            clear hK K
            try simp only [Act.put, lA, lB, lC]
            refine kV 32 ⟨some 79, .binOp .eql 4 (.tmp 76) (.tmp 78) 4, 4, "laws.go:644", #[⟨29, .data⟩, ⟨31, .data⟩, ⟨27, .guard⟩], some (27, true)⟩ (.bool true) ?_
            refine kK 33 ⟨some 80, .pick (.tmp 74) (.tmp 79) (.const (.bool false)), 4, "laws.go:644", #[⟨27, .data⟩, ⟨32, .data⟩], none⟩ ?_
            refine kK 34 ⟨some 81, .move (.tmp 80), 4, "laws.go:644", #[⟨33, .data⟩, ⟨31, .chain⟩], none⟩ ?_
            refine kK 35 ⟨some 82, .load 31 (.tmp 11), 31, "laws.go:644", #[⟨34, .guard⟩], some (34, true)⟩ ?_
            refine kK 36 ⟨some 83, .load 31 (.tmp 12), 31, "laws.go:644", #[⟨34, .guard⟩], some (34, true)⟩ ?_
            refine kK 38 ⟨some 85, .load 31 (.tmp 11), 31, "laws.go:644", #[⟨34, .guard⟩], some (34, true)⟩ ?_
            refine kK 39 ⟨some 86, .load 31 (.tmp 12), 31, "laws.go:644", #[⟨34, .guard⟩], some (34, true)⟩ ?_
            refine tR [37] ?_
            refine AllReadyH.cons (o := ⟨some 84, .call ⟨.value (.func 13), #[.tmp 82, .tmp 83], #[31, 31]⟩, 4, "laws.go:644", #[⟨35, .data⟩, ⟨36, .data⟩, ⟨34, .chain⟩, ⟨34, .guard⟩], some (34, true)⟩) rfl (fun K hK => ?_) ?_
            ·go_simp
             refine (implSameB_any a5 n5 c5 fa5 fn5 fc5 ra5 rn5 rc5 oa5 on5 oc5 B5 a6 n6 c6 fa6 fn6 fc6 ra6 rn6 rc6 oa6 on6 oc6 B6 _ (o5.row.below vv) (o6.row.below vv)).mono ?_
             rintro e wt ⟨q5, rfl, hq5, hbt⟩
             have vv := gr_trans vv hbt
             clear hbt
             go_wp2_with fail
             refine hK.out _ _ (⟨cells11 (kept_block k1 vv), cells11 (kept_block k2 vv), cells11 (kept_block k3 vv), cells11 (kept_block k4 vv), cells11 (kept_block k5 vv), cells11 (kept_block k6 vv), cells11 (kept_block k7 vv), (cells5 (kept_block kVe vv)).1⟩) (fun hHeld => ?_)
             clear hK K
             try simp only [Act.put, lA, lB, lC]
             refine tR [40] ?_
             refine AllReadyH.cons (o := ⟨some 87, .call ⟨.value (.func 27), #[.tmp 85, .tmp 86], #[31, 31]⟩, 4, "laws.go:644", #[⟨38, .data⟩, ⟨39, .data⟩, ⟨37, .chain⟩, ⟨34, .guard⟩], some (34, true)⟩) rfl (fun K hK => ?_) ?_
             ·go_simp
              refine (specSameB_any a5 n5 c5 fa5 fn5 fc5 ra5 rn5 rc5 oa5 on5 oc5 B5 a6 n6 c6 fa6 fn6 fc6 ra6 rn6 rc6 oa6 on6 oc6 B6 _ (o5.row.below vv) (o6.row.below vv)).mono ?_
              rintro e wt ⟨q6, rfl, hq6, hbt⟩
              obtain rfl : q5 = q6 := by rw [Bool.eq_iff_iff, hq5, hq6]
              clear hq5 hq6
              have vv := gr_trans vv hbt
              clear hbt
              go_wp2_with fail
              refine hK.out _ _ (⟨cells11 (kept_block k1 vv), cells11 (kept_block k2 vv), cells11 (kept_block k3 vv), cells11 (kept_block k4 vv), cells11 (kept_block k5 vv), cells11 (kept_block k6 vv), cells11 (kept_block k7 vv), (cells5 (kept_block kVe vv)).1⟩) (fun hHeld => ?_)
              clear hK K
              try simp only [Act.put, lA, lB, lC]
              refine kV 41 ⟨some 88, .binOp .eql 4 (.tmp 84) (.tmp 87) 4, 4, "laws.go:644", #[⟨37, .data⟩, ⟨40, .data⟩, ⟨34, .guard⟩], some (34, true)⟩ (.bool true) ?_
              refine kK 42 ⟨some 89, .pick (.tmp 81) (.tmp 88) (.const (.bool false)), 4, "laws.go:644", #[⟨34, .data⟩, ⟨41, .data⟩], none⟩ ?_
              refine kK 43 ⟨some 90, .move (.tmp 89), 4, "laws.go:644", #[⟨42, .data⟩, ⟨40, .chain⟩], none⟩ ?_
              refine kK 44 ⟨some 91, .load 31 (.tmp 15), 31, "laws.go:644", #[⟨43, .guard⟩], some (43, true)⟩ ?_
              refine kK 46 ⟨some 93, .fieldAddr 31 (.tmp 15) 2, 0, "laws.go:644", #[⟨43, .guard⟩], some (43, true)⟩ ?_
              refine kK 47 ⟨some 94, .load 24 (.tmp 93), 24, "laws.go:644", #[⟨46, .data⟩, ⟨43, .guard⟩], some (43, true)⟩ ?_
              refine kK 48 ⟨some 95, .call ⟨.builtin .len, #[.tmp 94], #[24]⟩, 3, "laws.go:644", #[⟨47, .data⟩, ⟨43, .guard⟩], some (43, true)⟩ ?_
              refine kV 49 ⟨some 96, .binOp .gtr 3 (.tmp 95) (.const (.int .i64 0)) 3, 4, "laws.go:644", #[⟨48, .data⟩, ⟨43, .guard⟩], some (43, true)⟩ (.bool bn) ?_
              refine tR [45] ?_
              refine AllReadyH.cons (o := ⟨some 92, .call ⟨.value (.func 16), #[.tmp 91], #[31]⟩, 4, "laws.go:644", #[⟨44, .data⟩, ⟨43, .chain⟩, ⟨43, .guard⟩], some (43, true)⟩) rfl (fun K hK => ?_) ?_
              ·go_simp
               refine (implBridgeOk_any a7 n7 c7 fa7 fn7 fc7 ra7 rn7 rc7 oa7 on7 oc7 BN _ (o7.row.below vv) HF7.out HR7.out).mono ?_
               rintro e wt ⟨rfl, hbt⟩
               rw [HK7.out]
               have vv := gr_trans vv hbt
               clear hbt
               go_wp2_with fail
               refine hK.out _ _ (⟨cells11 (kept_block k1 vv), cells11 (kept_block k2 vv), cells11 (kept_block k3 vv), cells11 (kept_block k4 vv), cells11 (kept_block k5 vv), cells11 (kept_block k6 vv), cells11 (kept_block k7 vv), (cells5 (kept_block kVe vv)).1⟩) (fun hHeld => ?_)
               clear hK K
               try simp only [Act.put, lA, lB, lC]
               refine kV 50 ⟨some 97, .binOp .eql 4 (.tmp 92) (.tmp 96) 4, 4, "laws.go:644", #[⟨45, .data⟩, ⟨49, .data⟩, ⟨43, .guard⟩], some (43, true)⟩ (.bool true) ?_
               refine kK 51 ⟨some 98, .pick (.tmp 90) (.tmp 97) (.const (.bool false)), 4, "laws.go:644", #[⟨43, .data⟩, ⟨50, .data⟩], none⟩ ?_
               refine kK 52 ⟨some 99, .move (.tmp 98), 4, "laws.go:644", #[⟨51, .data⟩, ⟨45, .chain⟩], none⟩ ?_
               refine kK 53 ⟨some 100, .load 31 (.tmp 15), 31, "laws.go:644", #[⟨52, .guard⟩], some (52, true)⟩ ?_
               refine kK 54 ⟨some 101, .move (.tmp 13), 3, "laws.go:644", #[⟨52, .guard⟩], some (52, true)⟩ ?_
               refine kK 55 ⟨some 102, .move (.tmp 14), 3, "laws.go:644", #[⟨52, .guard⟩], some (52, true)⟩ ?_
               refine tR [56] ?_
               refine AllReadyH.cons (o := ⟨some 103, .call ⟨.value (.func 28), #[.tmp 101, .tmp 102], #[3, 3]⟩, 31, "laws.go:644", #[⟨54, .data⟩, ⟨55, .data⟩, ⟨52, .chain⟩, ⟨52, .guard⟩], some (52, true)⟩) rfl (fun K hK => ?_) ?_
               ·go_simp
                refine (specNew_any nid nports _).mono ?_
                rw [HBN.out]
                rintro e wt ⟨a9, n9, c9, fa9, fn9, fc9, ra9, rn9, rc9, oa9, on9, oc9, rfl, tS, hbt⟩
                have vv := gr_trans vv hbt
                clear hbt
                go_wp2_with fail
                refine hK.out _ _ (⟨cells11 (kept_block k1 vv), cells11 (kept_block k2 vv), cells11 (kept_block k3 vv), cells11 (kept_block k4 vv), cells11 (kept_block k5 vv), cells11 (kept_block k6 vv), cells11 (kept_block k7 vv), (cells5 (kept_block kVe vv)).1⟩) (fun hHeld => ?_)
                clear hK K
                try simp only [Act.put, lA, lB, lC]
                refine tR [57] ?_
                refine AllReadyH.cons (o := ⟨some 104, .call ⟨.value (.func 13), #[.tmp 100, .tmp 103], #[31, 31]⟩, 4, "laws.go:644", #[⟨53, .data⟩, ⟨56, .data⟩, ⟨56, .chain⟩, ⟨52, .guard⟩], some (52, true)⟩) rfl (fun K hK => ?_) ?_
                ·go_simp
                 refine (implSameB_any a7 n7 c7 fa7 fn7 fc7 ra7 rn7 rc7 oa7 on7 oc7 BN _ _ _ _ _ _ _ _ _ _ _ _ BN _ (o7.row.below vv) tS.row).mono ?_
                 rintro e wt ⟨qq, rfl, hqq, hbt⟩
                 obtain rfl : qq = true := hqq.2 rfl
                 clear tS hqq
                 have vv := gr_trans vv hbt
                 clear hbt
                 go_wp2_with fail
                 refine hK.out _ _ (⟨cells11 (kept_block k1 vv), cells11 (kept_block k2 vv), cells11 (kept_block k3 vv), cells11 (kept_block k4 vv), cells11 (kept_block k5 vv), cells11 (kept_block k6 vv), cells11 (kept_block k7 vv), (cells5 (kept_block kVe vv)).1⟩) (fun hHeld => ?_)
                 clear hK K
                 try simp only [Act.put, lA, lB, lC]
                 refine kK 58 ⟨some 105, .pick (.tmp 99) (.tmp 104) (.const (.bool false)), 4, "laws.go:644", #[⟨52, .data⟩, ⟨57, .data⟩], none⟩ ?_
                 refine kK 59 ⟨some 2, .assign (.tmp 105), 4, "laws.go:644", #[⟨58, .data⟩, ⟨57, .chain⟩, ⟨0, .phase⟩, ⟨1, .phase⟩, ⟨2, .phase⟩, ⟨3, .phase⟩, ⟨4, .phase⟩, ⟨5, .phase⟩, ⟨6, .phase⟩, ⟨7, .phase⟩, ⟨8, .phase⟩, ⟨9, .phase⟩, ⟨10, .phase⟩, ⟨11, .phase⟩, ⟨12, .phase⟩, ⟨13, .phase⟩, ⟨14, .phase⟩, ⟨15, .phase⟩, ⟨16, .phase⟩, ⟨17, .phase⟩, ⟨18, .phase⟩, ⟨19, .phase⟩, ⟨20, .phase⟩, ⟨21, .phase⟩, ⟨22, .phase⟩, ⟨23, .phase⟩, ⟨24, .phase⟩, ⟨25, .phase⟩, ⟨26, .phase⟩, ⟨27, .phase⟩, ⟨28, .phase⟩, ⟨29, .phase⟩, ⟨30, .phase⟩, ⟨31, .phase⟩, ⟨32, .phase⟩, ⟨33, .phase⟩, ⟨34, .phase⟩, ⟨35, .phase⟩, ⟨36, .phase⟩, ⟨37, .phase⟩, ⟨38, .phase⟩, ⟨39, .phase⟩, ⟨40, .phase⟩, ⟨41, .phase⟩, ⟨42, .phase⟩, ⟨43, .phase⟩, ⟨44, .phase⟩, ⟨45, .phase⟩, ⟨46, .phase⟩, ⟨47, .phase⟩, ⟨48, .phase⟩, ⟨49, .phase⟩, ⟨50, .phase⟩, ⟨51, .phase⟩, ⟨52, .phase⟩, ⟨53, .phase⟩, ⟨54, .phase⟩, ⟨55, .phase⟩, ⟨56, .phase⟩, ⟨57, .phase⟩, ⟨58, .phase⟩], none⟩ ?_
                 refine wpAnyH_done (by kernel_rfl) ?_ _
                 have HB := hide (gr_trans u vv)
                 clear hHeld vv
                 go_wp2
                 go_ret
                 exact ⟨rfl, HB.out⟩
                exact AllReadyH.nil
               exact AllReadyH.nil
              exact AllReadyH.nil
             exact AllReadyH.nil
            exact AllReadyH.nil
           exact AllReadyH.nil
          exact AllReadyH.nil
         exact AllReadyH.nil
        exact AllReadyH.nil
       exact AllReadyH.nil
      exact AllReadyH.nil
     exact AllReadyH.nil
    exact AllReadyH.nil
   exact AllReadyH.nil
  exact AllReadyH.nil
 exact AllReadyH.nil

theorem fnBridgesBent_own : ownKnob Tryz.prog.godebug = none := by kernel_rfl
theorem fnBridgesBent_laid : laidOutB Tryz.prog = true := by kernel_rfl

open Go.ChangeShapes Go.WideShapes Go.ChangeAt in
open Go.ChangeMaps (open_string shut_string) in
set_option maxRecDepth 100000 in
theorem fnBridgesBent_lifted (os : Os) (started : os.Started) (H : Type) (enc : TypeId × Value → H) :
  ReturnsInHanded {} Tryz.checked os 4 .any (Rows.fnBridgesBentSpec.pre6 enc Tryz.prog Tryz.f4 Rows.fnBridgesBentRow.domain false) (Rows.fnBridgesBentSpec.post enc Tryz.prog Tryz.f4 false true false false) := by
 refine returnsInHanded_of_change (C := Tryz.checked) fnBridgesBent_own started (by kernel_rfl) Tryz.func4
  (ChangeSpec.witness6 (enc := enc) (C := Tryz.checked) false ⟨#[], #[.slice none 0 0], []⟩ 8 (by kernel_rfl) (by kernel_rfl) (by kernel_rfl) (by kernel_rfl)) ?_
 intro W base args ds gs before hval0 hW hcnd _
 have hval : ∀ (j : Nat) t v, Tryz.f4.params[j]? = some t → args[j]? = some v → Value.okWide Tryz.prog W .any base t v := hval0
 have hW' := hW
 obtain ⟨p, q, hA0, hV, rfl, hfz, hnd⟩ := hW
 have hA : DataW.TrodAll enc Tryz.prog W 0 (fun _ => true) true Tryz.f4.params.toList args.toList ds p := hA0
 rw [Tryz.params4] at hA hval
 obtain ⟨v0, vs0, d0, ds0, p0, q0, hargs, rfl, rfl, h0, r0⟩ := trodAll_cons hA
 obtain ⟨rfl, rfl, rfl⟩ := trodAll_nil r0
 obtain rfl : args = #[v0] := by cases args; simp_all
 obtain ⟨rfl, rfl⟩ := trodVars_none hV
 obtain ⟨a0, len0, cap0, rfl⟩ := okWide_slice Tryz.underlying22 (hval 0 22 v0 rfl rfl)
 have k0 := h0
 have lt0 : ∀ x ∈ p0, x.block < W.heap.size := by obtain ⟨m, hm⟩ := k0; exact DataW.trod_lt m _ _ _ hm
 obtain ⟨z0, w0⟩ : ∃ zs, Row W a0 len0 cap0 zs := by
  obtain ⟨fuel, hf⟩ := h0
  rcases open_ints Tryz.underlying22 Tryz.underlying5 (by kernel_rfl) hf with ⟨hcs, _⟩ | ⟨x, l, c, zs, hcs, _, hl, hm, hz, _, hcell, hwz⟩
  ·simp [Value.cells] at hcs
   obtain ⟨rfl, rfl, rfl⟩ := hcs
   exact ⟨[], row_nil W⟩
  ·simp [Value.cells] at hcs
   obtain ⟨rfl, rfl, rfl⟩ := hcs
   exact ⟨zs.take len0, row_open hl hm (by simpa using hz) hcell hwz⟩
 clear hA0 hval0
 refine (bridgesBent_walk a0 len0 cap0 z0 W w0).mono fun e W' ⟨he, bel⟩ => ?_
 subst he
 exact ⟨_, rfl, _, _, _, [], _, [], hW', trodAll_mk1 (shut_bool Tryz.underlying4 _), (trodAll_cons_mk (Below.trod fnBridgesBent_laid (by kernel_rfl) (of_decide_eq_true (by kernel_rfl)) k0 bel lt0) trodAll_mk0), rfl, bel.frame _, fun h => by cases h⟩

theorem fnBridgesBent_holds : Rows.FnBridgesBentSaid :=
 OpenClaim.holds_of_wide 4 Tryz.f4 rfl rfl rfl rfl rfl rfl rfl ⟨rfl, rfl, rfl, rfl, rfl⟩ rfl rfl rfl rfl rfl (by kernel_rfl) Tryz.func4 (by kernel_rfl)
  (of_decide_eq_true (by kernel_rfl)) (by unfold Func.isWrapper; first | (rw [if_pos (by decide +kernel)]; kernel_rfl) | (rw [if_neg (by decide +kernel)]; exact ⟨rfl, rfl⟩))
  (fun os started H enc _ => fnBridgesBent_lifted os started H enc)

#print axioms fnBridgesBent_holds

end Go.Proofs.YtfknffdlmcckkaaGreat
