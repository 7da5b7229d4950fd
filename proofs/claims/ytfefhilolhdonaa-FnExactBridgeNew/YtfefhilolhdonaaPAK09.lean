/-
  Packed: BrNewS VlanNew BrNewI.
-/
import Derived.Test.YtfefhilolhdonaaPABrOkS
import Derived.Test.YtfefhilolhdonaaPAFdbImplA
import Derived.Test.YtfefhilolhdonaaPAK01
import Derived.Test.YtfefhilolhdonaaPAK02
import Derived.Test.YtfefhilolhdonaaPAK06
import Derived.Test.YtfefhilolhdonaaPAVlanOk
namespace Go.Proofs.Ytfefhilolhdonaa
open Go.RowKit

def newPt : PT := ⟨false, 1, false, ⟨0, 0, 0, 0, 0⟩⟩
def zeroBr : BR := ⟨0, ByteArray.empty, [], [], ⟨[], []⟩, 0, 0, 0, 0, 0⟩
def bridgeNew (id : Int) (m : Nat) : BR := ⟨id, ByteArray.empty, List.replicate m newPt, [], vtabNew m, 0, 0, 0, 0, 0⟩

theorem BrOwn.boxed11 {w : World} {base : Nat} {a : Option Addr} {n c : Nat} {fa : Option Addr} {fn fc : Nat} {ra : Option Addr} {rn rc : Nat} {oa : Option Addr} {on oc : Nat} {B : BR} (h : BrOwn w base a n c fa fn fc ra rn rc oa on oc B) {X : Nat} {cs : Array Value} (hX : w.heap[X]? = some (.cells cs 29)) (u0 u1 u2 u3 u4 u5 u6 u7 u8 u9 u10 : Value) : BrOwn (((((((((((w.setCell ⟨X, 0, none⟩ u0).setCell ⟨X, 1, none⟩ u1).setCell ⟨X, 2, none⟩ u2).setCell ⟨X, 3, none⟩ u3).setCell ⟨X, 4, none⟩ u4).setCell ⟨X, 5, none⟩ u5).setCell ⟨X, 6, none⟩ u6).setCell ⟨X, 7, none⟩ u7).setCell ⟨X, 8, none⟩ u8).setCell ⟨X, 9, none⟩ u9).setCell ⟨X, 10, none⟩ u10) base a n c fa fn fc ra rn rc oa on oc B :=
 (BrOwn.boxed (BrOwn.boxed (BrOwn.boxed (BrOwn.boxed (BrOwn.boxed (BrOwn.boxed (BrOwn.boxed (BrOwn.boxed (BrOwn.boxed (BrOwn.boxed (BrOwn.boxed h hX 0 u0) (box11 hX 0 u0) 1 u1) (box11 (box11 hX 0 u0) 1 u1) 2 u2) (box11 (box11 (box11 hX 0 u0) 1 u1) 2 u2) 3 u3) (box11 (box11 (box11 (box11 hX 0 u0) 1 u1) 2 u2) 3 u3) 4 u4) (box11 (box11 (box11 (box11 (box11 hX 0 u0) 1 u1) 2 u2) 3 u3) 4 u4) 5 u5) (box11 (box11 (box11 (box11 (box11 (box11 hX 0 u0) 1 u1) 2 u2) 3 u3) 4 u4) 5 u5) 6 u6) (box11 (box11 (box11 (box11 (box11 (box11 (box11 hX 0 u0) 1 u1) 2 u2) 3 u3) 4 u4) 5 u5) 6 u6) 7 u7) (box11 (box11 (box11 (box11 (box11 (box11 (box11 (box11 hX 0 u0) 1 u1) 2 u2) 3 u3) 4 u4) 5 u5) 6 u6) 7 u7) 8 u8) (box11 (box11 (box11 (box11 (box11 (box11 (box11 (box11 (box11 hX 0 u0) 1 u1) 2 u2) 3 u3) 4 u4) 5 u5) 6 u6) 7 u7) 8 u8) 9 u9) (box11 (box11 (box11 (box11 (box11 (box11 (box11 (box11 (box11 (box11 hX 0 u0) 1 u1) 2 u2) 3 u3) 4 u4) 5 u5) 6 u6) 7 u7) 8 u8) 9 u9) 10 u10)

theorem below_set11 {K : Nat} {a w : World} (h : Below K a w) {g : Nat} (hB : K ≤ g) (u0 u1 u2 u3 u4 u5 u6 u7 u8 u9 u10 : Value) : Below K a (((((((((((w.setCell ⟨g, 0, none⟩ u0).setCell ⟨g, 1, none⟩ u1).setCell ⟨g, 2, none⟩ u2).setCell ⟨g, 3, none⟩ u3).setCell ⟨g, 4, none⟩ u4).setCell ⟨g, 5, none⟩ u5).setCell ⟨g, 6, none⟩ u6).setCell ⟨g, 7, none⟩ u7).setCell ⟨g, 8, none⟩ u8).setCell ⟨g, 9, none⟩ u9).setCell ⟨g, 10, none⟩ u10) :=
 (below_set (below_set (below_set (below_set (below_set (below_set (below_set (below_set (below_set (below_set (below_set h hB 0 u0) hB 1 u1) hB 2 u2) hB 3 u3) hB 4 u4) hB 5 u5) hB 6 u6) hB 7 u7) hB 8 u8) hB 9 u9) hB 10 u10)

theorem zeroBr_own (w : World) (base : Nat) : BrOwn w base none 0 0 none 0 0 none 0 0 none 0 0 zeroBr := ⟨World.ownsRow_nil _ _ _ _, World.ownsRow_nil _ _ _ _, vownNone w base⟩

set_option maxRecDepth 100000 in
set_option maxHeartbeats 4000000 in
theorem specBridgeNew_made (id : Int) (m : Nat) (w : World) (hid : (decide (1 ≤ id) && decide (id ≤ 99)) = true) (hm : (decide (1 ≤ (m : Int)) && decide ((m : Int) ≤ 6)) = true) :
  Calls Try.prog 5 #[.int .i64 id, .int .i64 m] w fun e w' => ∃ (a : Option Addr) (c : Nat) (ra : Option Addr) (rn rc : Nat) (oa : Option Addr) (on oc : Nat), e = .returned (.agg #[.int .i64 id, .string ⟨#[]⟩, .slice a m c, .slice none 0 0, .slice ra rn rc, .slice oa on oc, .int .i64 0, .int .i64 0, .int .i64 0, .int .i64 0, .int .i64 0]) ∧ BrOwn w' w.heap.size a m c none 0 0 ra rn rc oa on oc (bridgeNew id m) ∧ Below w.heap.size w w' := by
 have h6 : m ≤ 6 := by simp at hm; omega
 have HID := hide hid
 have HM := hide hm
 clear hid hm
 generalize hw1 : w.alloc (Obj.cells #[.int .i64 0, .string ⟨#[]⟩, .slice none 0 0, .slice none 0 0, .slice none 0 0, .slice none 0 0, .int .i64 0, .int .i64 0, .int .i64 0, .int .i64 0, .int .i64 0] 29) = w1
 have b1 : Below w.heap.size w w1 := by rw [← hw1]; exact below_one _ _
 have kR : w1.heap[w.heap.size]? = some (.cells #[.int .i64 0, .string ⟨#[]⟩, .slice none 0 0, .slice none 0 0, .slice none 0 0, .slice none 0 0, .int .i64 0, .int .i64 0, .int .i64 0, .int .i64 0, .int .i64 0] 29) := by rw [← hw1]; exact block_last _ _
 go_enter Try.func5, Try.ntmps5
 go_wp2_with fail
 refine (within_any id 1 99 _).mono ?_
 rintro r wx ⟨rfl, ew⟩
 obtain rfl := ew.symm
 rw [HID.out]
 go_wp2_with fail
 refine (within_any (m : Int) 1 6 _).mono ?_
 rintro r wx ⟨rfl, ew⟩
 obtain rfl := ew.symm
 rw [HM.out]
 go_wp2_with fail
 refine (specVtabNew_made (m : Int) _).mono ?_
 rintro r w2 ⟨ra, rn, rc, oa, on, oc, rfl, hv, hb2⟩
 have hv := hv.lt (base' := w.heap.size) b1.size
 have b2 := gr_trans b1 hb2
 have kR := kept_block kR hb2
 clear hw1 hb2 b1
 go_upto_region 4 with fail
 generalize hw3 : w2.alloc (Obj.cells #[.int .i64 id, .string ⟨#[]⟩, .slice none 0 0, .slice none 0 0, .slice ra rn rc, .slice oa on oc, .int .i64 0, .int .i64 0, .int .i64 0, .int .i64 0, .int .i64 0] 29) = w3
 have b3 : Below w2.heap.size w2 w3 := by rw [← hw3]; exact below_one _ _
 have kX : w3.heap[w2.heap.size]? = some (.cells #[.int .i64 id, .string ⟨#[]⟩, .slice none 0 0, .slice none 0 0, .slice ra rn rc, .slice oa on oc, .int .i64 0, .int .i64 0, .int .i64 0, .int .i64 0, .int .i64 0] 29) := by rw [← hw3]; exact block_last _ _
 have kR := kept_block kR b3
 have o3 : BrOwn w3 w.heap.size none 0 0 none 0 0 ra rn rc oa on oc { bridgeNew id m with ports := List.replicate 0 newPt } := ⟨World.ownsRow_nil _ _ _ _, World.ownsRow_nil _ _ _ _, hv.below b3⟩
 have HX : Hid (w.heap.size < w2.heap.size) := hide (Array.getElem?_eq_some_iff.1 (show w2.heap[w.heap.size]? = some (.cells #[.int .i64 0, .string ⟨#[]⟩, .slice none 0 0, .slice none 0 0, .slice none 0 0, .slice none 0 0, .int .i64 0, .int .i64 0, .int .i64 0, .int .i64 0, .int .i64 0] 29) from by assumption)).1
 have b3 := gr_trans b2 b3
 clear hw3 b2 hv
 go_wp2_with fail
 go_loopw [6] (fun i wr => ∃ (k : Nat) (a : Option Addr) (c : Nat), k ≤ m ∧ i = .int .i64 k ∧ wr.heap[w.heap.size]? = some (.cells #[.int .i64 0, .string ⟨#[]⟩, .slice none 0 0, .slice none 0 0, .slice none 0 0, .slice none 0 0, .int .i64 0, .int .i64 0, .int .i64 0, .int .i64 0, .int .i64 0] 29) ∧ wr.heap[w2.heap.size]? = some (.cells #[.int .i64 id, .string ⟨#[]⟩, .slice a k c, .slice none 0 0, .slice ra rn rc, .slice oa on oc, .int .i64 0, .int .i64 0, .int .i64 0, .int .i64 0, .int .i64 0] 29) ∧ BrOwn wr w.heap.size a k c none 0 0 ra rn rc oa on oc { bridgeNew id m with ports := List.replicate k newPt } ∧ Below w.heap.size w wr) (fun i _ => m - (intOf i).toNat)
 case atStart => exact ⟨0, none, 0, Nat.zero_le _, rfl, kR, kX, o3, b3⟩
 case round =>
  obtain ⟨k, a, c, hk, rfl, kR, kX, o, hb⟩ := hrel
  clear o3 b3
  obtain ⟨x0, x1, x2, x3, x4, x5, x6, x7, x8, x9, x10⟩ := cells11 kX
  by_cases hlt : k < m
  ·have b9 := below_one wr (.cells #[.bool false, .int .i64 1, .bool false, .int .i64 0, .int .i64 0, .int .i64 0, .int .i64 0, .int .i64 0] 50)
   have o9 := o.below b9
   have p9 := o9.ports
   have kX9 := kept_block kX b9
   have kR9 := kept_block kR b9
   have HB9 := hide (gr_trans hb b9)
   have hbase9 : w.heap.size ≤ (wr.alloc (.cells #[.bool false, .int .i64 1, .bool false, .int .i64 0, .int .i64 0, .int .i64 0, .int .i64 0, .int .i64 0] 50)).heap.size := HB9.out.size
   have HO9 := hide o9
   have KX9 := hide kX9
   have KR9 := hide kR9
   clear hb b9 o9 kX9 kR9 o kX kR
   go_wp2_with (at_builtin; refine pt_append _ rfl _ _ rfl w.heap.size _ k (List.replicate k newPt) rfl p9 _ 1 1 [newPt] rfl (grow_one ptF _ newPt _ _ rfl) (by omega) hbase9 ?_)
   rintro a' c' wz oz - gz bz
   have kz := kept_grown KX9.out gz (fun i e => box_ne HO9.out.ports KX9.out (by decide) i e)
   have rz := kept_grown KR9.out gz (fun i e => box_ne HO9.out.ports KR9.out (by decide) i e)
   have hrep : List.replicate k newPt ++ [newPt] = List.replicate (k + 1) newPt := by rw [List.replicate_succ']
   rw [hrep] at oz
   have on := HO9.out.newPorts gz oz
   have HON := hide (BrOwn.boxed on kz 2 (.slice a' (k + 1) c'))
   have HKX := hide (box11 kz 2 (.slice a' (k + 1) c'))
   have HKR : Hid ((wz.setCell ⟨w2.heap.size, 2, none⟩ (.slice a' (k + 1) c')).heap[w.heap.size]? = some (.cells #[.int .i64 0, .string ⟨#[]⟩, .slice none 0 0, .slice none 0 0, .slice none 0 0, .slice none 0 0, .int .i64 0, .int .i64 0, .int .i64 0, .int .i64 0, .int .i64 0] 29)) := hide (kept_set rz (Nat.ne_of_lt HX.out))
   have HBZ := hide (below_set (g := w2.heap.size) (HB9.out.trans bz) (Nat.le_of_lt HX.out) 2 (.slice a' (k + 1) c'))
   have fz := frozen8 kz 2
   obtain ⟨-, -, y2, -⟩ := cells11 kz
   clear x0 x1 x2 x3 x4 x5 x6 x7 x8 x9 x10 kz rz gz bz oz on p9 hbase9
   go_wp2
   go_roundw
   case rel => exact ⟨k + 1, a', c', by omega, by go_num, HKR.out, HKX.out, HON.out, HBZ.out⟩
   case measure => simp [intOf]; omega
  ·have hkm : k = m := by omega
   subst hkm
   obtain ⟨z0, z1, z2, z3, z4, z5, z6, z7, z8, z9, z10⟩ := cells11 kR
   have f0 := frozen8 kR
   have ne1 : ¬ w2.heap.size = w.heap.size := by have := HX.out; omega
   have ne2 : ¬ w.heap.size = w2.heap.size := by have := HX.out; omega
   have HO := hide (o.boxed11 kR (.int .i64 id) (.string ⟨#[]⟩) (.slice a k c) (.slice none 0 0) (.slice ra rn rc) (.slice oa on oc) (.int .i64 0) (.int .i64 0) (.int .i64 0) (.int .i64 0) (.int .i64 0))
   have HB := hide (below_set11 hb (Nat.le_refl w.heap.size) (.int .i64 id) (.string ⟨#[]⟩) (.slice a k c) (.slice none 0 0) (.slice ra rn rc) (.slice oa on oc) (.int .i64 0) (.int .i64 0) (.int .i64 0) (.int .i64 0) (.int .i64 0))
   clear o hb kX kR
   go_wp2
   exact bodyPost_ret (v := .agg #[.int .i64 id, .string ⟨#[]⟩, .slice a k c, .slice none 0 0, .slice ra rn rc, .slice oa on oc, .int .i64 0, .int .i64 0, .int .i64 0, .int .i64 0, .int .i64 0]) (by simp [results, Try.results5, go_sem, *]) rfl ⟨a, c, ra, rn, rc, oa, on, oc, rfl, HO.out, HB.out⟩

set_option maxRecDepth 100000 in
set_option maxHeartbeats 1000000 in
theorem mul64_any (p : Nat) (h1 : 1 ≤ p) (h6 : p ≤ 6) (w : World) :
  Calls Try.prog 73 #[.int .u64 1, .int .u64 p] w fun e w' => e = .returned (.tuple #[.int .u64 0, .int .u64 p]) ∧ w' = w := by
 rcases (show p = 1 ∨ p = 2 ∨ p = 3 ∨ p = 4 ∨ p = 5 ∨ p = 6 by omega) with rfl | rfl | rfl | rfl | rfl | rfl
 ·show Calls Try.prog 73 #[.int .u64 1, .int .u64 1] w _
  go_enter Try.func73, Try.ntmps73
  go_wp2
  exact bodyPost_ret (v := .tuple #[.int .u64 0, .int .u64 1]) (by kernel_rfl) rfl ⟨rfl, rfl⟩
 ·show Calls Try.prog 73 #[.int .u64 1, .int .u64 2] w _
  go_enter Try.func73, Try.ntmps73
  go_wp2
  exact bodyPost_ret (v := .tuple #[.int .u64 0, .int .u64 2]) (by kernel_rfl) rfl ⟨rfl, rfl⟩
 ·show Calls Try.prog 73 #[.int .u64 1, .int .u64 3] w _
  go_enter Try.func73, Try.ntmps73
  go_wp2
  exact bodyPost_ret (v := .tuple #[.int .u64 0, .int .u64 3]) (by kernel_rfl) rfl ⟨rfl, rfl⟩
 ·show Calls Try.prog 73 #[.int .u64 1, .int .u64 4] w _
  go_enter Try.func73, Try.ntmps73
  go_wp2
  exact bodyPost_ret (v := .tuple #[.int .u64 0, .int .u64 4]) (by kernel_rfl) rfl ⟨rfl, rfl⟩
 ·show Calls Try.prog 73 #[.int .u64 1, .int .u64 5] w _
  go_enter Try.func73, Try.ntmps73
  go_wp2
  exact bodyPost_ret (v := .tuple #[.int .u64 0, .int .u64 5]) (by kernel_rfl) rfl ⟨rfl, rfl⟩
 ·show Calls Try.prog 73 #[.int .u64 1, .int .u64 6] w _
  go_enter Try.func73, Try.ntmps73
  go_wp2
  exact bodyPost_ret (v := .tuple #[.int .u64 0, .int .u64 6]) (by kernel_rfl) rfl ⟨rfl, rfl⟩

set_option maxRecDepth 100000 in
set_option maxHeartbeats 1000000 in
theorem mul_any (p : Nat) (h1 : 1 ≤ p) (h6 : p ≤ 6) (w : World) :
  Calls Try.prog 42 #[.int .u64 1, .int .u64 p] w fun e w' => e = .returned (.tuple #[.int .u64 0, .int .u64 p]) ∧ w' = w := by
 go_enter Try.func42, Try.ntmps42
 go_wp2_with fail
 refine (mul64_any p h1 h6 _).mono ?_
 rintro e w1 ⟨rfl, e1⟩
 obtain rfl := e1.symm
 go_wp2
 exact bodyPost_ret (v := .tuple #[.int .u64 0, .int .u64 p]) (by simp [results, Try.results42, go_sem, *]) rfl ⟨rfl, rfl⟩

def onesTo (p k : Nat) : List Int := List.replicate k 1 ++ List.replicate (p - k) 0

theorem int_size : (Try.prog.info? 3).map (·.size) = some 1 := by kernel_rfl

theorem ones_copy {w : World} {base g p k m : Nat} {cs : List Int} (h : w.ownsRow base 3 1 (.slice (some ⟨g, 0, none⟩) p p) p (intF.all (onesTo p k))) (hk : k + m ≤ p) (hcs : cs = List.replicate m 1) {a : Addr} {dl sl : Nat} (hmin : Nat.min sl dl = m) (hsrc : ∀ j v, (intF.all cs)[j]? = some v → w.cell? (a.add j) = some v) :
  ∃ w', (∀ ty dc sc, (Builtin.copy_ #[25, 25] ty #[.slice (some ⟨g, k, none⟩) dl dc, .slice (some a) sl sc]).run Try.prog w = .ok (goInt m) w') ∧ w'.ownsRow base 3 1 (.slice (some ⟨g, 0, none⟩) p p) p (intF.all (onesTo p (k + m))) ∧ w.grownBy w' (some g) := by
 obtain ⟨hlen, ⟨hv, h0⟩ | ⟨g', cap', cur, hv, hg, hh, h1, h2, h3, h4⟩⟩ := h
 ·cases hv
 ·cases hv
  have hcl : (intF.all cs).length = m := by rw [intF_all, hcs]; simp [cI]
  have hfit : k + (intF.all cs).length ≤ cur.size := by rw [hcl, h3]; omega
  refine ⟨w.setRow g (cur.toList.take k ++ intF.all cs ++ cur.toList.drop (k + (intF.all cs).length)).toArray, fun ty dc sc => ?_, ⟨?_, .inr ⟨g, p, _, rfl, hg, setRow_heap w g cur _ 3 _ hh, Nat.le_refl _, h2, ?_, ?_⟩⟩, ?_⟩
  ·have := run_copy_flat (P := Try.prog) w 25 25 ty 3 g k dl dc a sl sc cur 3 (intF.all cs) 1 Try.underlying25 int_size hh (by rw [hcl, hmin, Nat.mul_one]) hsrc hfit (intF.all_oneCell cs)
   rw [hmin] at this
   exact this
  ·rw [intF.all_length]
   unfold onesTo
   have : intF.k = 1 := rfl
   rw [this]
   simp
   omega
  ·have : cur.toList.length = p := by have := h3; simp at this; simpa using this
   simp
   rw [hcl]
   simp at this
   omega
  ·have hcs' : cur.toList = intF.all (onesTo p k) := by
    rw [← h4, List.take_of_length_le (by have := h3; simp at this; simp; omega)]
   rw [hcs', intF_all, intF_all, intF_all, hcs]
   unfold onesTo cI
   simp only [List.map_append, List.map_replicate, Nat.mul_one]
   have e1 : (List.replicate k (Value.int .i64 1) ++ List.replicate (p - k) (Value.int .i64 0)).take k = List.replicate k (Value.int .i64 1) := by
    rw [List.take_append_of_le_length (by simp), List.take_of_length_le (by simp)]
   rw [e1]
   have e2 : (List.replicate k (Value.int .i64 1) ++ List.replicate (p - k) (Value.int .i64 0)).drop (k + (List.replicate m (Value.int .i64 1)).length) = List.replicate (p - (k + m)) (Value.int .i64 0) := by
    rw [List.length_replicate, List.drop_append, List.drop_eq_nil_of_le (by rw [List.length_replicate]; omega), List.nil_append, List.length_replicate, List.drop_replicate]
    congr 1
    omega
   rw [e2, List.take_of_length_le (by simp; omega), ← List.replicate_append_replicate]
  ·refine ⟨rfl, rfl, rfl, ?_, ?_⟩
   ·simp [World.setRow]
   ·intro i hi hkg
    rw [setRow_other _ _ _ _ (fun e => hkg (by rw [e]))]

set_option maxRecDepth 100000 in
set_option maxHeartbeats 4000000 in
theorem repeat_made (g p : Nat) (h1 : 1 ≤ p) (h6 : p ≤ 6) (w : World) (kg : w.heap[g]? = some (.cells #[.int .i64 1] 3)) :
  Calls Try.prog 44 #[.slice (some ⟨g, 0, none⟩) 1 1, .int .i64 p] w fun e w' => ∃ a' c', e = .returned (.slice a' p c') ∧ w'.ownsRow w.heap.size 3 1 (.slice a' p c') p (cI (List.replicate p 1)) ∧ Below w.heap.size w w' := by
 have hglt : g < w.heap.size := (Array.getElem?_eq_some_iff.1 kg).1
 obtain ⟨i0, hi, hz0, hz1, hz2⟩ := finfo_parts (k := 1) Try.infoI64
 have hnn : ¬ ((p : Int) < 0) := by omega
 have hwp : IntKind.u64.wrap (p : Int) = (p : Int) := by rw [IntKind.wrap_u64]; omega
 have hwq : IntKind.i64.wrap (p : Int) = (p : Int) := by rw [IntKind.wrap_i64]; omega
 have hbig : ¬ ((9223372036854775807 : Int) < (p : Int)) := by omega
 go_enter Try.func44, Try.ntmps44
 go_wp2_with fail
 refine (mul_any p h1 h6 _).mono ?_
 rintro e w1 ⟨rfl, e1⟩
 obtain rfl := e1.symm
 go_wp2_with (at_make; refine wpList_make_full _ rfl _ _ 25 rfl w.heap.size 3 i0 (.int .i64 0) 1 Try.underlying25 hi hz0 hz1 .i64 .i64 _ _ p rfl rfl rfl rfl ?c1 ?c2 ?c3 ?_)
 case c1 => rw [hz2]; omega
 case c2 => unfold maxLen; omega
 case c3 => exact Nat.le_refl _
 intro w1 hown hgrow
 have hb1 : Below w.heap.size w w1 := (Below.refl _ _).grown hgrow (Nat.le_refl _) (by intro k hk; cases hk)
 have hown1 : w1.ownsRow w.heap.size 3 1 (.slice (some ⟨w.heap.size, 0, none⟩) p p) p (intF.all (onesTo p 0)) := by
  unfold onesTo
  rw [List.replicate_zero, List.nil_append, Nat.sub_zero]
  have := flat_made intF 0 p
  rw [show intF.k = 1 from rfl, Nat.mul_one] at this
  rw [← this]
  exact hown
 have kg1 := kept_block kg hb1
 have hcell : w1.cell? ⟨g, 0, none⟩ = some (.int .i64 1) := by simp [World.cell?, kg1]
 obtain ⟨w2, hcp, hO2, hg2⟩ := ones_copy (cs := [1]) (m := 1) (a := ⟨g, 0, none⟩) (dl := p) (sl := 1) hown1 (by omega) rfl (Nat.min_eq_left h1) (by
  intro j v hj
  match j, hj with
  | 0, hj => cases hj; rw [add_none]; exact hcell
  | j + 1, hj => simp [intF, Flat.all] at hj)
 have HO2 : Hid (w2.ownsRow w.heap.size 3 1 (.slice (some ⟨w.heap.size, 0, none⟩) p p) p (intF.all (onesTo p 1))) := hide hO2
 have HB2 : Hid (Below w.heap.size w w2) := hide (hb1.grown hg2 hb1.size (by intro k hk; cases hk; exact Nat.le_refl _))
 clear hown hgrow hi hz0 hz1 hz2 hown1 hO2 hg2 kg1 hcell hb1
 go_wp2_with (at_builtin; refine wpList_copy_eq _ rfl _ _ 25 25 rfl _ _ rfl rfl (hcp _ _ _) ?_)
 go_wp2
 go_loopw [8] (fun i wr => ∃ k : Nat, 1 ≤ k ∧ k ≤ p ∧ i = .int .i64 k ∧ wr.ownsRow w.heap.size 3 1 (.slice (some ⟨w.heap.size, 0, none⟩) p p) p (intF.all (onesTo p k)) ∧ Below w.heap.size w wr) (fun i _ => p - (intOf i).toNat)
 case atStart => exact ⟨1, Nat.le_refl _, h1, rfl, HO2.out, HB2.out⟩
 case round =>
  obtain ⟨k, hk1, hk, rfl, ho, hb⟩ := hrel
  by_cases hlt : k < p
  ·have ho' : wr.drew.ownsRow w.heap.size 3 1 (.slice (some ⟨w.heap.size, 0, none⟩) p p) p (intF.all (onesTo p k)) := gown_below ho (gr_drew (Below.refl _ _))
   have hm1 : Nat.min k (p - k) ≤ k := Nat.min_le_left _ _
   have hm2 : Nat.min k (p - k) ≤ p - k := Nat.min_le_right _ _
   have hm3 : 1 ≤ Nat.min k (p - k) := Nat.le_min.2 ⟨hk1, by omega⟩
   obtain ⟨w3, hcp3, hO3, hg3⟩ := ones_copy (w := wr.drew) (cs := List.replicate (Nat.min k (p - k)) 1) (m := Nat.min k (p - k)) (a := ⟨w.heap.size, 0, none⟩) (dl := p - k) (sl := k) ho' (by omega) rfl rfl (by
    intro j v hj
    have hjl := (List.getElem?_eq_some_iff.1 hj).1
    rw [intF.all_length, List.length_replicate, show intF.k = 1 from rfl, Nat.mul_one] at hjl
    rw [add_none, Nat.zero_add, ho'.cellAt j (by omega)]
    rw [intF_all] at hj ⊢
    unfold cI at hj ⊢
    rw [List.getElem?_map] at hj ⊢
    unfold onesTo
    rw [List.getElem?_append_left (by simp; omega), List.getElem?_replicate, if_pos (by omega)]
    rw [List.getElem?_replicate, if_pos (by omega)] at hj
    exact hj)
   have HO := hide hO3
   have HB := hide (hb.drew.grown hg3 (by simpa using hb.size) (by intro j hj; cases hj; exact Nat.le_refl _))
   have hcp := hcp3
   have i1 : (0 : Int) ≤ (k : Int) := by omega
   have i2 : (k : Int) ≤ (p : Int) := by omega
   have i3 : ¬ (p = k) := by omega
   have i4 : IntKind.i64.wrap ((k : Int) + (Nat.min k (p - k) : Nat)) = ((k + Nat.min k (p - k) : Nat) : Int) := by rw [IntKind.wrap_i64]; omega
   clear hcp3 hO3 hg3 ho ho' hb
   go_wp2_with fail
   refine wp_region_held_drew (S := (fun _ => True)) (by kernel_rfl) (trivial) (fun hHeld => ?_)
   refine wpAnyH_take (i := 0) (oi := ⟨some 38, .move (.tmp 8), 3, "slices.go:528", #[], none⟩) (v := ?_) rfl (by kernel_rfl) (by kernel_rfl) (by kernel_rfl) (fun _ _ _ h => h) (Or.inl ⟨by rfl, ?_⟩) (by assumption) ?_
   rotate_left
   ·(intro wY hSw; (try dsimp only at hSw); go_simp; try with_reducible rfl)
   simp only [Act.put, lA, lB, lC]
   refine wpAnyH_take (i := 1) (oi := ⟨some 39, .move (.tmp 7), 25, "slices.go:528", #[], none⟩) (v := ?_) rfl (by kernel_rfl) (by kernel_rfl) (by kernel_rfl) (fun _ _ _ h => h) (Or.inl ⟨by rfl, ?_⟩) (by assumption) ?_
   rotate_left
   ·(intro wY hSw; (try dsimp only at hSw); go_simp; try with_reducible rfl)
   simp only [Act.put, lA, lB, lC]
   refine wpAnyH_take (i := 2) (oi := ⟨some 40, .move (.tmp 8), 3, "slices.go:528", #[], none⟩) (v := ?_) rfl (by kernel_rfl) (by kernel_rfl) (by kernel_rfl) (fun _ _ _ h => h) (Or.inl ⟨by rfl, ?_⟩) (by assumption) ?_
   rotate_left
   ·(intro wY hSw; (try dsimp only at hSw); go_simp; try with_reducible rfl)
   simp only [Act.put, lA, lB, lC]
   refine wpAnyH_take (i := 3) (oi := ⟨some 41, .slice 25 (.tmp 39) (some (.tmp 40)) none none, 25, "slices.go:528", #[⟨1, .data⟩, ⟨2, .data⟩], none⟩) (v := ?_) rfl (by kernel_rfl) (by kernel_rfl) (by kernel_rfl) (fun _ _ _ h => h) (Or.inl ⟨by rfl, ?_⟩) (by assumption) ?_
   rotate_left
   ·(intro wY hSw; (try dsimp only at hSw); go_simp; try with_reducible rfl)
   simp only [Act.put, lA, lB, lC]
   refine wpAnyH_take (i := 4) (oi := ⟨some 42, .move (.tmp 7), 25, "slices.go:528", #[], none⟩) (v := ?_) rfl (by kernel_rfl) (by kernel_rfl) (by kernel_rfl) (fun _ _ _ h => h) (Or.inl ⟨by rfl, ?_⟩) (by assumption) ?_
   rotate_left
   ·(intro wY hSw; (try dsimp only at hSw); go_simp; try with_reducible rfl)
   simp only [Act.put, lA, lB, lC]
   refine wpAnyH_take (i := 5) (oi := ⟨some 43, .move (.tmp 8), 3, "slices.go:528", #[], none⟩) (v := ?_) rfl (by kernel_rfl) (by kernel_rfl) (by kernel_rfl) (fun _ _ _ h => h) (Or.inl ⟨by rfl, ?_⟩) (by assumption) ?_
   rotate_left
   ·(intro wY hSw; (try dsimp only at hSw); go_simp; try with_reducible rfl)
   simp only [Act.put, lA, lB, lC]
   refine wpAnyH_take (i := 6) (oi := ⟨some 44, .slice 25 (.tmp 42) none (some (.tmp 43)) none, 25, "slices.go:528", #[⟨4, .data⟩, ⟨5, .data⟩], none⟩) (v := ?_) rfl (by kernel_rfl) (by kernel_rfl) (by kernel_rfl) (fun _ _ _ h => h) (Or.inl ⟨by rfl, ?_⟩) (by assumption) ?_
   rotate_left
   ·(intro wY hSw; (try dsimp only at hSw); go_simp; try with_reducible rfl)
   simp only [Act.put, lA, lB, lC]
   refine wpAnyH_ready (rs := [7]) (by kernel_rfl) (by simp) ?_
   refine AllReadyH.cons (o := ⟨some 45, .call ⟨.builtin .copy, #[.tmp 41, .tmp 44], #[25, 25]⟩, 3, "slices.go:528", #[⟨3, .data⟩, ⟨6, .data⟩], none⟩) rfl (fun K hK => ?_) ?_
   ·refine step_copy_eq rfl _ _ 25 25 rfl _ _ rfl rfl (hcp _ _ _) ?_
    refine hK.out _ _ (trivial) (fun hHeld => ?_)
    clear hK K
    try simp only [Act.put, lA, lB, lC]
    refine wpAnyH_take (i := 8) (oi := ⟨some 46, .binOp .add 3 (.tmp 38) (.tmp 45) 3, 3, "slices.go:528", #[⟨0, .data⟩, ⟨7, .data⟩], none⟩) (v := ?_) rfl (by kernel_rfl) (by kernel_rfl) (by kernel_rfl) (fun _ _ _ h => h) (Or.inl ⟨by rfl, ?_⟩) (by assumption) ?_
    rotate_left
    ·(intro wY hSw; (try dsimp only at hSw); go_simp; try with_reducible rfl)
    simp only [Act.put, lA, lB, lC]
    refine wpAnyH_take (i := 9) (oi := ⟨some 8, .assign (.tmp 46), 3, "slices.go:528", #[⟨8, .data⟩, ⟨7, .chain⟩, ⟨0, .phase⟩, ⟨1, .phase⟩, ⟨2, .phase⟩, ⟨3, .phase⟩, ⟨4, .phase⟩, ⟨5, .phase⟩, ⟨6, .phase⟩, ⟨7, .phase⟩, ⟨8, .phase⟩], none⟩) (v := ?_) rfl (by kernel_rfl) (by kernel_rfl) (by kernel_rfl) (fun _ _ _ h => h) (Or.inl ⟨by rfl, ?_⟩) (by assumption) ?_
    rotate_left
    ·(intro wY hSw; (try dsimp only at hSw); go_simp; try with_reducible rfl)
    simp only [Act.put, lA, lB, lC]
    refine wpAnyH_done (by kernel_rfl) ?_ _
    clear hHeld
    go_wp2
    go_roundw
    case rel => exact ⟨k + Nat.min k (p - k), by omega, by omega, by go_num, HO.out, HB.out⟩
    case measure => simp [intOf]; omega
   exact AllReadyH.nil
  ·have hkp : k = p := by omega
   subst hkp
   have HO : Hid (wr.ownsRow w.heap.size 3 1 (.slice (some ⟨w.heap.size, 0, none⟩) k k) k (cI (List.replicate k 1))) := hide (by
    have h := ho
    unfold onesTo at h
    rw [Nat.sub_self, List.replicate_zero, List.append_nil, intF_all] at h
    exact h)
   have HB := hide hb
   clear ho hb
   go_wp2
   go_ret
   exact ⟨_, _, rfl, HO.out, HB.out⟩

set_option maxRecDepth 100000 in
set_option maxHeartbeats 4000000 in
theorem implVtabNew_made (ports : Int) (w : World) :
  Calls Try.prog 18 #[.int .i64 ports] w fun e w' => ∃ a n c o p q, e = .returned (.agg #[.slice a n c, .slice o p q]) ∧ VOwn w' w.heap.size a n c o p q (vtabNew ports) ∧ Below w.heap.size w w' := by
 generalize hw1 : w.alloc (Obj.cells #[Value.slice none 0 0, Value.slice none 0 0] 27) = w1
 have b01 : Below w.heap.size w w1 := by subst hw1; exact below_one _ _
 have k0 : w1.heap[w.heap.size]? = some (.cells #[.slice none 0 0, .slice none 0 0] 27) := by rw [← hw1]; exact block_last _ _
 have z1 : Hid (w.heap.size < w1.heap.size) := hide (by rw [← hw1]; simp)
 cases hin : (decide (1 ≤ ports) && decide (ports ≤ 6))
 ·rw [vtabNew_no hin]
  have HIN := hide hin
  clear hin
  obtain ⟨⟨g0, g1⟩, f0, f1⟩ := cells2 k0
  have HB := hide (below_set (below_set b01 (Nat.le_refl _) 0 (.slice none 0 0)) (Nat.le_refl _) 1 (.slice none 0 0))
  go_enter Try.func18, Try.ntmps18
  go_wp2_with (refine (implIn9_any ports 1 6 _).mono ?_; rintro r w2 ⟨rfl, e2⟩; obtain rfl := e2.symm; rw [HIN.out])
  exact bodyPost_ret (v := .agg #[.slice none 0 0, .slice none 0 0]) (by simp [results, Try.results18, go_sem, *]) rfl ⟨_, _, _, _, _, _, rfl, vownNone _ _, HB.out⟩
 ·obtain ⟨p, rfl⟩ : ∃ p : Nat, ports = (p : Int) := ⟨ports.toNat, by simp at hin; omega⟩
  rw [vtabNew_yes hin]
  have HIN := hide hin
  have hp : 1 ≤ p ∧ p ≤ 6 := by simp at hin; omega
  clear hin
  generalize hw2 : w1.alloc (Obj.cells #[Value.int .i64 1, Value.int .i64 (allOf p), Value.int .i64 (allOf p)] 71) = w2
  have b12 : Below w1.heap.size w1 w2 := by subst hw2; exact below_one _ _
  have k1 : w2.heap[w1.heap.size]? = some (.cells #[.int .i64 1, .int .i64 (allOf p), .int .i64 (allOf p)] 71) := by rw [← hw2]; exact block_last _ _
  generalize hw3 : w2.alloc (Obj.cells #[Value.int .i64 1] 3) = w3
  have b23 : Below w2.heap.size w2 w3 := by subst hw3; exact below_one _ _
  have k2 : w3.heap[w2.heap.size]? = some (.cells #[.int .i64 1] 3) := by rw [← hw3]; exact block_last _ _
  have hR : w3.ownsRow w1.heap.size 71 3 (.slice (some ⟨w1.heap.size, 0, none⟩) 1 1) 1 (vrowF.all [⟨1, allOf p, allOf p⟩]) := gown_below (own_one vrowF (x := ⟨1, allOf p, allOf p⟩) k1 rfl (Nat.le_refl _)) b23
  have b13 := gr_trans b12 b23
  go_enter Try.func18, Try.ntmps18
  go_wp2_with (refine (implIn9_any (p : Int) 1 6 _).mono ?_; rintro r wy ⟨rfl, ey⟩; obtain rfl := ey.symm; rw [HIN.out])
  refine (portBits_any p hp.1 hp.2 _).mono ?_
  rintro r wy ⟨rfl, ey⟩
  obtain rfl := ey.symm
  go_wp2_with fail
  refine (repeat_made w2.heap.size p hp.1 hp.2 _ k2).mono ?_
  rintro r w4 ⟨a4, c4, rfl, hI, hb4⟩
  have hV : VOwn w4 w1.heap.size (some ⟨w1.heap.size, 0, none⟩) 1 1 a4 p c4 ⟨[⟨1, allOf p, allOf p⟩], List.replicate p 1⟩ := ⟨gown_below hR hb4, gown_lt hI b13.size, ones_i64 _⟩
  have b14 := gr_trans b13 hb4
  obtain ⟨⟨g0, g1⟩, f0, f1⟩ := cells2 (kept_block k0 b14)
  have HO := hide ((hV.set2 (g := w.heap.size) z1.out (.slice (some ⟨w1.heap.size, 0, none⟩) 1 1) (.slice a4 p c4)).lt (base' := w.heap.size) b01.size)
  have HB := hide (below_set (below_set (gr_trans b01 b14) (Nat.le_refl _) 0 (.slice (some ⟨w1.heap.size, 0, none⟩) 1 1)) (Nat.le_refl _) 1 (.slice a4 p c4))
  clear hV hI hR hb4
  go_wp2
  exact bodyPost_ret (v := .agg #[.slice (some ⟨w1.heap.size, 0, none⟩) 1 1, .slice a4 p c4]) (by simp [results, Try.results18, go_sem, *]) rfl ⟨_, _, _, _, _, _, rfl, HO.out, HB.out⟩

def zeroPt : PT := ⟨false, 0, false, ⟨0, 0, 0, 0, 0⟩⟩

theorem pt_size : (Try.prog.info? 50).map (·.size) = some ptF.k := by kernel_rfl

set_option maxRecDepth 100000 in
set_option maxHeartbeats 4000000 in
theorem repeatP_made (g p : Nat) (h1 : 1 ≤ p) (h6 : p ≤ 6) (w : World) (kg : w.heap[g]? = some (.cells #[.bool false, .int .i64 1, .bool false, .int .i64 0, .int .i64 0, .int .i64 0, .int .i64 0, .int .i64 0] 50)) :
  Calls Try.prog 17 #[.slice (some ⟨g, 0, none⟩) 1 1, .int .i64 p] w fun e w' => ∃ a' c', e = .returned (.slice a' p c') ∧ w'.ownsRow w.heap.size 50 8 (.slice a' p c') p (ptF.all (List.replicate p newPt)) ∧ Below w.heap.size w w' := by
 obtain ⟨i0, hi, hz0, hz1, hz2⟩ := finfo_parts (k := 8) ptInfo
 have hnn : ¬ ((p : Int) < 0) := by omega
 have hwp : IntKind.u64.wrap (p : Int) = (p : Int) := by rw [IntKind.wrap_u64]; omega
 have hwq : IntKind.i64.wrap (p : Int) = (p : Int) := by rw [IntKind.wrap_i64]; omega
 have hbig : ¬ ((9223372036854775807 : Int) < (p : Int)) := by omega
 go_enter Try.func17, Try.ntmps17
 go_wp2_with fail
 refine (mul_any p h1 h6 _).mono ?_
 rintro e w1 ⟨rfl, e1⟩
 obtain rfl := e1.symm
 go_wp2_with (at_make; refine wpList_make_full _ rfl _ _ 22 rfl w.heap.size 50 i0 (.agg #[.bool false, .int .i64 0, .bool false, .int .i64 0, .int .i64 0, .int .i64 0, .int .i64 0, .int .i64 0]) 8 Try.underlying22 hi hz0 hz1 .i64 .i64 _ _ p rfl rfl rfl rfl ?c1 ?c2 ?c3 ?_)
 case c1 => rw [hz2]; omega
 case c2 => unfold maxLen; omega
 case c3 => exact Nat.le_refl _
 intro w1 hown hgrow
 have hb1 : Below w.heap.size w w1 := (Below.refl _ _).grown hgrow (Nat.le_refl _) (by intro k hk; cases hk)
 have hown1 : w1.ownsRow w.heap.size 50 8 (.slice (some ⟨w.heap.size, 0, none⟩) p p) p (ptF.all (repTo newPt zeroPt p 0)) := by
  unfold repTo
  rw [List.replicate_zero, List.nil_append, Nat.sub_zero]
  have := flat_made ptF zeroPt p
  rw [← this]
  exact hown
 have kg1 := kept_block kg hb1
 obtain ⟨w2, hcp, hO2, hg2⟩ := rep_copy ptF (P := Try.prog) (tS := 22) Try.underlying22 pt_size (x := newPt) (z := zeroPt) (m := 1) (a := ⟨g, 0, none⟩) (dl := p) (sl := 1) hown1 (by omega) (Nat.min_eq_left h1) (by
  intro j v hj
  rw [add_none, Nat.zero_add]
  rw [show w1.cell? ⟨g, j, none⟩ = (#[.bool false, .int .i64 1, .bool false, .int .i64 0, .int .i64 0, .int .i64 0, .int .i64 0, .int .i64 0] : Array Value)[j]? from by simp [World.cell?, kg1], ← Array.getElem?_toList]
  exact hj)
 have HO2 : Hid (w2.ownsRow w.heap.size 50 8 (.slice (some ⟨w.heap.size, 0, none⟩) p p) p (ptF.all (repTo newPt zeroPt p 1))) := hide hO2
 have HB2 : Hid (Below w.heap.size w w2) := hide (hb1.grown hg2 hb1.size (by intro k hk; cases hk; exact Nat.le_refl _))
 rw [Nat.zero_mul] at hcp
 clear hown hgrow hi hz0 hz1 hz2 hown1 hO2 hg2 kg1 hb1
 go_wp2_with (at_builtin; refine wpList_copy_eq _ rfl _ _ 22 22 rfl _ _ rfl rfl (hcp _ _ _) ?_)
 go_wp2
 go_loopw [8] (fun i wr => ∃ k : Nat, 1 ≤ k ∧ k ≤ p ∧ i = .int .i64 k ∧ wr.ownsRow w.heap.size 50 8 (.slice (some ⟨w.heap.size, 0, none⟩) p p) p (ptF.all (repTo newPt zeroPt p k)) ∧ Below w.heap.size w wr) (fun i _ => p - (intOf i).toNat)
 case atStart => exact ⟨1, Nat.le_refl _, h1, rfl, HO2.out, HB2.out⟩
 case round =>
  obtain ⟨k, hk1, hk, rfl, ho, hb⟩ := hrel
  by_cases hlt : k < p
  ·have ho' : wr.drew.ownsRow w.heap.size 50 8 (.slice (some ⟨w.heap.size, 0, none⟩) p p) p (ptF.all (repTo newPt zeroPt p k)) := gown_below ho (gr_drew (Below.refl _ _))
   have hm1 : Nat.min k (p - k) ≤ k := Nat.min_le_left _ _
   have hm2 : Nat.min k (p - k) ≤ p - k := Nat.min_le_right _ _
   have hm3 : 1 ≤ Nat.min k (p - k) := Nat.le_min.2 ⟨hk1, by omega⟩
   obtain ⟨w3, hcp3, hO3, hg3⟩ := rep_copy ptF (P := Try.prog) (tS := 22) Try.underlying22 pt_size (w := wr.drew) (x := newPt) (z := zeroPt) (m := Nat.min k (p - k)) (a := ⟨w.heap.size, 0, none⟩) (dl := p - k) (sl := k) ho' (by omega) rfl (by
    intro j v hj
    have hjl := (List.getElem?_eq_some_iff.1 hj).1
    rw [ptF.all_length, List.length_replicate, show ptF.k = 8 from rfl] at hjl
    rw [add_none, Nat.zero_add, ho'.cellAt j (by omega)]
    unfold repTo
    rw [ptF.all_append, List.getElem?_append_left (by rw [ptF.all_length, List.length_replicate, show ptF.k = 8 from rfl]; omega)]
    rw [show List.replicate k newPt = List.replicate (Nat.min k (p - k)) newPt ++ List.replicate (k - Nat.min k (p - k)) newPt by rw [List.replicate_append_replicate]; congr 1; omega, ptF.all_append, List.getElem?_append_left (by rw [ptF.all_length, List.length_replicate, show ptF.k = 8 from rfl]; omega)]
    exact hj)
   have HO := hide hO3
   have HB := hide (hb.drew.grown hg3 (by simpa using hb.size) (by intro j hj; cases hj; exact Nat.le_refl _))
   have hcp : ∀ ty dc sc, (Builtin.copy_ #[22, 22] ty #[.slice (some ⟨w.heap.size, k * 8, none⟩) (p - k) dc, .slice (some ⟨w.heap.size, 0, none⟩) k sc]).run Try.prog wr.drew = .ok (goInt (Nat.min k (p - k))) w3 := hcp3
   have i1 : (0 : Int) ≤ (k : Int) := by omega
   have i2 : (k : Int) ≤ (p : Int) := by omega
   have i3 : ¬ (p = k) := by omega
   have i4 : IntKind.i64.wrap ((k : Int) + (Nat.min k (p - k) : Nat)) = ((k + Nat.min k (p - k) : Nat) : Int) := by rw [IntKind.wrap_i64]; omega
   clear hcp3 hO3 hg3 ho ho' hb
   go_wp2_with fail
   refine wp_region_held_drew (S := (fun _ => True)) (by kernel_rfl) (trivial) (fun hHeld => ?_)
   refine wpAnyH_take (i := 0) (oi := ⟨some 38, .move (.tmp 8), 3, "slices.go:528", #[], none⟩) (v := ?_) rfl (by kernel_rfl) (by kernel_rfl) (by kernel_rfl) (fun _ _ _ h => h) (Or.inl ⟨by rfl, ?_⟩) (by assumption) ?_
   rotate_left
   ·(intro wY hSw; (try dsimp only at hSw); go_simp; try with_reducible rfl)
   simp only [Act.put, lA, lB, lC]
   refine wpAnyH_take (i := 1) (oi := ⟨some 39, .move (.tmp 7), 22, "slices.go:528", #[], none⟩) (v := ?_) rfl (by kernel_rfl) (by kernel_rfl) (by kernel_rfl) (fun _ _ _ h => h) (Or.inl ⟨by rfl, ?_⟩) (by assumption) ?_
   rotate_left
   ·(intro wY hSw; (try dsimp only at hSw); go_simp; try with_reducible rfl)
   simp only [Act.put, lA, lB, lC]
   refine wpAnyH_take (i := 2) (oi := ⟨some 40, .move (.tmp 8), 3, "slices.go:528", #[], none⟩) (v := ?_) rfl (by kernel_rfl) (by kernel_rfl) (by kernel_rfl) (fun _ _ _ h => h) (Or.inl ⟨by rfl, ?_⟩) (by assumption) ?_
   rotate_left
   ·(intro wY hSw; (try dsimp only at hSw); go_simp; try with_reducible rfl)
   simp only [Act.put, lA, lB, lC]
   refine wpAnyH_take (i := 3) (oi := ⟨some 41, .slice 22 (.tmp 39) (some (.tmp 40)) none none, 22, "slices.go:528", #[⟨1, .data⟩, ⟨2, .data⟩], none⟩) (v := ?_) rfl (by kernel_rfl) (by kernel_rfl) (by kernel_rfl) (fun _ _ _ h => h) (Or.inl ⟨by rfl, ?_⟩) (by assumption) ?_
   rotate_left
   ·(intro wY hSw; (try dsimp only at hSw); go_simp; try with_reducible rfl)
   simp only [Act.put, lA, lB, lC]
   refine wpAnyH_take (i := 4) (oi := ⟨some 42, .move (.tmp 7), 22, "slices.go:528", #[], none⟩) (v := ?_) rfl (by kernel_rfl) (by kernel_rfl) (by kernel_rfl) (fun _ _ _ h => h) (Or.inl ⟨by rfl, ?_⟩) (by assumption) ?_
   rotate_left
   ·(intro wY hSw; (try dsimp only at hSw); go_simp; try with_reducible rfl)
   simp only [Act.put, lA, lB, lC]
   refine wpAnyH_take (i := 5) (oi := ⟨some 43, .move (.tmp 8), 3, "slices.go:528", #[], none⟩) (v := ?_) rfl (by kernel_rfl) (by kernel_rfl) (by kernel_rfl) (fun _ _ _ h => h) (Or.inl ⟨by rfl, ?_⟩) (by assumption) ?_
   rotate_left
   ·(intro wY hSw; (try dsimp only at hSw); go_simp; try with_reducible rfl)
   simp only [Act.put, lA, lB, lC]
   refine wpAnyH_take (i := 6) (oi := ⟨some 44, .slice 22 (.tmp 42) none (some (.tmp 43)) none, 22, "slices.go:528", #[⟨4, .data⟩, ⟨5, .data⟩], none⟩) (v := ?_) rfl (by kernel_rfl) (by kernel_rfl) (by kernel_rfl) (fun _ _ _ h => h) (Or.inl ⟨by rfl, ?_⟩) (by assumption) ?_
   rotate_left
   ·(intro wY hSw; (try dsimp only at hSw); go_simp; try with_reducible rfl)
   simp only [Act.put, lA, lB, lC]
   refine wpAnyH_ready (rs := [7]) (by kernel_rfl) (by simp) ?_
   refine AllReadyH.cons (o := ⟨some 45, .call ⟨.builtin .copy, #[.tmp 41, .tmp 44], #[22, 22]⟩, 3, "slices.go:528", #[⟨3, .data⟩, ⟨6, .data⟩], none⟩) rfl (fun K hK => ?_) ?_
   ·refine step_copy_eq rfl _ _ 22 22 rfl _ _ rfl rfl (hcp _ _ _) ?_
    refine hK.out _ _ (trivial) (fun hHeld => ?_)
    clear hK K
    try simp only [Act.put, lA, lB, lC]
    refine wpAnyH_take (i := 8) (oi := ⟨some 46, .binOp .add 3 (.tmp 38) (.tmp 45) 3, 3, "slices.go:528", #[⟨0, .data⟩, ⟨7, .data⟩], none⟩) (v := ?_) rfl (by kernel_rfl) (by kernel_rfl) (by kernel_rfl) (fun _ _ _ h => h) (Or.inl ⟨by rfl, ?_⟩) (by assumption) ?_
    rotate_left
    ·(intro wY hSw; (try dsimp only at hSw); go_simp; try with_reducible rfl)
    simp only [Act.put, lA, lB, lC]
    refine wpAnyH_take (i := 9) (oi := ⟨some 8, .assign (.tmp 46), 3, "slices.go:528", #[⟨8, .data⟩, ⟨7, .chain⟩, ⟨0, .phase⟩, ⟨1, .phase⟩, ⟨2, .phase⟩, ⟨3, .phase⟩, ⟨4, .phase⟩, ⟨5, .phase⟩, ⟨6, .phase⟩, ⟨7, .phase⟩, ⟨8, .phase⟩], none⟩) (v := ?_) rfl (by kernel_rfl) (by kernel_rfl) (by kernel_rfl) (fun _ _ _ h => h) (Or.inl ⟨by rfl, ?_⟩) (by assumption) ?_
    rotate_left
    ·(intro wY hSw; (try dsimp only at hSw); go_simp; try with_reducible rfl)
    simp only [Act.put, lA, lB, lC]
    refine wpAnyH_done (by kernel_rfl) ?_ _
    clear hHeld
    go_wp2
    go_roundw
    case rel => exact ⟨k + Nat.min k (p - k), by omega, by omega, by go_num, HO.out, HB.out⟩
    case measure => simp [intOf]; omega
   exact AllReadyH.nil
  ·have hkp : k = p := by omega
   subst hkp
   have HO : Hid (wr.ownsRow w.heap.size 50 8 (.slice (some ⟨w.heap.size, 0, none⟩) k k) k (ptF.all (List.replicate k newPt))) := hide (by
    have h := ho
    unfold repTo at h
    rw [Nat.sub_self, List.replicate_zero, List.append_nil] at h
    exact h)
   have HB := hide hb
   clear ho hb
   go_wp2
   go_ret
   exact ⟨_, _, rfl, HO.out, HB.out⟩

def bridgeNewAt (id ports : Int) : BR := if (decide (1 ≤ id) && decide (id ≤ 99)) && (decide (1 ≤ ports) && decide (ports ≤ 6)) then bridgeNew id ports.toNat else zeroBr

set_option maxRecDepth 100000 in
set_option maxHeartbeats 4000000 in
theorem specNew_any (id ports : Int) (w : World) : Calls Try.prog 5 #[.int .i64 id, .int .i64 ports] w fun e w' => ∃ (a2 : Option Addr) (n2 c2 : Nat) (fa2 : Option Addr) (fn2 fc2 : Nat) (ra2 : Option Addr) (rn2 rc2 : Nat) (oa2 : Option Addr) (on2 oc2 : Nat), e = .returned (.agg #[.int .i64 (bridgeNewAt id ports).id, .string (bridgeNewAt id ports).name, .slice a2 n2 c2, .slice fa2 fn2 fc2, .slice ra2 rn2 rc2, .slice oa2 on2 oc2, .int .i64 (bridgeNewAt id ports).ticks, .int .i64 (bridgeNewAt id ports).parse, .int .i64 (bridgeNewAt id ports).word, .int .i64 (bridgeNewAt id ports).drops, .int .i64 (bridgeNewAt id ports).vers]) ∧ BrOwn w' w.heap.size a2 n2 c2 fa2 fn2 fc2 ra2 rn2 rc2 oa2 on2 oc2 (bridgeNewAt id ports) ∧ Below w.heap.size w w' := by
 cases hid : (decide (1 ≤ id) && decide (id ≤ 99))
 ·have HE : Hid (bridgeNewAt id ports = zeroBr) := hide (by unfold bridgeNewAt; rw [hid]; rfl)
  have HID := hide hid
  clear hid
  generalize hw1 : w.alloc (Obj.cells #[.int .i64 0, .string ⟨#[]⟩, .slice none 0 0, .slice none 0 0, .slice none 0 0, .slice none 0 0, .int .i64 0, .int .i64 0, .int .i64 0, .int .i64 0, .int .i64 0] 29) = w1
  have b1 : Below w.heap.size w w1 := by rw [← hw1]; exact below_one _ _
  have kR : w1.heap[w.heap.size]? = some (.cells #[.int .i64 0, .string ⟨#[]⟩, .slice none 0 0, .slice none 0 0, .slice none 0 0, .slice none 0 0, .int .i64 0, .int .i64 0, .int .i64 0, .int .i64 0, .int .i64 0] 29) := by rw [← hw1]; exact block_last _ _
  obtain ⟨u0, u1, u2, u3, u4, u5, u6, u7, u8, u9, u10⟩ := cells11 kR
  have fr := frozen8 kR
  have fr0 := fr 0
  have fr1 := fr 1
  have fr2 := fr 2
  have fr3 := fr 3
  have fr4 := fr 4
  have fr5 := fr 5
  have fr6 := fr 6
  have fr7 := fr 7
  have fr8 := fr 8
  have fr9 := fr 9
  have fr10 := fr 10
  have HO := hide ((zeroBr_own w1 w.heap.size).boxed11 kR (.int .i64 0) (.string ⟨#[]⟩) (.slice none 0 0) (.slice none 0 0) (.slice none 0 0) (.slice none 0 0) (.int .i64 0) (.int .i64 0) (.int .i64 0) (.int .i64 0) (.int .i64 0))
  have HB := hide (below_set11 b1 (Nat.le_refl _) (.int .i64 0) (.string ⟨#[]⟩) (.slice none 0 0) (.slice none 0 0) (.slice none 0 0) (.slice none 0 0) (.int .i64 0) (.int .i64 0) (.int .i64 0) (.int .i64 0) (.int .i64 0))
  clear fr b1 kR
  go_enter Try.func5, Try.ntmps5
  go_wp2_with fail
  refine (within_any id 1 99 _).mono ?_
  rintro r wx ⟨rfl, ew⟩
  obtain rfl := ew.symm
  rw [HID.out]
  go_wp2
  exact bodyPost_ret (v := .agg #[.int .i64 0, .string ⟨#[]⟩, .slice none 0 0, .slice none 0 0, .slice none 0 0, .slice none 0 0, .int .i64 0, .int .i64 0, .int .i64 0, .int .i64 0, .int .i64 0]) (by simp [results, Try.results5, go_sem, *]) rfl ⟨none, 0, 0, none, 0, 0, none, 0, 0, none, 0, 0, (by rw [HE.out]; rfl), (by rw [HE.out]; exact HO.out), HB.out⟩
 cases hm : (decide (1 ≤ ports) && decide (ports ≤ 6))
 ·have HE : Hid (bridgeNewAt id ports = zeroBr) := hide (by unfold bridgeNewAt; rw [hid, hm]; rfl)
  have HID := hide hid
  have HM := hide hm
  clear hid hm
  generalize hw1 : w.alloc (Obj.cells #[.int .i64 0, .string ⟨#[]⟩, .slice none 0 0, .slice none 0 0, .slice none 0 0, .slice none 0 0, .int .i64 0, .int .i64 0, .int .i64 0, .int .i64 0, .int .i64 0] 29) = w1
  have b1 : Below w.heap.size w w1 := by rw [← hw1]; exact below_one _ _
  have kR : w1.heap[w.heap.size]? = some (.cells #[.int .i64 0, .string ⟨#[]⟩, .slice none 0 0, .slice none 0 0, .slice none 0 0, .slice none 0 0, .int .i64 0, .int .i64 0, .int .i64 0, .int .i64 0, .int .i64 0] 29) := by rw [← hw1]; exact block_last _ _
  obtain ⟨u0, u1, u2, u3, u4, u5, u6, u7, u8, u9, u10⟩ := cells11 kR
  have fr := frozen8 kR
  have fr0 := fr 0
  have fr1 := fr 1
  have fr2 := fr 2
  have fr3 := fr 3
  have fr4 := fr 4
  have fr5 := fr 5
  have fr6 := fr 6
  have fr7 := fr 7
  have fr8 := fr 8
  have fr9 := fr 9
  have fr10 := fr 10
  have HO := hide ((zeroBr_own w1 w.heap.size).boxed11 kR (.int .i64 0) (.string ⟨#[]⟩) (.slice none 0 0) (.slice none 0 0) (.slice none 0 0) (.slice none 0 0) (.int .i64 0) (.int .i64 0) (.int .i64 0) (.int .i64 0) (.int .i64 0))
  have HB := hide (below_set11 b1 (Nat.le_refl _) (.int .i64 0) (.string ⟨#[]⟩) (.slice none 0 0) (.slice none 0 0) (.slice none 0 0) (.slice none 0 0) (.int .i64 0) (.int .i64 0) (.int .i64 0) (.int .i64 0) (.int .i64 0))
  clear fr b1 kR
  go_enter Try.func5, Try.ntmps5
  go_wp2_with fail
  refine (within_any id 1 99 _).mono ?_
  rintro r wx ⟨rfl, ew⟩
  obtain rfl := ew.symm
  rw [HID.out]
  go_wp2_with fail
  refine (within_any ports 1 6 _).mono ?_
  rintro r wx ⟨rfl, ew⟩
  obtain rfl := ew.symm
  rw [HM.out]
  go_wp2
  exact bodyPost_ret (v := .agg #[.int .i64 0, .string ⟨#[]⟩, .slice none 0 0, .slice none 0 0, .slice none 0 0, .slice none 0 0, .int .i64 0, .int .i64 0, .int .i64 0, .int .i64 0, .int .i64 0]) (by simp [results, Try.results5, go_sem, *]) rfl ⟨none, 0, 0, none, 0, 0, none, 0, 0, none, 0, 0, (by rw [HE.out]; rfl), (by rw [HE.out]; exact HO.out), HB.out⟩
 obtain ⟨m, rfl⟩ : ∃ m : Nat, ports = (m : Int) := ⟨ports.toNat, by simp at hm; omega⟩
 have HE : Hid (bridgeNewAt id (m : Int) = bridgeNew id m) := hide (by unfold bridgeNewAt; rw [hid, hm, Int.toNat_natCast]; rfl)
 refine (specBridgeNew_made id m w hid hm).mono ?_
 rintro e w' ⟨a, c, ra, rn, rc, oa, on, oc, rfl, ho, hb⟩
 rw [HE.out]
 exact ⟨a, m, c, none, 0, 0, ra, rn, rc, oa, on, oc, rfl, ho, hb⟩

set_option maxRecDepth 100000 in
set_option maxHeartbeats 4000000 in
theorem implNew_any (id ports : Int) (w : World) : Calls Try.prog 6 #[.int .i64 id, .int .i64 ports] w fun e w' => ∃ (a2 : Option Addr) (n2 c2 : Nat) (fa2 : Option Addr) (fn2 fc2 : Nat) (ra2 : Option Addr) (rn2 rc2 : Nat) (oa2 : Option Addr) (on2 oc2 : Nat), e = .returned (.agg #[.int .i64 (bridgeNewAt id ports).id, .string (bridgeNewAt id ports).name, .slice a2 n2 c2, .slice fa2 fn2 fc2, .slice ra2 rn2 rc2, .slice oa2 on2 oc2, .int .i64 (bridgeNewAt id ports).ticks, .int .i64 (bridgeNewAt id ports).parse, .int .i64 (bridgeNewAt id ports).word, .int .i64 (bridgeNewAt id ports).drops, .int .i64 (bridgeNewAt id ports).vers]) ∧ BrOwn w' w.heap.size a2 n2 c2 fa2 fn2 fc2 ra2 rn2 rc2 oa2 on2 oc2 (bridgeNewAt id ports) ∧ Below w.heap.size w w' := by
 cases hid : (decide (1 ≤ id) && decide (id ≤ 99))
 ·have HE : Hid (bridgeNewAt id ports = zeroBr) := hide (by unfold bridgeNewAt; rw [hid]; rfl)
  have HID := hide hid
  clear hid
  generalize hw1 : w.alloc (Obj.cells #[.int .i64 0, .string ⟨#[]⟩, .slice none 0 0, .slice none 0 0, .slice none 0 0, .slice none 0 0, .int .i64 0, .int .i64 0, .int .i64 0, .int .i64 0, .int .i64 0] 29) = w1
  have b1 : Below w.heap.size w w1 := by rw [← hw1]; exact below_one _ _
  have kR : w1.heap[w.heap.size]? = some (.cells #[.int .i64 0, .string ⟨#[]⟩, .slice none 0 0, .slice none 0 0, .slice none 0 0, .slice none 0 0, .int .i64 0, .int .i64 0, .int .i64 0, .int .i64 0, .int .i64 0] 29) := by rw [← hw1]; exact block_last _ _
  obtain ⟨u0, u1, u2, u3, u4, u5, u6, u7, u8, u9, u10⟩ := cells11 kR
  have fr := frozen8 kR
  have fr0 := fr 0
  have fr1 := fr 1
  have fr2 := fr 2
  have fr3 := fr 3
  have fr4 := fr 4
  have fr5 := fr 5
  have fr6 := fr 6
  have fr7 := fr 7
  have fr8 := fr 8
  have fr9 := fr 9
  have fr10 := fr 10
  have HO := hide ((zeroBr_own w1 w.heap.size).boxed11 kR (.int .i64 0) (.string ⟨#[]⟩) (.slice none 0 0) (.slice none 0 0) (.slice none 0 0) (.slice none 0 0) (.int .i64 0) (.int .i64 0) (.int .i64 0) (.int .i64 0) (.int .i64 0))
  have HB := hide (below_set11 b1 (Nat.le_refl _) (.int .i64 0) (.string ⟨#[]⟩) (.slice none 0 0) (.slice none 0 0) (.slice none 0 0) (.slice none 0 0) (.int .i64 0) (.int .i64 0) (.int .i64 0) (.int .i64 0) (.int .i64 0))
  clear fr b1 kR
  go_enter Try.func6, Try.ntmps6
  go_wp2_with fail
  refine (implIn_any id 1 99 _).mono ?_
  rintro r wx ⟨rfl, ew⟩
  obtain rfl := ew.symm
  rw [HID.out]
  go_wp2
  exact bodyPost_ret (v := .agg #[.int .i64 0, .string ⟨#[]⟩, .slice none 0 0, .slice none 0 0, .slice none 0 0, .slice none 0 0, .int .i64 0, .int .i64 0, .int .i64 0, .int .i64 0, .int .i64 0]) (by simp [results, Try.results6, go_sem, *]) rfl ⟨none, 0, 0, none, 0, 0, none, 0, 0, none, 0, 0, (by rw [HE.out]; rfl), (by rw [HE.out]; exact HO.out), HB.out⟩
 cases hm : (decide (1 ≤ ports) && decide (ports ≤ 6))
 ·have HE : Hid (bridgeNewAt id ports = zeroBr) := hide (by unfold bridgeNewAt; rw [hid, hm]; rfl)
  have HID := hide hid
  have HM := hide hm
  clear hid hm
  generalize hw1 : w.alloc (Obj.cells #[.int .i64 0, .string ⟨#[]⟩, .slice none 0 0, .slice none 0 0, .slice none 0 0, .slice none 0 0, .int .i64 0, .int .i64 0, .int .i64 0, .int .i64 0, .int .i64 0] 29) = w1
  have b1 : Below w.heap.size w w1 := by rw [← hw1]; exact below_one _ _
  have kR : w1.heap[w.heap.size]? = some (.cells #[.int .i64 0, .string ⟨#[]⟩, .slice none 0 0, .slice none 0 0, .slice none 0 0, .slice none 0 0, .int .i64 0, .int .i64 0, .int .i64 0, .int .i64 0, .int .i64 0] 29) := by rw [← hw1]; exact block_last _ _
  obtain ⟨u0, u1, u2, u3, u4, u5, u6, u7, u8, u9, u10⟩ := cells11 kR
  have fr := frozen8 kR
  have fr0 := fr 0
  have fr1 := fr 1
  have fr2 := fr 2
  have fr3 := fr 3
  have fr4 := fr 4
  have fr5 := fr 5
  have fr6 := fr 6
  have fr7 := fr 7
  have fr8 := fr 8
  have fr9 := fr 9
  have fr10 := fr 10
  have HO := hide ((zeroBr_own w1 w.heap.size).boxed11 kR (.int .i64 0) (.string ⟨#[]⟩) (.slice none 0 0) (.slice none 0 0) (.slice none 0 0) (.slice none 0 0) (.int .i64 0) (.int .i64 0) (.int .i64 0) (.int .i64 0) (.int .i64 0))
  have HB := hide (below_set11 b1 (Nat.le_refl _) (.int .i64 0) (.string ⟨#[]⟩) (.slice none 0 0) (.slice none 0 0) (.slice none 0 0) (.slice none 0 0) (.int .i64 0) (.int .i64 0) (.int .i64 0) (.int .i64 0) (.int .i64 0))
  clear fr b1 kR
  go_enter Try.func6, Try.ntmps6
  go_wp2_with fail
  refine (implIn_any id 1 99 _).mono ?_
  rintro r wx ⟨rfl, ew⟩
  obtain rfl := ew.symm
  rw [HID.out]
  go_wp2_with fail
  refine (implIn_any ports 1 6 _).mono ?_
  rintro r wx ⟨rfl, ew⟩
  obtain rfl := ew.symm
  rw [HM.out]
  go_wp2
  exact bodyPost_ret (v := .agg #[.int .i64 0, .string ⟨#[]⟩, .slice none 0 0, .slice none 0 0, .slice none 0 0, .slice none 0 0, .int .i64 0, .int .i64 0, .int .i64 0, .int .i64 0, .int .i64 0]) (by simp [results, Try.results6, go_sem, *]) rfl ⟨none, 0, 0, none, 0, 0, none, 0, 0, none, 0, 0, (by rw [HE.out]; rfl), (by rw [HE.out]; exact HO.out), HB.out⟩
 obtain ⟨m, rfl⟩ : ∃ m : Nat, ports = (m : Int) := ⟨ports.toNat, by simp at hm; omega⟩
 have HE : Hid (bridgeNewAt id (m : Int) = bridgeNew id m) := hide (by unfold bridgeNewAt; rw [hid, hm, Int.toNat_natCast]; rfl)
 have h6 : 1 ≤ m ∧ m ≤ 6 := by simp at hm; omega
 have HID := hide hid
 have HM := hide hm
 clear hid hm
 generalize hw1 : w.alloc (Obj.cells #[.int .i64 0, .string ⟨#[]⟩, .slice none 0 0, .slice none 0 0, .slice none 0 0, .slice none 0 0, .int .i64 0, .int .i64 0, .int .i64 0, .int .i64 0, .int .i64 0] 29) = w1
 have b1 : Below w.heap.size w w1 := by rw [← hw1]; exact below_one _ _
 have kR : w1.heap[w.heap.size]? = some (.cells #[.int .i64 0, .string ⟨#[]⟩, .slice none 0 0, .slice none 0 0, .slice none 0 0, .slice none 0 0, .int .i64 0, .int .i64 0, .int .i64 0, .int .i64 0, .int .i64 0] 29) := by rw [← hw1]; exact block_last _ _
 generalize hw2 : w1.alloc (Obj.cells #[.bool false, .int .i64 1, .bool false, .int .i64 0, .int .i64 0, .int .i64 0, .int .i64 0, .int .i64 0] 50) = w2
 have b2 : Below w1.heap.size w1 w2 := by rw [← hw2]; exact below_one _ _
 have kP : w2.heap[w1.heap.size]? = some (.cells #[.bool false, .int .i64 1, .bool false, .int .i64 0, .int .i64 0, .int .i64 0, .int .i64 0, .int .i64 0] 50) := by rw [← hw2]; exact block_last _ _
 have b02 := gr_trans b1 b2
 have kR := kept_block kR b2
 go_enter Try.func6, Try.ntmps6
 go_wp2_with fail
 refine (implIn_any id 1 99 _).mono ?_
 rintro r wx ⟨rfl, ew⟩
 obtain rfl := ew.symm
 rw [HID.out]
 go_wp2_with fail
 refine (implIn_any (m : Int) 1 6 _).mono ?_
 rintro r wx ⟨rfl, ew⟩
 obtain rfl := ew.symm
 rw [HM.out]
 go_wp2_with fail
 refine (repeatP_made w1.heap.size m h6.1 h6.2 _ kP).mono ?_
 rintro e w3 ⟨a5, c5, rfl, o5, hb3⟩
 have o5 := gown_lt o5 (base' := w.heap.size) b02.size
 have b03 := gr_trans b02 hb3
 have kR := kept_block kR hb3
 clear hw1 hw2 b1 b2 b02 hb3 kP
 go_wp2_with fail
 refine (implVtabNew_made (m : Int) _).mono ?_
 rintro e w4 ⟨ra, rn, rc, oa, on, oc, rfl, hv, hb4⟩
 have hv := hv.lt (base' := w.heap.size) b03.size
 have b04 := gr_trans b03 hb4
 have kR := kept_block kR hb4
 have own4 : BrOwn w4 w.heap.size a5 m c5 none 0 0 ra rn rc oa on oc (bridgeNew id m) := ⟨gown_below o5 hb4, World.ownsRow_nil _ _ _ _, hv⟩
 obtain ⟨u0, u1, u2, u3, u4, u5, u6, u7, u8, u9, u10⟩ := cells11 kR
 have fr := frozen8 kR
 have fr0 := fr 0
 have fr1 := fr 1
 have fr2 := fr 2
 have fr3 := fr 3
 have fr4 := fr 4
 have fr5 := fr 5
 have fr6 := fr 6
 have fr7 := fr 7
 have fr8 := fr 8
 have fr9 := fr 9
 have fr10 := fr 10
 have HO := hide (own4.boxed11 kR (.int .i64 id) (.string ⟨#[]⟩) (.slice a5 m c5) (.slice none 0 0) (.slice ra rn rc) (.slice oa on oc) (.int .i64 0) (.int .i64 0) (.int .i64 0) (.int .i64 0) (.int .i64 0))
 have HB := hide (below_set11 b04 (Nat.le_refl _) (.int .i64 id) (.string ⟨#[]⟩) (.slice a5 m c5) (.slice none 0 0) (.slice ra rn rc) (.slice oa on oc) (.int .i64 0) (.int .i64 0) (.int .i64 0) (.int .i64 0) (.int .i64 0))
 clear fr kR own4 o5 hb4 hv b03 b04
 go_wp2
 exact bodyPost_ret (v := .agg #[.int .i64 id, .string ⟨#[]⟩, .slice a5 m c5, .slice none 0 0, .slice ra rn rc, .slice oa on oc, .int .i64 0, .int .i64 0, .int .i64 0, .int .i64 0, .int .i64 0]) (by simp [results, Try.results6, go_sem, *]) rfl ⟨a5, m, c5, none, 0, 0, ra, rn, rc, oa, on, oc, (by rw [HE.out]; rfl), (by rw [HE.out]; exact HO.out), HB.out⟩

end Go.Proofs.Ytfefhilolhdonaa
