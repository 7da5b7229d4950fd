/-
  Packed: BrNewS BrBuild Box11 VtabPut FdbLearnS FdbSetS FdbRestS.
-/
import Derived.Test.YtfknffdlmcckkaaGreatPTKW
import Derived.Test.YtfknffdlmcckkaaGreatPTBrOkS
import Derived.Test.YtfknffdlmcckkaaGreatPTFdbPutT
import Derived.Test.YtfknffdlmcckkaaGreatPTK01
import Derived.Test.YtfknffdlmcckkaaGreatPTK02
import Derived.Test.YtfknffdlmcckkaaGreatPTK10
import Derived.Test.YtfknffdlmcckkaaGreatPTVtabRow
namespace Go.Proofs.YtfknffdlmcckkaaGreat
open Go.RowKit

def newPt : PT := ⟨false, 1, false, ⟨0, 0, 0, 0, 0⟩⟩
def zeroBr : BR := ⟨0, ByteArray.empty, [], [], ⟨[], []⟩, 0, 0, 0, 0, 0⟩
def bridgeNew (id : Int) (m : Nat) : BR := ⟨id, ByteArray.empty, List.replicate m newPt, [], vtabNew m, 0, 0, 0, 0, 0⟩

theorem BrOwn.boxed11 {w : World} {base : Nat} {a : Option Addr} {n c : Nat} {fa : Option Addr} {fn fc : Nat} {ra : Option Addr} {rn rc : Nat} {oa : Option Addr} {on oc : Nat} {B : BR} (h : BrOwn w base a n c fa fn fc ra rn rc oa on oc B) {X : Nat} {cs : Array Value} (hX : w.heap[X]? = some (.cells cs 31)) (u0 u1 u2 u3 u4 u5 u6 u7 u8 u9 u10 : Value) : BrOwn (((((((((((w.setCell ⟨X, 0, none⟩ u0).setCell ⟨X, 1, none⟩ u1).setCell ⟨X, 2, none⟩ u2).setCell ⟨X, 3, none⟩ u3).setCell ⟨X, 4, none⟩ u4).setCell ⟨X, 5, none⟩ u5).setCell ⟨X, 6, none⟩ u6).setCell ⟨X, 7, none⟩ u7).setCell ⟨X, 8, none⟩ u8).setCell ⟨X, 9, none⟩ u9).setCell ⟨X, 10, none⟩ u10) base a n c fa fn fc ra rn rc oa on oc B :=
 (BrOwn.boxed (BrOwn.boxed (BrOwn.boxed (BrOwn.boxed (BrOwn.boxed (BrOwn.boxed (BrOwn.boxed (BrOwn.boxed (BrOwn.boxed (BrOwn.boxed (BrOwn.boxed h hX 0 u0) (box11 hX 0 u0) 1 u1) (box11 (box11 hX 0 u0) 1 u1) 2 u2) (box11 (box11 (box11 hX 0 u0) 1 u1) 2 u2) 3 u3) (box11 (box11 (box11 (box11 hX 0 u0) 1 u1) 2 u2) 3 u3) 4 u4) (box11 (box11 (box11 (box11 (box11 hX 0 u0) 1 u1) 2 u2) 3 u3) 4 u4) 5 u5) (box11 (box11 (box11 (box11 (box11 (box11 hX 0 u0) 1 u1) 2 u2) 3 u3) 4 u4) 5 u5) 6 u6) (box11 (box11 (box11 (box11 (box11 (box11 (box11 hX 0 u0) 1 u1) 2 u2) 3 u3) 4 u4) 5 u5) 6 u6) 7 u7) (box11 (box11 (box11 (box11 (box11 (box11 (box11 (box11 hX 0 u0) 1 u1) 2 u2) 3 u3) 4 u4) 5 u5) 6 u6) 7 u7) 8 u8) (box11 (box11 (box11 (box11 (box11 (box11 (box11 (box11 (box11 hX 0 u0) 1 u1) 2 u2) 3 u3) 4 u4) 5 u5) 6 u6) 7 u7) 8 u8) 9 u9) (box11 (box11 (box11 (box11 (box11 (box11 (box11 (box11 (box11 (box11 hX 0 u0) 1 u1) 2 u2) 3 u3) 4 u4) 5 u5) 6 u6) 7 u7) 8 u8) 9 u9) 10 u10)

theorem below_set11 {K : Nat} {a w : World} (h : Below K a w) {g : Nat} (hB : K ≤ g) (u0 u1 u2 u3 u4 u5 u6 u7 u8 u9 u10 : Value) : Below K a (((((((((((w.setCell ⟨g, 0, none⟩ u0).setCell ⟨g, 1, none⟩ u1).setCell ⟨g, 2, none⟩ u2).setCell ⟨g, 3, none⟩ u3).setCell ⟨g, 4, none⟩ u4).setCell ⟨g, 5, none⟩ u5).setCell ⟨g, 6, none⟩ u6).setCell ⟨g, 7, none⟩ u7).setCell ⟨g, 8, none⟩ u8).setCell ⟨g, 9, none⟩ u9).setCell ⟨g, 10, none⟩ u10) :=
 (below_set (below_set (below_set (below_set (below_set (below_set (below_set (below_set (below_set (below_set (below_set h hB 0 u0) hB 1 u1) hB 2 u2) hB 3 u3) hB 4 u4) hB 5 u5) hB 6 u6) hB 7 u7) hB 8 u8) hB 9 u9) hB 10 u10)

theorem zeroBr_own (w : World) (base : Nat) : BrOwn w base none 0 0 none 0 0 none 0 0 none 0 0 zeroBr := ⟨World.ownsRow_nil _ _ _ _, World.ownsRow_nil _ _ _ _, vownNone w base⟩

set_option maxRecDepth 100000 in
set_option maxHeartbeats 4000000 in
theorem specBridgeNew_made (id : Int) (m : Nat) (w : World) (hid : (decide (1 ≤ id) && decide (id ≤ 99)) = true) (hm : (decide (1 ≤ (m : Int)) && decide ((m : Int) ≤ 6)) = true) :
  Calls Tryz.prog 28 #[.int .i64 id, .int .i64 m] w fun e w' => ∃ (a : Option Addr) (c : Nat) (ra : Option Addr) (rn rc : Nat) (oa : Option Addr) (on oc : Nat), e = .returned (.agg #[.int .i64 id, .string ⟨#[]⟩, .slice a m c, .slice none 0 0, .slice ra rn rc, .slice oa on oc, .int .i64 0, .int .i64 0, .int .i64 0, .int .i64 0, .int .i64 0]) ∧ BrOwn w' w.heap.size a m c none 0 0 ra rn rc oa on oc (bridgeNew id m) ∧ Below w.heap.size w w' := by
 have h6 : m ≤ 6 := by simp at hm; omega
 have HID := hide hid
 have HM := hide hm
 clear hid hm
 generalize hw1 : w.alloc (Obj.cells #[.int .i64 0, .string ⟨#[]⟩, .slice none 0 0, .slice none 0 0, .slice none 0 0, .slice none 0 0, .int .i64 0, .int .i64 0, .int .i64 0, .int .i64 0, .int .i64 0] 31) = w1
 have b1 : Below w.heap.size w w1 := by rw [← hw1]; exact below_one _ _
 have kR : w1.heap[w.heap.size]? = some (.cells #[.int .i64 0, .string ⟨#[]⟩, .slice none 0 0, .slice none 0 0, .slice none 0 0, .slice none 0 0, .int .i64 0, .int .i64 0, .int .i64 0, .int .i64 0, .int .i64 0] 31) := by rw [← hw1]; exact block_last _ _
 go_enter Tryz.func28, Tryz.ntmps28
 go_wp2_with fail
 refine (within_any id 1 99 _).mono ?_
 rintro r wx ⟨rfl, ew⟩
 obtain rfl := ew.symm
 rw [HID.out]
 go_wp2_with fail
 refine (within_any (m : Int) 1 6 _).mono ?_
 rintro r wx ⟨rfl, ew⟩
 obtain rfl := ew.symm
 rw [HM.out]
 go_wp2_with fail
 refine (specVtabNew_made (m : Int) _).mono ?_
 rintro r w2 ⟨ra, rn, rc, oa, on, oc, rfl, hv, hb2⟩
 have hv := hv.lt (base' := w.heap.size) b1.size
 have b2 := gr_trans b1 hb2
 have kR := kept_block kR hb2
 clear hw1 hb2 b1
 go_upto_region 4 with fail
 generalize hw3 : w2.alloc (Obj.cells #[.int .i64 id, .string ⟨#[]⟩, .slice none 0 0, .slice none 0 0, .slice ra rn rc, .slice oa on oc, .int .i64 0, .int .i64 0, .int .i64 0, .int .i64 0, .int .i64 0] 31) = w3
 have b3 : Below w2.heap.size w2 w3 := by rw [← hw3]; exact below_one _ _
 have kX : w3.heap[w2.heap.size]? = some (.cells #[.int .i64 id, .string ⟨#[]⟩, .slice none 0 0, .slice none 0 0, .slice ra rn rc, .slice oa on oc, .int .i64 0, .int .i64 0, .int .i64 0, .int .i64 0, .int .i64 0] 31) := by rw [← hw3]; exact block_last _ _
 have kR := kept_block kR b3
 have o3 : BrOwn w3 w.heap.size none 0 0 none 0 0 ra rn rc oa on oc { bridgeNew id m with ports := List.replicate 0 newPt } := ⟨World.ownsRow_nil _ _ _ _, World.ownsRow_nil _ _ _ _, hv.below b3⟩
 have HX : Hid (w.heap.size < w2.heap.size) := hide (Array.getElem?_eq_some_iff.1 (show w2.heap[w.heap.size]? = some (.cells #[.int .i64 0, .string ⟨#[]⟩, .slice none 0 0, .slice none 0 0, .slice none 0 0, .slice none 0 0, .int .i64 0, .int .i64 0, .int .i64 0, .int .i64 0, .int .i64 0] 31) from by assumption)).1
 have b3 := gr_trans b2 b3
 clear hw3 b2 hv
 go_wp2_with fail
 go_loopw [6] (fun i wr => ∃ (k : Nat) (a : Option Addr) (c : Nat), k ≤ m ∧ i = .int .i64 k ∧ wr.heap[w.heap.size]? = some (.cells #[.int .i64 0, .string ⟨#[]⟩, .slice none 0 0, .slice none 0 0, .slice none 0 0, .slice none 0 0, .int .i64 0, .int .i64 0, .int .i64 0, .int .i64 0, .int .i64 0] 31) ∧ wr.heap[w2.heap.size]? = some (.cells #[.int .i64 id, .string ⟨#[]⟩, .slice a k c, .slice none 0 0, .slice ra rn rc, .slice oa on oc, .int .i64 0, .int .i64 0, .int .i64 0, .int .i64 0, .int .i64 0] 31) ∧ BrOwn wr w.heap.size a k c none 0 0 ra rn rc oa on oc { bridgeNew id m with ports := List.replicate k newPt } ∧ Below w.heap.size w wr) (fun i _ => m - (intOf i).toNat)
 case atStart => exact ⟨0, none, 0, Nat.zero_le _, rfl, kR, kX, o3, b3⟩
 case round =>
  obtain ⟨k, a, c, hk, rfl, kR, kX, o, hb⟩ := hrel
  clear o3 b3
  obtain ⟨x0, x1, x2, x3, x4, x5, x6, x7, x8, x9, x10⟩ := cells11 kX
  by_cases hlt : k < m
  ·have b9 := below_one wr (.cells #[.bool false, .int .i64 1, .bool false, .int .i64 0, .int .i64 0, .int .i64 0, .int .i64 0, .int .i64 0] 44)
   have o9 := o.below b9
   have p9 := o9.ports
   have kX9 := kept_block kX b9
   have kR9 := kept_block kR b9
   have HB9 := hide (gr_trans hb b9)
   have hbase9 : w.heap.size ≤ (wr.alloc (.cells #[.bool false, .int .i64 1, .bool false, .int .i64 0, .int .i64 0, .int .i64 0, .int .i64 0, .int .i64 0] 44)).heap.size := HB9.out.size
   have HO9 := hide o9
   have KX9 := hide kX9
   have KR9 := hide kR9
   clear hb b9 o9 kX9 kR9 o kX kR
   go_wp2_with (at_builtin; refine pt_append _ rfl _ _ rfl w.heap.size _ k (List.replicate k newPt) rfl p9 _ 1 1 [newPt] rfl (grow_one ptF _ newPt _ _ rfl) (by omega) hbase9 ?_)
   rintro a' c' wz oz - gz bz
   have kz := kept_grown KX9.out gz (fun i e => box_ne HO9.out.ports KX9.out (by decide) i e)
   have rz := kept_grown KR9.out gz (fun i e => box_ne HO9.out.ports KR9.out (by decide) i e)
   have hrep : List.replicate k newPt ++ [newPt] = List.replicate (k + 1) newPt := by rw [List.replicate_succ']
   rw [hrep] at oz
   have on := HO9.out.newPorts gz oz
   have HON := hide (BrOwn.boxed on kz 2 (.slice a' (k + 1) c'))
   have HKX := hide (box11 kz 2 (.slice a' (k + 1) c'))
   have HKR : Hid ((wz.setCell ⟨w2.heap.size, 2, none⟩ (.slice a' (k + 1) c')).heap[w.heap.size]? = some (.cells #[.int .i64 0, .string ⟨#[]⟩, .slice none 0 0, .slice none 0 0, .slice none 0 0, .slice none 0 0, .int .i64 0, .int .i64 0, .int .i64 0, .int .i64 0, .int .i64 0] 31)) := hide (kept_set rz (Nat.ne_of_lt HX.out))
   have HBZ := hide (below_set (g := w2.heap.size) (HB9.out.trans bz) (Nat.le_of_lt HX.out) 2 (.slice a' (k + 1) c'))
   have fz := frozen8 kz 2
   obtain ⟨-, -, y2, -⟩ := cells11 kz
   clear x0 x1 x2 x3 x4 x5 x6 x7 x8 x9 x10 kz rz gz bz oz on p9 hbase9
   go_wp2
   go_roundw
   case rel => exact ⟨k + 1, a', c', by omega, by go_num, HKR.out, HKX.out, HON.out, HBZ.out⟩
   case measure => simp [intOf]; omega
  ·have hkm : k = m := by omega
   subst hkm
   obtain ⟨z0, z1, z2, z3, z4, z5, z6, z7, z8, z9, z10⟩ := cells11 kR
   have f0 := frozen8 kR
   have ne1 : ¬ w2.heap.size = w.heap.size := by have := HX.out; omega
   have ne2 : ¬ w.heap.size = w2.heap.size := by have := HX.out; omega
   have HO := hide (o.boxed11 kR (.int .i64 id) (.string ⟨#[]⟩) (.slice a k c) (.slice none 0 0) (.slice ra rn rc) (.slice oa on oc) (.int .i64 0) (.int .i64 0) (.int .i64 0) (.int .i64 0) (.int .i64 0))
   have HB := hide (below_set11 hb (Nat.le_refl w.heap.size) (.int .i64 id) (.string ⟨#[]⟩) (.slice a k c) (.slice none 0 0) (.slice ra rn rc) (.slice oa on oc) (.int .i64 0) (.int .i64 0) (.int .i64 0) (.int .i64 0) (.int .i64 0))
   clear o hb kX kR
   go_wp2
   exact bodyPost_ret (v := .agg #[.int .i64 id, .string ⟨#[]⟩, .slice a k c, .slice none 0 0, .slice ra rn rc, .slice oa on oc, .int .i64 0, .int .i64 0, .int .i64 0, .int .i64 0, .int .i64 0]) (by simp [results, Tryz.results28, go_sem, *]) rfl ⟨a, c, ra, rn, rc, oa, on, oc, rfl, HO.out, HB.out⟩

structure BcSt (w wr : World) (R X : Nat) (cs : Array Value) : Prop where
 box : wr.heap[X]? = some (.cells cs 31)
 res : wr.heap[R]? = some (.cells #[.int .i64 0, .string ⟨#[]⟩, .slice none 0 0, .slice none 0 0, .slice none 0 0, .slice none 0 0, .int .i64 0, .int .i64 0, .int .i64 0, .int .i64 0, .int .i64 0] 31)
 below : Below w.heap.size w wr
 hX : w.heap.size ≤ X
 hR : w.heap.size ≤ R
 ne : R ≠ X

theorem BcSt.later {w wr wx : World} {R X : Nat} {cs : Array Value} (h : BcSt w wr R X cs) (hb : Below wr.heap.size wr wx) : BcSt w wx R X cs :=
 ⟨kept_block h.box hb, kept_block h.res hb, gr_trans h.below hb, h.hX, h.hR, h.ne⟩

theorem BcSt.put {w wr : World} {R X : Nat} {cs : Array Value} (h : BcSt w wr R X cs) (j : Nat) (u : Value) {cs' : Array Value} (he : cs.setIfInBounds j u = cs') : BcSt w (wr.setCell ⟨X, j, none⟩ u) R X cs' :=
 ⟨by rw [← he]; exact box11 h.box j u, kept_set h.res h.ne, below_set h.below h.hX j u, h.hX, h.hR, h.ne⟩

theorem BcSt.grown {w wr wx : World} {R X : Nat} {cs : Array Value} (h : BcSt w wr R X cs) {base k : Nat} {e : TypeId} {v : Value} {n : Nat} {xs : List Value} (ho : wr.ownsRow base e k v n xs) (hne : (e : Nat) ≠ 31) (hg : wr.grownBy wx v.ownBlock) (hb : Below w.heap.size wr wx) : BcSt w wx R X cs :=
 ⟨kept_grown h.box hg (fun i e => box_ne ho h.box hne i e), kept_grown h.res hg (fun i e => box_ne ho h.res hne i e), h.below.trans hb, h.hX, h.hR, h.ne⟩

theorem BcSt.stay {w wr : World} {R X : Nat} {cs : Array Value} (h : BcSt w wr R X cs) {base k : Nat} {e : TypeId} {v : Value} {n : Nat} {xs : List Value} (ho : wr.ownsRow base e k v n xs) (hne : (e : Nat) ≠ 31) (j : Nat) (u : Value) : (wr.setCell ⟨X, j, none⟩ u).ownsRow base e k v n xs :=
 gown_other ho (grown_set (rb := X) j u) (box_ne ho h.box hne)

theorem BcSt.out {w wr : World} {R X : Nat} {cs : Array Value} (h : BcSt w wr R X cs) {base : Nat} {a : Option Addr} {n c : Nat} {fa : Option Addr} {fn fc : Nat} {ra : Option Addr} {rn rc : Nat} {oa : Option Addr} {on oc : Nat} {B : BR} (ho : BrOwn wr base a n c fa fn fc ra rn rc oa on oc B) (u0 u1 u2 u3 u4 u5 u6 u7 u8 u9 u10 : Value) : BrOwn (((((((((((wr.setCell ⟨R, 0, none⟩ u0).setCell ⟨R, 1, none⟩ u1).setCell ⟨R, 2, none⟩ u2).setCell ⟨R, 3, none⟩ u3).setCell ⟨R, 4, none⟩ u4).setCell ⟨R, 5, none⟩ u5).setCell ⟨R, 6, none⟩ u6).setCell ⟨R, 7, none⟩ u7).setCell ⟨R, 8, none⟩ u8).setCell ⟨R, 9, none⟩ u9).setCell ⟨R, 10, none⟩ u10) base a n c fa fn fc ra rn rc oa on oc B ∧ Below w.heap.size w (((((((((((wr.setCell ⟨R, 0, none⟩ u0).setCell ⟨R, 1, none⟩ u1).setCell ⟨R, 2, none⟩ u2).setCell ⟨R, 3, none⟩ u3).setCell ⟨R, 4, none⟩ u4).setCell ⟨R, 5, none⟩ u5).setCell ⟨R, 6, none⟩ u6).setCell ⟨R, 7, none⟩ u7).setCell ⟨R, 8, none⟩ u8).setCell ⟨R, 9, none⟩ u9).setCell ⟨R, 10, none⟩ u10) :=
 ⟨ho.boxed11 h.res u0 u1 u2 u3 u4 u5 u6 u7 u8 u9 u10, below_set11 h.below h.hR u0 u1 u2 u3 u4 u5 u6 u7 u8 u9 u10⟩

theorem kept_set11 {w : World} {i g : Nat} {o : Obj} (h : w.heap[i]? = some o) (hne : i ≠ g) (u0 u1 u2 u3 u4 u5 u6 u7 u8 u9 u10 : Value) : (((((((((((w.setCell ⟨g, 0, none⟩ u0).setCell ⟨g, 1, none⟩ u1).setCell ⟨g, 2, none⟩ u2).setCell ⟨g, 3, none⟩ u3).setCell ⟨g, 4, none⟩ u4).setCell ⟨g, 5, none⟩ u5).setCell ⟨g, 6, none⟩ u6).setCell ⟨g, 7, none⟩ u7).setCell ⟨g, 8, none⟩ u8).setCell ⟨g, 9, none⟩ u9).setCell ⟨g, 10, none⟩ u10).heap[i]? = some o :=
 (kept_set (j := 10) (u := u10) (kept_set (j := 9) (u := u9) (kept_set (j := 8) (u := u8) (kept_set (j := 7) (u := u7) (kept_set (j := 6) (u := u6) (kept_set (j := 5) (u := u5) (kept_set (j := 4) (u := u4) (kept_set (j := 3) (u := u3) (kept_set (j := 2) (u := u2) (kept_set (j := 1) (u := u1) (kept_set (j := 0) (u := u0) h hne) hne) hne) hne) hne) hne) hne) hne) hne) hne) hne)

theorem set_box11B {w : World} {X : Nat} {c0 c1 c2 c3 c4 c5 c6 c7 c8 c9 c10 : Value} {T : TypeId} (h : w.heap[X]? = some (.cells #[c0, c1, c2, c3, c4, c5, c6, c7, c8, c9, c10] T)) (u0 u1 u2 u3 u4 u5 u6 u7 u8 u9 u10 : Value) : (((((((((((w.setCell ⟨X, 0, none⟩ u0).setCell ⟨X, 1, none⟩ u1).setCell ⟨X, 2, none⟩ u2).setCell ⟨X, 3, none⟩ u3).setCell ⟨X, 4, none⟩ u4).setCell ⟨X, 5, none⟩ u5).setCell ⟨X, 6, none⟩ u6).setCell ⟨X, 7, none⟩ u7).setCell ⟨X, 8, none⟩ u8).setCell ⟨X, 9, none⟩ u9).setCell ⟨X, 10, none⟩ u10).heap[X]? = some (.cells #[u0, u1, u2, u3, u4, u5, u6, u7, u8, u9, u10] T) := by
 have h' := (box11 (box11 (box11 (box11 (box11 (box11 (box11 (box11 (box11 (box11 (box11 h 0 u0) 1 u1) 2 u2) 3 u3) 4 u4) 5 u5) 6 u6) 7 u7) 8 u8) 9 u9) 10 u10)
 simp only [lA, lB, lC] at h'
 exact h'

theorem made_set11 {W : World} {X : Nat} {c0 c1 c2 c3 c4 c5 c6 c7 c8 c9 c10 : Value} {T : TypeId} {K : World → Prop} (hk : W.heap[X]? = some (.cells #[c0, c1, c2, c3, c4, c5, c6, c7, c8, c9, c10] T)) (u0 u1 u2 u3 u4 u5 u6 u7 u8 u9 u10 : Value) (h : ∀ wq, wq.heap[X]? = some (.cells #[u0, u1, u2, u3, u4, u5, u6, u7, u8, u9, u10] T) → W.grownBy wq (some X) → K wq) : K (((((((((((W.setCell ⟨X, 0, none⟩ u0).setCell ⟨X, 1, none⟩ u1).setCell ⟨X, 2, none⟩ u2).setCell ⟨X, 3, none⟩ u3).setCell ⟨X, 4, none⟩ u4).setCell ⟨X, 5, none⟩ u5).setCell ⟨X, 6, none⟩ u6).setCell ⟨X, 7, none⟩ u7).setCell ⟨X, 8, none⟩ u8).setCell ⟨X, 9, none⟩ u9).setCell ⟨X, 10, none⟩ u10) :=
 h _ (set_box11B hk u0 u1 u2 u3 u4 u5 u6 u7 u8 u9 u10) (grownTr (grownTr (grownTr (grownTr (grownTr (grownTr (grownTr (grownTr (grownTr (grownTr (grown_set _ _) (grown_set _ _)) (grown_set _ _)) (grown_set _ _)) (grown_set _ _)) (grown_set _ _)) (grown_set _ _)) (grown_set _ _)) (grown_set _ _)) (grown_set _ _)) (grown_set _ _))

theorem BrOwn.grownBox {w w' : World} {base : Nat} {a : Option Addr} {n c : Nat} {fa : Option Addr} {fn fc : Nat} {ra : Option Addr} {rn rc : Nat} {oa : Option Addr} {on oc : Nat} {B : BR} (h : BrOwn w base a n c fa fn fc ra rn rc oa on oc B) {X : Nat} {cs : Array Value} (hX : w.heap[X]? = some (.cells cs 31)) (hg : w.grownBy w' (some X)) : BrOwn w' base a n c fa fn fc ra rn rc oa on oc B :=
 ⟨gown_other h.ports hg (box_ne h.ports hX (by decide)), gown_other h.f hg (box_ne h.f hX (by decide)), ⟨gown_other h.v.rows hg (box_ne h.v.rows hX (by decide)), gown_other h.v.own hg (box_ne h.v.own hX (by decide)), h.v.i64⟩⟩

def putRow (v : VT) (r : VR) : VT × Bool := if vtabOk v v.own.length then orV ⟨putRowF v.rows r false, v.own⟩ v else (v, false)

set_option maxRecDepth 100000 in
set_option maxHeartbeats 4000000 in
theorem specPutRow_made (a : Option Addr) (n c : Nat) (o : Option Addr) (p q : Nat) (v : VT) (r : VR) (w : World) (h : VTab w a n c o p q v) (hn : n ≤ 16777216) (hp : p ≤ 16777216) :
  Calls Tryz.prog 116 #[.agg #[.slice a n c, .slice o p q], .agg #[.int .i64 r.i, .int .i64 r.m, .int .i64 r.b]] w fun e w' => ∃ a' n' c' o' p' q', e = .returned (.tuple #[.agg #[.slice a' n' c', .slice o' p' q'], .bool (putRow v r).2]) ∧ VOwn w' w.heap.size a' n' c' o' p' q' (putRow v r).1 ∧ Below w.heap.size w w' := by
 generalize hw1 : w.alloc (Obj.cells #[Value.slice a n c, Value.slice o p q] 29) = w1
 generalize hw2 : w1.alloc (Obj.cells #[Value.int .i64 r.i, Value.int .i64 r.m, Value.int .i64 r.b] 81) = w2
 generalize hw3 : w2.alloc (Obj.cells #[Value.slice none 0 0, Value.slice none 0 0] 29) = w3
 have b01 : Below w.heap.size w w1 := by subst hw1; exact below_one _ _
 have b12 : Below w1.heap.size w1 w2 := by subst hw2; exact below_one _ _
 have b23 : Below w2.heap.size w2 w3 := by subst hw3; exact below_one _ _
 have b13 := gr_trans b12 b23
 have b03 := gr_trans b01 b13
 have k2 : w3.heap[w2.heap.size]? = some (.cells #[.slice none 0 0, .slice none 0 0] 29) := by rw [← hw3]; exact block_last _ _
 have z3 : Hid (w2.heap.size < w3.heap.size) := hide (by rw [← hw3]; simp)
 obtain ⟨e0, e0x⟩ := box_two hw1 b12
 have kr : w2.heap[w1.heap.size]? = some (.cells #[.int .i64 r.i, .int .i64 r.m, .int .i64 r.b] 81) := by rw [← hw2]; exact block_last _ _
 obtain ⟨⟨e1, e2, e3⟩, -⟩ := cells3 kr
 have hb1 := box_two hw1 b13
 have h3 := h.below b03
 have hl := h.own.size
 unfold putRow
 rw [hl]
 cases hok : vtabOk v p
 ·rw [if_neg Bool.false_ne_true]
  go_enter Tryz.func116, Tryz.ntmps116
  go_wp2_with (refine (specVtabOk_any a n c o p q v (p : Int) _ h3).mono ?_; rintro e w4 ⟨rfl, hb4⟩; rw [hok]; have hc1 := box_two hw1 (gr_trans b13 hb4))
  go_wp2_with (refine (specCopyV_made a n c o p q v _ (h3.below hb4) hn hp).mono ?_; rintro e w5 ⟨a', c', o', q', rfl, hO, hb5⟩; obtain ⟨⟨g0, g1⟩, f0, f1⟩ := cells2 (kept_block k2 (gr_trans hb4 hb5)))
  have hbW : Below w.heap.size w ((w5.setCell ⟨w2.heap.size, 0, none⟩ (.slice a' n c')).setCell ⟨w2.heap.size, 1, none⟩ (.slice o' p q')) := below_set (below_set (gr_trans b03 (gr_trans hb4 hb5)) (gr_trans b01 b12).size _ _) (gr_trans b01 b12).size _ _
  have hO' := (hO.set2 (g := w2.heap.size) (by have := hb4.size; have := z3.out; omega) (.slice a' n c') (.slice o' p q')).lt (base' := w.heap.size) (by have := hb4.size; have := b03.size; omega)
  have HO := hide hO'
  clear hO hO'
  exact bodyPost_ret (v := .tuple #[.agg #[.slice a' n c', .slice o' p q'], .bool false]) (by simp [results, Tryz.results116, go_sem, *]) rfl ⟨_, _, _, _, _, _, rfl, HO.out, hbW⟩
 ·rw [if_pos rfl]
  go_enter Tryz.func116, Tryz.ntmps116
  go_wp2_with (refine (specVtabOk_any a n c o p q v (p : Int) _ h3).mono ?_; rintro e w4 ⟨rfl, hb4⟩; rw [hok])
  have vv : Below w3.heap.size w3 w4.drew := gr_drew hb4
  have vb : Below w2.heap.size w2 w4.drew := gr_trans b23 vv
  refine wp_region_held_drew (S := (fun W => W.cell? ⟨w.heap.size, 0, none⟩ = some (.slice a n c) ∧ W.cell? ⟨w.heap.size, 1, none⟩ = some (.slice o p q) ∧ W.cell? ⟨w1.heap.size, 0, none⟩ = some (.int .i64 r.i) ∧ W.cell? ⟨w1.heap.size, 1, none⟩ = some (.int .i64 r.m) ∧ W.cell? ⟨w1.heap.size, 2, none⟩ = some (.int .i64 r.b))) (by kernel_rfl) (⟨kept_cell e0 vb, kept_cell e0x vb, kept_cell e1 vb, kept_cell e2 vb, kept_cell e3 vb⟩) (fun hHeld => ?_)
  refine kK 0 ⟨some 14, .load 29 (.tmp 2), 29, "l09_vlan.go:113", #[], none⟩ ?_
  refine kK 1 ⟨some 15, .load 81 (.tmp 3), 81, "l09_vlan.go:113", #[], none⟩ ?_
  refine kK 3 ⟨some 17, .load 29 (.tmp 2), 29, "l09_vlan.go:113", #[], none⟩ ?_
  refine tR [2] ?_
  refine AllReadyH.cons (o := ⟨some 16, .call ⟨.value (.func 121), #[.tmp 14, .tmp 15], #[29, 81]⟩, 29, "l09_vlan.go:113", #[⟨0, .data⟩, ⟨1, .data⟩], none⟩) rfl (fun K hK => ?_) ?_
  ·go_simp
   refine (specRow_made a n c o p q v r _ (h3.below vv) hn hp).mono ?_
   rintro e w5 ⟨a5, n5, c5, o5, q5, rfl, hO5, hb5⟩
   have hO5 := hO5.lt (base' := w3.heap.size) vv.size
   have vv := gr_trans vv hb5
   have vb := gr_trans vb hb5
   go_wp2_with fail
   refine hK.out _ _ (⟨kept_cell e0 vb, kept_cell e0x vb, kept_cell e1 vb, kept_cell e2 vb, kept_cell e3 vb⟩) (fun hHeld => ?_)
   clear hK K
   try simp only [Act.put, lA, lB, lC]
   refine tR [4] ?_
   refine AllReadyH.cons (o := ⟨some 18, .call ⟨.value (.func 135), #[.tmp 16, .tmp 17], #[29, 29]⟩, 140, "l09_vlan.go:113", #[⟨2, .data⟩, ⟨3, .data⟩, ⟨2, .chain⟩], none⟩) rfl (fun K hK => ?_) ?_
   ·go_simp
    refine (specOr_made w3.heap.size a5 n5 c5 o5 p q5 _ a n c o p q v _ hO5 (h3.below vv) hn hp vv.size).mono ?_
    rintro e w6 ⟨a6, n6, c6, o6, p6, q6, rfl, hO6, hb6⟩
    have vv := gr_trans vv hb6
    have vb := gr_trans vb hb6
    clear hO5
    go_wp2_with fail
    refine hK.out _ _ (⟨kept_cell e0 vb, kept_cell e0x vb, kept_cell e1 vb, kept_cell e2 vb, kept_cell e3 vb⟩) (fun hHeld => ?_)
    clear hK K
    try simp only [Act.put, lA, lB, lC]
    refine kK 5 ⟨some 19, .extract (.tmp 18) 0, 29, "l09_vlan.go:113", #[⟨4, .data⟩], none⟩ ?_
    refine kK 6 ⟨some 20, .extract (.tmp 18) 1, 4, "l09_vlan.go:113", #[⟨4, .data⟩], none⟩ ?_
    refine tR [7] ?_
    refine AllReadyH.cons (o := ⟨none, .store 29 (.tmp 4) (.tmp 19), 0, "l09_vlan.go:113", #[⟨5, .data⟩, ⟨4, .chain⟩, ⟨0, .phase⟩, ⟨1, .phase⟩, ⟨2, .phase⟩, ⟨3, .phase⟩, ⟨4, .phase⟩, ⟨5, .phase⟩, ⟨6, .phase⟩], none⟩) rfl (fun K hK => ?_) ?_
    ·obtain ⟨⟨g0, g1⟩, f0, f1⟩ := cells2 (kept_block k2 vv)
     go_simp
     have vb := below_set (below_set vb (Nat.le_refl _) 0 (.slice a6 n6 c6)) (Nat.le_refl _) 1 (.slice o6 p6 q6)
     have hO6 := hO6.set2 (g := w2.heap.size) z3.out (.slice a6 n6 c6) (.slice o6 p6 q6)
     refine hK.out _ _ (⟨kept_cell e0 vb, kept_cell e0x vb, kept_cell e1 vb, kept_cell e2 vb, kept_cell e3 vb⟩) (fun hHeld => ?_)
     clear hK K
     try simp only [Act.put, lA, lB, lC]
     refine kK 8 ⟨some 5, .assign (.tmp 20), 4, "l09_vlan.go:113", #[⟨6, .data⟩, ⟨7, .chain⟩, ⟨0, .phase⟩, ⟨1, .phase⟩, ⟨2, .phase⟩, ⟨3, .phase⟩, ⟨4, .phase⟩, ⟨5, .phase⟩, ⟨6, .phase⟩, ⟨7, .phase⟩], none⟩ ?_
     refine wpAnyH_done (by kernel_rfl) ?_ _
     have HO := hide (hO6.lt (base' := w.heap.size) b03.size)
     have HB := hide (gr_trans (gr_trans b01 b12) vb)
     clear hO6
     go_wp2
     exact bodyPost_ret (v := .tuple #[.agg #[.slice a6 n6 c6, .slice o6 p6 q6], .bool (orV ⟨putRowF v.rows r false, v.own⟩ v).2]) (by simp [results, Tryz.results116, go_sem, *]) rfl ⟨_, _, _, _, _, _, rfl, HO.out, HB.out⟩
    exact AllReadyH.nil
   exact AllReadyH.nil
  exact AllReadyH.nil

theorem at_look (l : List FE) (t m : Int) : (∃ (i : Nat) (x : FE), atF l t m = i ∧ i < l.length ∧ l[i]? = some x ∧ lookE l t m = some x) ∨ (atF l t m = -1 ∧ lookE l t m = none) := by
 cases hf : l.findIdx? (fun e => both e t m) with
 | none =>
  refine .inr ⟨by unfold atF; rw [hf], ?_⟩
  rw [List.findIdx?_eq_none_iff] at hf
  exact look_none.2 (fun e he hb => by have := hf e he; rw [both_iff.2 hb] at this; cases this)
 | some i =>
  obtain ⟨hi, hp, hno⟩ := List.findIdx?_eq_some_iff_getElem.1 hf
  refine .inl ⟨i, l[i], by unfold atF; rw [hf], hi, List.getElem?_eq_getElem hi, ?_⟩
  unfold lookE
  rw [List.find?_eq_some_iff_getElem]
  exact ⟨hp, i, hi, rfl, fun j hj => by simpa using hno j hj⟩

set_option maxRecDepth 100000 in
set_option maxHeartbeats 4000000 in
theorem specLearn_any (ao : Option Addr) (n cap : Nat) (l : List FE) (t m p : Int) (w : World) (h : GRow fentF w ao n cap l) (hn : n ≤ 16777216) :
  Calls Tryz.prog 75 #[.slice ao n cap, .int .i64 t, .int .i64 m, .int .i64 p] w fun r w' => ∃ ao' cap', r = .returned (.slice ao' (learnF l t m p).length cap') ∧ w'.ownsRow w.heap.size 49 5 (.slice ao' (learnF l t m p).length cap') (learnF l t m p).length (fentF.all (learnF l t m p)) ∧ GRow fentF w' ao' (learnF l t m p).length cap' (learnF l t m p) ∧ Below w.heap.size w w' := by
 have q0 := below_one w (.cells #[.int .i64 t, .int .i64 m, .int .i64 p, .int .i64 0, .bool false] 49)
 have k0 := block_last w (.cells #[.int .i64 t, .int .i64 m, .int .i64 p, .int .i64 0, .bool false] 49)
 obtain rfl := h.size
 have hla := at_look l t m
 cases hc : canLearn l t m p
 ·rw [show learnF l t m p = l by unfold learnF; rw [hc]; rfl]
  unfold canLearn at hc
  cases h1 : fdbOk l
  ·have H1 := hide h1
   clear hc h1
   go_enter Tryz.func75, Tryz.ntmps75
   go_wp2_with fail
   generalize w.alloc (.cells #[.int .i64 t, .int .i64 m, .int .i64 p, .int .i64 0, .bool false] 49) = wb at *
   refine (specAt_any _ _ _ l t m _ (h.below q0)).mono ?_
   rintro r w1 ⟨rfl, rfl⟩
   go_wp2_with fail
   refine (specFdbOk_any _ _ _ l _ (h.below q0)).mono ?_
   rintro r wx ⟨rfl, hbx⟩
   rw [H1.out]
   have bx := gr_trans q0 hbx
   clear hbx
   go_wp2_with fail
   refine (specCopyF_any _ _ _ l _ (h.below bx) hn).mono ?_
   rintro r w9 ⟨ao9, cap9, rfl, ho9, hr9, hb9⟩
   have HO := hide (gown_lt ho9 (base' := w.heap.size) bx.size)
   have HR := hide hr9
   have HB := hide (gr_trans bx hb9)
   clear ho9 hr9 hb9 bx
   go_wp2
   go_ret
   exact ⟨_, _, rfl, HO.out, HR.out, HB.out⟩
  ·cases h2 : entOk (⟨t, m, p, 0, false⟩ : FE)
   ·have H1 := hide h1
    have H2 := hide h2
    clear hc h1 h2
    go_enter Tryz.func75, Tryz.ntmps75
    go_wp2_with fail
    generalize w.alloc (.cells #[.int .i64 t, .int .i64 m, .int .i64 p, .int .i64 0, .bool false] 49) = wb at *
    refine (specAt_any _ _ _ l t m _ (h.below q0)).mono ?_
    rintro r w1 ⟨rfl, rfl⟩
    go_wp2_with fail
    refine (specFdbOk_any _ _ _ l _ (h.below q0)).mono ?_
    rintro r wy ⟨rfl, hby⟩
    rw [H1.out]
    obtain ⟨⟨x0, x1, x2, x3, x4⟩, -⟩ := cells5 (kept_block k0 hby)
    go_wp2_with fail
    refine (specEnt_any (⟨t, m, p, 0, false⟩ : FE) _).mono ?_
    rintro r wx ⟨rfl, hbx⟩
    rw [H2.out]
    have bx := gr_trans q0 (gr_trans hby hbx)
    clear hby hbx x0 x1 x2 x3 x4
    go_wp2_with fail
    refine (specCopyF_any _ _ _ l _ (h.below bx) hn).mono ?_
    rintro r w9 ⟨ao9, cap9, rfl, ho9, hr9, hb9⟩
    have HO := hide (gown_lt ho9 (base' := w.heap.size) bx.size)
    have HR := hide hr9
    have HB := hide (gr_trans bx hb9)
    clear ho9 hr9 hb9 bx
    go_wp2
    go_ret
    exact ⟨_, _, rfl, HO.out, HR.out, HB.out⟩
   ·rw [h1, h2, Bool.true_and, Bool.true_and] at hc
    have H1 := hide h1
    have H2 := hide h2
    clear h1 h2
    rcases hla with ⟨i, x, hat, hi, hx, hlk⟩ | ⟨hat, hlk⟩
    ·rw [hlk] at hc
     have hs : x.s = true := by simpa using hc
     have HAT := hide hat
     have hat1 : (i : Int) ≥ 0 := by omega
     have hat2 : ¬ (i : Int) < 0 := by omega
     clear hc hat
     go_enter Tryz.func75, Tryz.ntmps75
     go_wp2_with fail
     generalize w.alloc (.cells #[.int .i64 t, .int .i64 m, .int .i64 p, .int .i64 0, .bool false] 49) = wb at *
     refine (specAt_any _ _ _ l t m _ (h.below q0)).mono ?_
     rintro r w1 ⟨rfl, rfl⟩
     rw [HAT.out]
     go_wp2_with fail
     refine (specFdbOk_any _ _ _ l _ (h.below q0)).mono ?_
     rintro r wy ⟨rfl, hby⟩
     rw [H1.out]
     obtain ⟨⟨x0, x1, x2, x3, x4⟩, -⟩ := cells5 (kept_block k0 hby)
     go_wp2_with fail
     refine (specEnt_any (⟨t, m, p, 0, false⟩ : FE) _).mono ?_
     rintro r wx ⟨rfl, hbx⟩
     rw [H2.out]
     have bx := gr_trans q0 (gr_trans hby hbx)
     obtain ⟨x', b, off, hx', rfl, -, -, -, -, c4⟩ := fent_at (h.below bx) i hi
     rw [hx] at hx'
     cases hx'
     rw [hs] at c4
     clear hby hbx x0 x1 x2 x3 x4
     go_wp2_with fail
     refine (specCopyF_any _ _ _ l _ (h.below bx) hn).mono ?_
     rintro r w9 ⟨ao9, cap9, rfl, ho9, hr9, hb9⟩
     have HO := hide (gown_lt ho9 (base' := w.heap.size) bx.size)
     have HR := hide hr9
     have HB := hide (gr_trans bx hb9)
     clear ho9 hr9 hb9 bx
     go_wp2
     go_ret
     exact ⟨_, _, rfl, HO.out, HR.out, HB.out⟩
    ·rw [hlk] at hc
     have hlen : ¬ l.length < 12 := by simpa using hc
     have HAT := hide hat
     clear hc hat
     go_enter Tryz.func75, Tryz.ntmps75
     go_wp2_with fail
     generalize w.alloc (.cells #[.int .i64 t, .int .i64 m, .int .i64 p, .int .i64 0, .bool false] 49) = wb at *
     refine (specAt_any _ _ _ l t m _ (h.below q0)).mono ?_
     rintro r w1 ⟨rfl, rfl⟩
     rw [HAT.out]
     go_wp2_with fail
     refine (specFdbOk_any _ _ _ l _ (h.below q0)).mono ?_
     rintro r wy ⟨rfl, hby⟩
     rw [H1.out]
     obtain ⟨⟨x0, x1, x2, x3, x4⟩, -⟩ := cells5 (kept_block k0 hby)
     go_wp2_with fail
     refine (specEnt_any (⟨t, m, p, 0, false⟩ : FE) _).mono ?_
     rintro r wx ⟨rfl, hbx⟩
     rw [H2.out]
     have bx := gr_trans q0 (gr_trans hby hbx)
     have i5 : (12 : Int) ≤ (l.length : Int) := by omega
     clear hby hbx x0 x1 x2 x3 x4
     go_wp2_with fail
     refine (specCopyF_any _ _ _ l _ (h.below bx) hn).mono ?_
     rintro r w9 ⟨ao9, cap9, rfl, ho9, hr9, hb9⟩
     have HO := hide (gown_lt ho9 (base' := w.heap.size) bx.size)
     have HR := hide hr9
     have HB := hide (gr_trans bx hb9)
     clear ho9 hr9 hb9 bx
     go_wp2
     go_ret
     exact ⟨_, _, rfl, HO.out, HR.out, HB.out⟩
 ·rw [show learnF l t m p = putF8 (⟨t, m, p, 0, false⟩ : FE) l by unfold learnF; rw [hc]; rfl]
  unfold canLearn at hc
  simp only [Bool.and_eq_true] at hc
  obtain ⟨h1, h2, h3⟩ := hc
  have H1 := hide h1
  have H2 := hide h2
  clear h1 h2
  rcases hla with ⟨i, x, hat, hi, hx, hlk⟩ | ⟨hat, hlk⟩
  ·rw [hlk] at h3
   have hs : x.s = false := by simpa using h3
   have HAT := hide hat
   have hat1 : (i : Int) ≥ 0 := by omega
   have hat2 : ¬ (i : Int) < 0 := by omega
   clear h3 hat
   go_enter Tryz.func75, Tryz.ntmps75
   go_wp2_with fail
   generalize w.alloc (.cells #[.int .i64 t, .int .i64 m, .int .i64 p, .int .i64 0, .bool false] 49) = wb at *
   refine (specAt_any _ _ _ l t m _ (h.below q0)).mono ?_
   rintro r w1 ⟨rfl, rfl⟩
   rw [HAT.out]
   go_wp2_with fail
   refine (specFdbOk_any _ _ _ l _ (h.below q0)).mono ?_
   rintro r wy ⟨rfl, hby⟩
   rw [H1.out]
   obtain ⟨⟨x0, x1, x2, x3, x4⟩, -⟩ := cells5 (kept_block k0 hby)
   go_wp2_with fail
   refine (specEnt_any (⟨t, m, p, 0, false⟩ : FE) _).mono ?_
   rintro r wx ⟨rfl, hbx⟩
   rw [H2.out]
   have bx := gr_trans q0 (gr_trans hby hbx)
   have kx := kept_block k0 (gr_trans hby hbx)
   obtain ⟨x', b, off, hx', rfl, -, -, -, -, c4⟩ := fent_at (h.below bx) i hi
   rw [hx] at hx'
   cases hx'
   rw [hs] at c4
   clear hby hbx x0 x1 x2 x3 x4
   obtain ⟨⟨x0, x1, x2, x3, x4⟩, -⟩ := cells5 kx
   go_wp2_with fail
   refine (specPutF_any _ _ _ l (⟨t, m, p, 0, false⟩ : FE) _ (h.below bx) hn).mono ?_
   rintro r w9 ⟨ao9, cap9, rfl, ho9, hr9, hb9⟩
   have HO := hide (gown_lt ho9 (base' := w.heap.size) bx.size)
   have HR := hide hr9
   have HB := hide (gr_trans bx hb9)
   clear ho9 hr9 hb9 bx x0 x1 x2 x3 x4
   go_wp2
   go_ret
   exact ⟨_, _, rfl, HO.out, HR.out, HB.out⟩
  ·rw [hlk] at h3
   have hlen : l.length < 12 := by simpa using h3
   have HAT := hide hat
   clear h3 hat
   go_enter Tryz.func75, Tryz.ntmps75
   go_wp2_with fail
   generalize w.alloc (.cells #[.int .i64 t, .int .i64 m, .int .i64 p, .int .i64 0, .bool false] 49) = wb at *
   refine (specAt_any _ _ _ l t m _ (h.below q0)).mono ?_
   rintro r w1 ⟨rfl, rfl⟩
   rw [HAT.out]
   go_wp2_with fail
   refine (specFdbOk_any _ _ _ l _ (h.below q0)).mono ?_
   rintro r wy ⟨rfl, hby⟩
   rw [H1.out]
   obtain ⟨⟨x0, x1, x2, x3, x4⟩, -⟩ := cells5 (kept_block k0 hby)
   go_wp2_with fail
   refine (specEnt_any (⟨t, m, p, 0, false⟩ : FE) _).mono ?_
   rintro r wx ⟨rfl, hbx⟩
   rw [H2.out]
   have bx := gr_trans q0 (gr_trans hby hbx)
   have kx := kept_block k0 (gr_trans hby hbx)
   have i5 : ¬ (12 : Int) ≤ (l.length : Int) := by omega
   clear hby hbx x0 x1 x2 x3 x4
   obtain ⟨⟨x0, x1, x2, x3, x4⟩, -⟩ := cells5 kx
   go_wp2_with fail
   refine (specPutF_any _ _ _ l (⟨t, m, p, 0, false⟩ : FE) _ (h.below bx) hn).mono ?_
   rintro r w9 ⟨ao9, cap9, rfl, ho9, hr9, hb9⟩
   have HO := hide (gown_lt ho9 (base' := w.heap.size) bx.size)
   have HR := hide hr9
   have HB := hide (gr_trans bx hb9)
   clear ho9 hr9 hb9 bx x0 x1 x2 x3 x4
   go_wp2
   go_ret
   exact ⟨_, _, rfl, HO.out, HR.out, HB.out⟩

set_option maxRecDepth 100000 in
set_option maxHeartbeats 4000000 in
theorem specSet_any (ao : Option Addr) (n cap : Nat) (l : List FE) (t m p : Int) (w : World) (h : GRow fentF w ao n cap l) (hn : n ≤ 16777216) :
  Calls Tryz.prog 77 #[.slice ao n cap, .int .i64 t, .int .i64 m, .int .i64 p] w fun r w' => ∃ ao' cap', r = .returned (.tuple #[.slice ao' (setF l t m p).length cap', .bool (canSet l t m p)]) ∧ w'.ownsRow w.heap.size 49 5 (.slice ao' (setF l t m p).length cap') (setF l t m p).length (fentF.all (setF l t m p)) ∧ GRow fentF w' ao' (setF l t m p).length cap' (setF l t m p) ∧ Below w.heap.size w w' := by
 have q0 := below_one w (.cells #[.int .i64 t, .int .i64 m, .int .i64 p, .int .i64 0, .bool true] 49)
 have k0 := block_last w (.cells #[.int .i64 t, .int .i64 m, .int .i64 p, .int .i64 0, .bool true] 49)
 obtain rfl := h.size
 have hla := at_look l t m
 cases hc : canSet l t m p
 ·rw [show setF l t m p = l by unfold setF; rw [hc]; rfl]
  unfold canSet at hc
  cases h1 : fdbOk l
  ·have H1 := hide h1
   clear hc h1
   go_enter Tryz.func77, Tryz.ntmps77
   go_wp2_with fail
   generalize w.alloc (.cells #[.int .i64 t, .int .i64 m, .int .i64 p, .int .i64 0, .bool true] 49) = wb at *
   refine (specFdbOk_any _ _ _ l _ (h.below q0)).mono ?_
   rintro r wy ⟨rfl, hby⟩
   rw [H1.out]
   have bx := gr_trans q0 hby
   have kx := kept_block k0 hby
   clear hby
   go_wp2_with fail
   refine (specCopyF_any _ _ _ l _ (h.below bx) hn).mono ?_
   rintro r w9 ⟨ao9, cap9, rfl, ho9, hr9, hb9⟩
   have HO := hide (gown_lt ho9 (base' := w.heap.size) bx.size)
   have HR := hide hr9
   have HB := hide (gr_trans bx hb9)
   clear ho9 hr9 hb9 bx
   go_wp2
   exact bodyPost_ret (v := .tuple #[.slice ao9 l.length cap9, .bool false]) (by simp [results, Tryz.results77, go_sem, *]) rfl ⟨_, _, rfl, HO.out, HR.out, HB.out⟩
  ·cases h2 : entOk (⟨t, m, p, 0, true⟩ : FE)
   ·have H1 := hide h1
    have H2 := hide h2
    clear hc h1 h2
    go_enter Tryz.func77, Tryz.ntmps77
    go_wp2_with fail
    generalize w.alloc (.cells #[.int .i64 t, .int .i64 m, .int .i64 p, .int .i64 0, .bool true] 49) = wb at *
    refine (specFdbOk_any _ _ _ l _ (h.below q0)).mono ?_
    rintro r wy ⟨rfl, hby⟩
    rw [H1.out]
    obtain ⟨⟨x0, x1, x2, x3, x4⟩, -⟩ := cells5 (kept_block k0 hby)
    go_wp2_with fail
    refine (specEnt_any (⟨t, m, p, 0, true⟩ : FE) _).mono ?_
    rintro r wx ⟨rfl, hbx⟩
    rw [H2.out]
    have bx := gr_trans q0 (gr_trans hby hbx)
    have kx := kept_block k0 (gr_trans hby hbx)
    clear hby hbx x0 x1 x2 x3 x4
    go_wp2_with fail
    refine (specCopyF_any _ _ _ l _ (h.below bx) hn).mono ?_
    rintro r w9 ⟨ao9, cap9, rfl, ho9, hr9, hb9⟩
    have HO := hide (gown_lt ho9 (base' := w.heap.size) bx.size)
    have HR := hide hr9
    have HB := hide (gr_trans bx hb9)
    clear ho9 hr9 hb9 bx
    go_wp2
    exact bodyPost_ret (v := .tuple #[.slice ao9 l.length cap9, .bool false]) (by simp [results, Tryz.results77, go_sem, *]) rfl ⟨_, _, rfl, HO.out, HR.out, HB.out⟩
   ·rw [h1, h2, Bool.true_and, Bool.true_and] at hc
    have H1 := hide h1
    have H2 := hide h2
    clear h1 h2
    rcases hla with ⟨i, x, hat, hi, hx, hlk⟩ | ⟨hat, hlk⟩
    ·rw [hlk] at hc
     simp at hc
    ·rw [hlk] at hc
     have hlen : ¬ l.length < 12 := by simpa using hc
     have i5 : (12 : Int) ≤ (l.length : Int) := by omega
     have HAT := hide hat
     clear hc hat
     go_enter Tryz.func77, Tryz.ntmps77
     go_wp2_with fail
     generalize w.alloc (.cells #[.int .i64 t, .int .i64 m, .int .i64 p, .int .i64 0, .bool true] 49) = wb at *
     refine (specFdbOk_any _ _ _ l _ (h.below q0)).mono ?_
     rintro r wy ⟨rfl, hby⟩
     rw [H1.out]
     obtain ⟨⟨x0, x1, x2, x3, x4⟩, -⟩ := cells5 (kept_block k0 hby)
     go_wp2_with fail
     refine (specEnt_any (⟨t, m, p, 0, true⟩ : FE) _).mono ?_
     rintro r wx ⟨rfl, hbx⟩
     rw [H2.out]
     have bx := gr_trans q0 (gr_trans hby hbx)
     have kx := kept_block k0 (gr_trans hby hbx)
     clear hby hbx x0 x1 x2 x3 x4
     go_wp2_with fail
     refine (specAt_any _ _ _ l t m _ (h.below bx)).mono ?_
     rintro r w1 ⟨rfl, rfl⟩
     rw [HAT.out]
     go_wp2_with fail
     refine (specCopyF_any _ _ _ l _ (h.below bx) hn).mono ?_
     rintro r w9 ⟨ao9, cap9, rfl, ho9, hr9, hb9⟩
     have HO := hide (gown_lt ho9 (base' := w.heap.size) bx.size)
     have HR := hide hr9
     have HB := hide (gr_trans bx hb9)
     clear ho9 hr9 hb9 bx
     go_wp2
     exact bodyPost_ret (v := .tuple #[.slice ao9 l.length cap9, .bool false]) (by simp [results, Tryz.results77, go_sem, *]) rfl ⟨_, _, rfl, HO.out, HR.out, HB.out⟩
 ·rw [show setF l t m p = putF8 (⟨t, m, p, 0, true⟩ : FE) l by unfold setF; rw [hc]; rfl]
  unfold canSet at hc
  simp only [Bool.and_eq_true] at hc
  obtain ⟨h1, h2, h3⟩ := hc
  have H1 := hide h1
  have H2 := hide h2
  clear h1 h2
  rcases hla with ⟨i, x, hat, hi, hx, hlk⟩ | ⟨hat, hlk⟩
  ·have HAT := hide hat
   have hat2 : ¬ (i : Int) < 0 := by omega
   clear h3 hat
   go_enter Tryz.func77, Tryz.ntmps77
   go_wp2_with fail
   generalize w.alloc (.cells #[.int .i64 t, .int .i64 m, .int .i64 p, .int .i64 0, .bool true] 49) = wb at *
   refine (specFdbOk_any _ _ _ l _ (h.below q0)).mono ?_
   rintro r wy ⟨rfl, hby⟩
   rw [H1.out]
   obtain ⟨⟨x0, x1, x2, x3, x4⟩, -⟩ := cells5 (kept_block k0 hby)
   go_wp2_with fail
   refine (specEnt_any (⟨t, m, p, 0, true⟩ : FE) _).mono ?_
   rintro r wx ⟨rfl, hbx⟩
   rw [H2.out]
   have bx := gr_trans q0 (gr_trans hby hbx)
   have kx := kept_block k0 (gr_trans hby hbx)
   clear hby hbx x0 x1 x2 x3 x4
   go_wp2_with fail
   refine (specAt_any _ _ _ l t m _ (h.below bx)).mono ?_
   rintro r w1 ⟨rfl, rfl⟩
   rw [HAT.out]
   obtain ⟨⟨x0, x1, x2, x3, x4⟩, -⟩ := cells5 kx
   go_wp2_with fail
   refine (specPutF_any _ _ _ l (⟨t, m, p, 0, true⟩ : FE) _ (h.below bx) hn).mono ?_
   rintro r w9 ⟨ao9, cap9, rfl, ho9, hr9, hb9⟩
   have HO := hide (gown_lt ho9 (base' := w.heap.size) bx.size)
   have HR := hide hr9
   have HB := hide (gr_trans bx hb9)
   clear ho9 hr9 hb9 bx x0 x1 x2 x3 x4
   go_wp2
   exact bodyPost_ret (v := .tuple #[.slice ao9 (putF8 (⟨t, m, p, 0, true⟩ : FE) l).length cap9, .bool true]) (by simp [results, Tryz.results77, go_sem, *]) rfl ⟨_, _, rfl, HO.out, HR.out, HB.out⟩
  ·rw [hlk] at h3
   have hlen : l.length < 12 := by simpa using h3
   have i5 : ¬ (12 : Int) ≤ (l.length : Int) := by omega
   have HAT := hide hat
   clear h3 hat
   go_enter Tryz.func77, Tryz.ntmps77
   go_wp2_with fail
   generalize w.alloc (.cells #[.int .i64 t, .int .i64 m, .int .i64 p, .int .i64 0, .bool true] 49) = wb at *
   refine (specFdbOk_any _ _ _ l _ (h.below q0)).mono ?_
   rintro r wy ⟨rfl, hby⟩
   rw [H1.out]
   obtain ⟨⟨x0, x1, x2, x3, x4⟩, -⟩ := cells5 (kept_block k0 hby)
   go_wp2_with fail
   refine (specEnt_any (⟨t, m, p, 0, true⟩ : FE) _).mono ?_
   rintro r wx ⟨rfl, hbx⟩
   rw [H2.out]
   have bx := gr_trans q0 (gr_trans hby hbx)
   have kx := kept_block k0 (gr_trans hby hbx)
   clear hby hbx x0 x1 x2 x3 x4
   go_wp2_with fail
   refine (specAt_any _ _ _ l t m _ (h.below bx)).mono ?_
   rintro r w1 ⟨rfl, rfl⟩
   rw [HAT.out]
   obtain ⟨⟨x0, x1, x2, x3, x4⟩, -⟩ := cells5 kx
   go_wp2_with fail
   refine (specPutF_any _ _ _ l (⟨t, m, p, 0, true⟩ : FE) _ (h.below bx) hn).mono ?_
   rintro r w9 ⟨ao9, cap9, rfl, ho9, hr9, hb9⟩
   have HO := hide (gown_lt ho9 (base' := w.heap.size) bx.size)
   have HR := hide hr9
   have HB := hide (gr_trans bx hb9)
   clear ho9 hr9 hb9 bx x0 x1 x2 x3 x4
   go_wp2
   exact bodyPost_ret (v := .tuple #[.slice ao9 (putF8 (⟨t, m, p, 0, true⟩ : FE) l).length cap9, .bool true]) (by simp [results, Tryz.results77, go_sem, *]) rfl ⟨_, _, rfl, HO.out, HR.out, HB.out⟩

theorem grow_two {α : Type} (F : Flat α) (w : World) (o : Obj) (x : α) (cs : Array Value) (T : TypeId) (h : cs.toList = F.cs x) : GRow F ((w.alloc o).alloc (.cells cs T)) (some ⟨w.heap.size + 1, 0, none⟩) 1 1 [x] := by
 have := grow_one F (w.alloc o) x cs T h
 rw [show (w.alloc o).heap.size = w.heap.size + 1 by simp] at this
 exact this

theorem age_keep {x : FE} {zs r : List FE} (h : x.s = true) : zs ++ [x] ++ ageF r = zs ++ ageF (x :: r) := by
 have : ageF (x :: r) = x :: ageF r := by unfold ageF; rw [List.filterMap_cons]; unfold ageE; rw [h]; rfl
 rw [this]; simp
theorem age_old {x : FE} {zs r : List FE} (h : x.s = false) (ha : x.a < 4) : zs ++ [(⟨x.t, x.m, x.p, x.a + 1, x.s⟩ : FE)] ++ ageF r = zs ++ ageF (x :: r) := by
 have : ageF (x :: r) = ⟨x.t, x.m, x.p, x.a + 1, x.s⟩ :: ageF r := by unfold ageF; rw [List.filterMap_cons]; unfold ageE; simp [h, ha]
 rw [this]; simp
theorem age_go {x : FE} {zs r : List FE} (h : x.s = false) (ha : ¬ x.a < 4) : zs ++ ageF r = zs ++ ageF (x :: r) := by
 have : ageF (x :: r) = ageF r := by unfold ageF; rw [List.filterMap_cons]; unfold ageE; simp [h, ha]
 rw [this]

set_option maxRecDepth 100000 in
set_option maxHeartbeats 4000000 in
theorem specAge_any (ao : Option Addr) (n cap : Nat) (l : List FE) (w : World) (h : GRow fentF w ao n cap l) (hn : n ≤ 16777216) (hR : ∀ x ∈ l, x.Rng) :
  Calls Tryz.prog 64 #[.slice ao n cap] w fun r w' => ∃ ao' cap', r = .returned (.slice ao' (ageF l).length cap') ∧ w'.ownsRow w.heap.size 49 5 (.slice ao' (ageF l).length cap') (ageF l).length (fentF.all (ageF l)) ∧ GRow fentF w' ao' (ageF l).length cap' (ageF l) ∧ Below w.heap.size w w' := by
 have hle := h.le
 have htop := h.top
 unfold maxLen at htop
 have hsz := h.size
 have o0 := flat_nil fentF w _ 49 _ (block_last w (.cells #[] 49)) (Nat.le_refl _)
 have b0 := below_one w (.cells #[] 49)
 go_enter Tryz.func64, Tryz.ntmps64
 go_wp2
 go_loopw [3, 4] (fun o i wr => ∃ (k : Nat) (zs : List FE) (az : Option Addr) (cz nz : Nat), k ≤ n ∧ i = .int .i64 k ∧ o = .slice az nz cz ∧ zs.length = nz ∧ nz ≤ k ∧ wr.ownsRow w.heap.size 49 5 (.slice az nz cz) nz (fentF.all zs) ∧ zs ++ ageF (l.drop k) = ageF l ∧ Below w.heap.size w wr) (fun _ i _ => n - (intOf i).toNat)
 case atStart => exact ⟨0, [], _, _, 0, Nat.zero_le _, rfl, rfl, rfl, Nat.zero_le _, o0, by simp, b0⟩
 case round =>
  obtain ⟨k, zs, az, cz, nz, hk, rfl, rfl, hzs, hnz, how, hz, hb⟩ := hrel
  clear o0 b0
  have hws := hb.size
  by_cases hlt : k < n
  ·obtain ⟨x, b, off, hx, rfl, a0, a1, a2, a3, a4⟩ := fent_at (h.below hb) k hlt
   have hdr := drop_at8 hx
   rw [hdr] at hz
   cases hs : x.s
   ·rw [hs] at a4
    by_cases ha : x.a < 4
    ·obtain ⟨-, -, -, r1, r2⟩ := hR x (List.mem_of_getElem? hx)
     have hw : IntKind.i64.wrap (x.a + 1) = x.a + 1 := wrap_at _ (by omega)
     have hcs : (#[.int .i64 x.t, .int .i64 x.m, .int .i64 x.p, .int .i64 (x.a + 1), .bool false] : Array Value).toList = fentF.cs ((⟨x.t, x.m, x.p, x.a + 1, x.s⟩ : FE)) := by simp [fentF, *]
     have HCS := hide hcs
     clear hcs
     have hl1 : (zs ++ [(⟨x.t, x.m, x.p, x.a + 1, x.s⟩ : FE)]).length = nz + 1 := by simp [hzs]
     have HL := hide hl1
     have how1 := gown_below how (below_two wr (.cells #[.int .i64 x.t, .int .i64 x.m, .int .i64 x.p, .int .i64 (x.a + 1), .bool false] 49) (.cells #[.int .i64 x.t, .int .i64 x.m, .int .i64 x.p, .int .i64 (x.a + 1), .bool false] 49))
     have HBR := hide (gr_trans hb (below_two wr (.cells #[.int .i64 x.t, .int .i64 x.m, .int .i64 x.p, .int .i64 (x.a + 1), .bool false] 49) (.cells #[.int .i64 x.t, .int .i64 x.m, .int .i64 x.p, .int .i64 (x.a + 1), .bool false] 49)))
     have hbase9 : w.heap.size ≤ ((wr.alloc (.cells #[.int .i64 x.t, .int .i64 x.m, .int .i64 x.p, .int .i64 (x.a + 1), .bool false] 49)).alloc (.cells #[.int .i64 x.t, .int .i64 x.m, .int .i64 x.p, .int .i64 (x.a + 1), .bool false] 49)).heap.size := by simp; omega
     have HQ := hide (show zs ++ [(⟨x.t, x.m, x.p, x.a + 1, x.s⟩ : FE)] ++ ageF (l.drop (k + 1)) = ageF l from (age_old hs ha).trans hz)
     clear how hb hz hl1
     try clear hs
     go_wp2_with (at_builtin; refine fent_append _ rfl _ _ rfl w.heap.size _ nz zs rfl how1 _ 1 1 [(⟨x.t, x.m, x.p, x.a + 1, x.s⟩ : FE)] rfl (grow_two fentF _ _ ((⟨x.t, x.m, x.p, x.a + 1, x.s⟩ : FE)) _ _ HCS.out) (by omega) hbase9 ?_)
     intro ao9 cap9 w9 how9 hr9 hgr9 hb9
     have HB9 := hide (HBR.out.trans hb9)
     have HO := hide how9
     clear how9 hr9 hgr9 hb9 how1 HBR
     go_wp2
     go_roundw
     case rel => exact ⟨k + 1, zs ++ [(⟨x.t, x.m, x.p, x.a + 1, x.s⟩ : FE)], ao9, cap9, nz + 1, by omega, by go_num, rfl, HL.out, by omega, HO.out, HQ.out, HB9.out⟩
     case measure => simp [intOf]; omega
    ·have ha2 : (4 : Int) ≤ x.a := by omega
     have HO := hide (gown_below how (below_one wr (.cells #[.int .i64 x.t, .int .i64 x.m, .int .i64 x.p, .int .i64 x.a, .bool false] 49)))
     have HB9 := hide (gr_trans hb (below_one wr (.cells #[.int .i64 x.t, .int .i64 x.m, .int .i64 x.p, .int .i64 x.a, .bool false] 49)))
     have HQ := hide (show zs ++ ageF (l.drop (k + 1)) = ageF l from (age_go hs ha).trans hz)
     clear how hb hz
     go_wp2
     go_roundw
     case rel => exact ⟨k + 1, zs, az, cz, nz, by omega, by go_num, rfl, hzs, by omega, HO.out, HQ.out, HB9.out⟩
     case measure => simp [intOf]; omega
   ·rw [hs] at a4
    have hcs : (#[.int .i64 x.t, .int .i64 x.m, .int .i64 x.p, .int .i64 x.a, .bool true] : Array Value).toList = fentF.cs (x) := by simp [fentF, *]
    have HCS := hide hcs
    clear hcs
    have hl1 : (zs ++ [x]).length = nz + 1 := by simp [hzs]
    have HL := hide hl1
    have how1 := gown_below how (below_two wr (.cells #[.int .i64 x.t, .int .i64 x.m, .int .i64 x.p, .int .i64 x.a, .bool true] 49) (.cells #[.int .i64 x.t, .int .i64 x.m, .int .i64 x.p, .int .i64 x.a, .bool true] 49))
    have HBR := hide (gr_trans hb (below_two wr (.cells #[.int .i64 x.t, .int .i64 x.m, .int .i64 x.p, .int .i64 x.a, .bool true] 49) (.cells #[.int .i64 x.t, .int .i64 x.m, .int .i64 x.p, .int .i64 x.a, .bool true] 49)))
    have hbase9 : w.heap.size ≤ ((wr.alloc (.cells #[.int .i64 x.t, .int .i64 x.m, .int .i64 x.p, .int .i64 x.a, .bool true] 49)).alloc (.cells #[.int .i64 x.t, .int .i64 x.m, .int .i64 x.p, .int .i64 x.a, .bool true] 49)).heap.size := by simp; omega
    have HQ := hide (show zs ++ [x] ++ ageF (l.drop (k + 1)) = ageF l from (age_keep hs).trans hz)
    clear how hb hz hl1
    try clear hs
    go_wp2_with (at_builtin; refine fent_append _ rfl _ _ rfl w.heap.size _ nz zs rfl how1 _ 1 1 [x] rfl (grow_two fentF _ _ (x) _ _ HCS.out) (by omega) hbase9 ?_)
    intro ao9 cap9 w9 how9 hr9 hgr9 hb9
    have HB9 := hide (HBR.out.trans hb9)
    have HO := hide how9
    clear how9 hr9 hgr9 hb9 how1 HBR
    go_wp2
    go_roundw
    case rel => exact ⟨k + 1, zs ++ [x], ao9, cap9, nz + 1, by omega, by go_num, rfl, HL.out, by omega, HO.out, HQ.out, HB9.out⟩
    case measure => simp [intOf]; omega
  ·have hkn : k = n := by omega
   subst hkn
   rw [List.drop_eq_nil_of_le (by omega)] at hz
   have hz : zs = ageF l := by simpa [ageF] using hz
   have hl : nz = (ageF l).length := by rw [← hz]; exact hzs.symm
   rw [hz] at how
   subst hl
   have HO := hide how
   have HR := hide (grow_own how)
   have HB := hide hb
   clear how hb
   go_wp2
   go_ret
   exact ⟨_, _, rfl, HO.out, HR.out, HB.out⟩

theorem flush_keep {x : FE} {p : Int} {zs r : List FE} (h : (x.s || (x.p != p)) = true) : zs ++ [x] ++ flushF r p = zs ++ flushF (x :: r) p := by
 have : flushF (x :: r) p = x :: flushF r p := by unfold flushF; rw [List.filter_cons, if_pos h]
 rw [this]; simp
theorem flush_go {x : FE} {p : Int} {zs r : List FE} (h : (x.s || (x.p != p)) = false) : zs ++ flushF r p = zs ++ flushF (x :: r) p := by
 have : flushF (x :: r) p = flushF r p := by unfold flushF; rw [List.filter_cons, if_neg (by rw [h]; exact Bool.false_ne_true)]
 rw [this]

set_option maxRecDepth 100000 in
set_option maxHeartbeats 4000000 in
theorem specFlush_any (ao : Option Addr) (n cap : Nat) (l : List FE) (p : Int) (w : World) (h : GRow fentF w ao n cap l) (hn : n ≤ 16777216) :
  Calls Tryz.prog 110 #[.slice ao n cap, .int .i64 p] w fun r w' => ∃ ao' cap', r = .returned (.slice ao' (flushF l p).length cap') ∧ w'.ownsRow w.heap.size 49 5 (.slice ao' (flushF l p).length cap') (flushF l p).length (fentF.all (flushF l p)) ∧ GRow fentF w' ao' (flushF l p).length cap' (flushF l p) ∧ Below w.heap.size w w' := by
 have hle := h.le
 have htop := h.top
 unfold maxLen at htop
 have hsz := h.size
 have o0 := flat_nil fentF w _ 49 _ (block_last w (.cells #[] 49)) (Nat.le_refl _)
 have b0 := below_one w (.cells #[] 49)
 go_enter Tryz.func110, Tryz.ntmps110
 go_wp2
 go_loopw [5, 6] (fun o i wr => ∃ (k : Nat) (zs : List FE) (az : Option Addr) (cz nz : Nat), k ≤ n ∧ i = .int .i64 k ∧ o = .slice az nz cz ∧ zs.length = nz ∧ nz ≤ k ∧ wr.ownsRow w.heap.size 49 5 (.slice az nz cz) nz (fentF.all zs) ∧ zs ++ flushF (l.drop k) p = flushF l p ∧ Below w.heap.size w wr) (fun _ i _ => n - (intOf i).toNat)
 case atStart => exact ⟨0, [], _, _, 0, Nat.zero_le _, rfl, rfl, rfl, Nat.zero_le _, o0, by simp, b0⟩
 case round =>
  obtain ⟨k, zs, az, cz, nz, hk, rfl, rfl, hzs, hnz, how, hz, hb⟩ := hrel
  clear o0 b0
  have hws := hb.size
  by_cases hlt : k < n
  ·obtain ⟨x, b, off, hx, rfl, a0, a1, a2, a3, a4⟩ := fent_at (h.below hb) k hlt
   have hdr := drop_at8 hx
   rw [hdr] at hz
   cases hs : x.s
   ·rw [hs] at a4
    cases hp : (x.p != p)
    ·have hq : (x.s || (x.p != p)) = false := by rw [hs, hp]; rfl
     have HO := hide how
     have HB9 := hide hb
     have HQ := hide (show zs ++ flushF (l.drop (k + 1)) p = flushF l p from (flush_go hq).trans hz)
     clear how hb hz
     go_wp2
     go_roundw
     case rel => exact ⟨k + 1, zs, az, cz, nz, by omega, by go_num, rfl, hzs, by omega, HO.out, HQ.out, HB9.out⟩
     case measure => simp [intOf]; omega
    ·have hq : (x.s || (x.p != p)) = true := by rw [hs, hp]; rfl
     have hcs : (#[.int .i64 x.t, .int .i64 x.m, .int .i64 x.p, .int .i64 x.a, .bool false] : Array Value).toList = fentF.cs (x) := by simp [fentF, *]
     have HCS := hide hcs
     clear hcs
     have hl1 : (zs ++ [x]).length = nz + 1 := by simp [hzs]
     have HL := hide hl1
     have how1 := gown_below how (below_one wr (.cells #[.int .i64 x.t, .int .i64 x.m, .int .i64 x.p, .int .i64 x.a, .bool false] 49))
     have HBR := hide (gr_trans hb (below_one wr (.cells #[.int .i64 x.t, .int .i64 x.m, .int .i64 x.p, .int .i64 x.a, .bool false] 49)))
     have hbase9 : w.heap.size ≤ (wr.alloc (.cells #[.int .i64 x.t, .int .i64 x.m, .int .i64 x.p, .int .i64 x.a, .bool false] 49)).heap.size := by simp; omega
     have HQ := hide (show zs ++ [x] ++ flushF (l.drop (k + 1)) p = flushF l p from (flush_keep hq).trans hz)
     clear how hb hz hl1
     try clear hs
     go_wp2_with (at_builtin; refine fent_append _ rfl _ _ rfl w.heap.size _ nz zs rfl how1 _ 1 1 [x] rfl (grow_one fentF _ (x) _ _ HCS.out) (by omega) hbase9 ?_)
     intro ao9 cap9 w9 how9 hr9 hgr9 hb9
     have HB9 := hide (HBR.out.trans hb9)
     have HO := hide how9
     clear how9 hr9 hgr9 hb9 how1 HBR
     go_wp2
     go_roundw
     case rel => exact ⟨k + 1, zs ++ [x], ao9, cap9, nz + 1, by omega, by go_num, rfl, HL.out, by omega, HO.out, HQ.out, HB9.out⟩
     case measure => simp [intOf]; omega
   ·rw [hs] at a4
    have hq : (x.s || (x.p != p)) = true := by rw [hs]; rfl
    have hcs : (#[.int .i64 x.t, .int .i64 x.m, .int .i64 x.p, .int .i64 x.a, .bool true] : Array Value).toList = fentF.cs (x) := by simp [fentF, *]
    have HCS := hide hcs
    clear hcs
    have hl1 : (zs ++ [x]).length = nz + 1 := by simp [hzs]
    have HL := hide hl1
    have how1 := gown_below how (below_one wr (.cells #[.int .i64 x.t, .int .i64 x.m, .int .i64 x.p, .int .i64 x.a, .bool true] 49))
    have HBR := hide (gr_trans hb (below_one wr (.cells #[.int .i64 x.t, .int .i64 x.m, .int .i64 x.p, .int .i64 x.a, .bool true] 49)))
    have hbase9 : w.heap.size ≤ (wr.alloc (.cells #[.int .i64 x.t, .int .i64 x.m, .int .i64 x.p, .int .i64 x.a, .bool true] 49)).heap.size := by simp; omega
    have HQ := hide (show zs ++ [x] ++ flushF (l.drop (k + 1)) p = flushF l p from (flush_keep hq).trans hz)
    clear how hb hz hl1
    try clear hs
    go_wp2_with (at_builtin; refine fent_append _ rfl _ _ rfl w.heap.size _ nz zs rfl how1 _ 1 1 [x] rfl (grow_one fentF _ (x) _ _ HCS.out) (by omega) hbase9 ?_)
    intro ao9 cap9 w9 how9 hr9 hgr9 hb9
    have HB9 := hide (HBR.out.trans hb9)
    have HO := hide how9
    clear how9 hr9 hgr9 hb9 how1 HBR
    go_wp2
    go_roundw
    case rel => exact ⟨k + 1, zs ++ [x], ao9, cap9, nz + 1, by omega, by go_num, rfl, HL.out, by omega, HO.out, HQ.out, HB9.out⟩
    case measure => simp [intOf]; omega
  ·have hkn : k = n := by omega
   subst hkn
   rw [List.drop_eq_nil_of_le (by omega)] at hz
   have hz : zs = flushF l p := by simpa [flushF] using hz
   have hl : nz = (flushF l p).length := by rw [← hz]; exact hzs.symm
   rw [hz] at how
   subst hl
   have HO := hide how
   have HR := hide (grow_own how)
   have HB := hide hb
   clear how hb
   go_wp2
   go_ret
   exact ⟨_, _, rfl, HO.out, HR.out, HB.out⟩

end Go.Proofs.YtfknffdlmcckkaaGreat
