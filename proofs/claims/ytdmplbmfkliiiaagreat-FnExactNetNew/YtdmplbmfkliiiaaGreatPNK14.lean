/-
  Packed: BrNewS BrBuild NetBeside NetUp NetMath VlanTab.
-/
import Derived.Test.YtdmplbmfkliiiaaGreatPNKW
import Derived.Test.YtdmplbmfkliiiaaGreatPNBrOkS
import Derived.Test.YtdmplbmfkliiiaaGreatPNK01
import Derived.Test.YtdmplbmfkliiiaaGreatPNK02
import Derived.Test.YtdmplbmfkliiiaaGreatPNK03
import Derived.Test.YtdmplbmfkliiiaaGreatPNK10
import Derived.Test.YtdmplbmfkliiiaaGreatPNVlanOk
import Derived.Deep.RegionHeld3
namespace Go.Proofs.YtdmplbmfkliiiaaGreat
open Go.RowKit

def newPt : PT := ⟨false, 1, false, ⟨0, 0, 0, 0, 0⟩⟩
def zeroBr : BR := ⟨0, ByteArray.empty, [], [], ⟨[], []⟩, 0, 0, 0, 0, 0⟩
def bridgeNew (id : Int) (m : Nat) : BR := ⟨id, ByteArray.empty, List.replicate m newPt, [], vtabNew m, 0, 0, 0, 0, 0⟩

theorem BrOwn.boxed11 {w : World} {base : Nat} {a : Option Addr} {n c : Nat} {fa : Option Addr} {fn fc : Nat} {ra : Option Addr} {rn rc : Nat} {oa : Option Addr} {on oc : Nat} {B : BR} (h : BrOwn w base a n c fa fn fc ra rn rc oa on oc B) {X : Nat} {cs : Array Value} (hX : w.heap[X]? = some (.cells cs 71)) (u0 u1 u2 u3 u4 u5 u6 u7 u8 u9 u10 : Value) : BrOwn (((((((((((w.setCell ⟨X, 0, none⟩ u0).setCell ⟨X, 1, none⟩ u1).setCell ⟨X, 2, none⟩ u2).setCell ⟨X, 3, none⟩ u3).setCell ⟨X, 4, none⟩ u4).setCell ⟨X, 5, none⟩ u5).setCell ⟨X, 6, none⟩ u6).setCell ⟨X, 7, none⟩ u7).setCell ⟨X, 8, none⟩ u8).setCell ⟨X, 9, none⟩ u9).setCell ⟨X, 10, none⟩ u10) base a n c fa fn fc ra rn rc oa on oc B :=
 (BrOwn.boxed (BrOwn.boxed (BrOwn.boxed (BrOwn.boxed (BrOwn.boxed (BrOwn.boxed (BrOwn.boxed (BrOwn.boxed (BrOwn.boxed (BrOwn.boxed (BrOwn.boxed h hX 0 u0) (box11 hX 0 u0) 1 u1) (box11 (box11 hX 0 u0) 1 u1) 2 u2) (box11 (box11 (box11 hX 0 u0) 1 u1) 2 u2) 3 u3) (box11 (box11 (box11 (box11 hX 0 u0) 1 u1) 2 u2) 3 u3) 4 u4) (box11 (box11 (box11 (box11 (box11 hX 0 u0) 1 u1) 2 u2) 3 u3) 4 u4) 5 u5) (box11 (box11 (box11 (box11 (box11 (box11 hX 0 u0) 1 u1) 2 u2) 3 u3) 4 u4) 5 u5) 6 u6) (box11 (box11 (box11 (box11 (box11 (box11 (box11 hX 0 u0) 1 u1) 2 u2) 3 u3) 4 u4) 5 u5) 6 u6) 7 u7) (box11 (box11 (box11 (box11 (box11 (box11 (box11 (box11 hX 0 u0) 1 u1) 2 u2) 3 u3) 4 u4) 5 u5) 6 u6) 7 u7) 8 u8) (box11 (box11 (box11 (box11 (box11 (box11 (box11 (box11 (box11 hX 0 u0) 1 u1) 2 u2) 3 u3) 4 u4) 5 u5) 6 u6) 7 u7) 8 u8) 9 u9) (box11 (box11 (box11 (box11 (box11 (box11 (box11 (box11 (box11 (box11 hX 0 u0) 1 u1) 2 u2) 3 u3) 4 u4) 5 u5) 6 u6) 7 u7) 8 u8) 9 u9) 10 u10)

theorem below_set11 {K : Nat} {a w : World} (h : Below K a w) {g : Nat} (hB : K ≤ g) (u0 u1 u2 u3 u4 u5 u6 u7 u8 u9 u10 : Value) : Below K a (((((((((((w.setCell ⟨g, 0, none⟩ u0).setCell ⟨g, 1, none⟩ u1).setCell ⟨g, 2, none⟩ u2).setCell ⟨g, 3, none⟩ u3).setCell ⟨g, 4, none⟩ u4).setCell ⟨g, 5, none⟩ u5).setCell ⟨g, 6, none⟩ u6).setCell ⟨g, 7, none⟩ u7).setCell ⟨g, 8, none⟩ u8).setCell ⟨g, 9, none⟩ u9).setCell ⟨g, 10, none⟩ u10) :=
 (below_set (below_set (below_set (below_set (below_set (below_set (below_set (below_set (below_set (below_set (below_set h hB 0 u0) hB 1 u1) hB 2 u2) hB 3 u3) hB 4 u4) hB 5 u5) hB 6 u6) hB 7 u7) hB 8 u8) hB 9 u9) hB 10 u10)

theorem zeroBr_own (w : World) (base : Nat) : BrOwn w base none 0 0 none 0 0 none 0 0 none 0 0 zeroBr := ⟨World.ownsRow_nil _ _ _ _, World.ownsRow_nil _ _ _ _, vownNone w base⟩

set_option maxRecDepth 100000 in
set_option maxHeartbeats 4000000 in
theorem specBridgeNew_made (id : Int) (m : Nat) (w : World) (hid : (decide (1 ≤ id) && decide (id ≤ 99)) = true) (hm : (decide (1 ≤ (m : Int)) && decide ((m : Int) ≤ 6)) = true) :
  Calls Tryz.prog 43 #[.int .i64 id, .int .i64 m] w fun e w' => ∃ (a : Option Addr) (c : Nat) (ra : Option Addr) (rn rc : Nat) (oa : Option Addr) (on oc : Nat), e = .returned (.agg #[.int .i64 id, .string ⟨#[]⟩, .slice a m c, .slice none 0 0, .slice ra rn rc, .slice oa on oc, .int .i64 0, .int .i64 0, .int .i64 0, .int .i64 0, .int .i64 0]) ∧ BrOwn w' w.heap.size a m c none 0 0 ra rn rc oa on oc (bridgeNew id m) ∧ Below w.heap.size w w' := by
 have h6 : m ≤ 6 := by simp at hm; omega
 have HID := hide hid
 have HM := hide hm
 clear hid hm
 generalize hw1 : w.alloc (Obj.cells #[.int .i64 0, .string ⟨#[]⟩, .slice none 0 0, .slice none 0 0, .slice none 0 0, .slice none 0 0, .int .i64 0, .int .i64 0, .int .i64 0, .int .i64 0, .int .i64 0] 71) = w1
 have b1 : Below w.heap.size w w1 := by rw [← hw1]; exact below_one _ _
 have kJ : w1.heap[w.heap.size]? = some (.cells #[.int .i64 0, .string ⟨#[]⟩, .slice none 0 0, .slice none 0 0, .slice none 0 0, .slice none 0 0, .int .i64 0, .int .i64 0, .int .i64 0, .int .i64 0, .int .i64 0] 71) := by rw [← hw1]; exact block_last _ _
 go_enter Tryz.func43, Tryz.ntmps43
 go_wp2_with fail
 refine (within_any id 1 99 _).mono ?_
 rintro r wx ⟨rfl, ew⟩
 obtain rfl := ew.symm
 rw [HID.out]
 go_wp2_with fail
 refine (within_any (m : Int) 1 6 _).mono ?_
 rintro r wx ⟨rfl, ew⟩
 obtain rfl := ew.symm
 rw [HM.out]
 go_wp2_with fail
 refine (specVtabNew_made (m : Int) _).mono ?_
 rintro r w2 ⟨ra, rn, rc, oa, on, oc, rfl, hv, hb2⟩
 have hv := hv.lt (base' := w.heap.size) b1.size
 have b2 := gr_trans b1 hb2
 have kJ := kept_block kJ hb2
 clear hw1 hb2 b1
 go_upto_region 4 with fail
 generalize hw3 : w2.alloc (Obj.cells #[.int .i64 id, .string ⟨#[]⟩, .slice none 0 0, .slice none 0 0, .slice ra rn rc, .slice oa on oc, .int .i64 0, .int .i64 0, .int .i64 0, .int .i64 0, .int .i64 0] 71) = w3
 have b3 : Below w2.heap.size w2 w3 := by rw [← hw3]; exact below_one _ _
 have kX : w3.heap[w2.heap.size]? = some (.cells #[.int .i64 id, .string ⟨#[]⟩, .slice none 0 0, .slice none 0 0, .slice ra rn rc, .slice oa on oc, .int .i64 0, .int .i64 0, .int .i64 0, .int .i64 0, .int .i64 0] 71) := by rw [← hw3]; exact block_last _ _
 have kJ := kept_block kJ b3
 have o3 : BrOwn w3 w.heap.size none 0 0 none 0 0 ra rn rc oa on oc { bridgeNew id m with ports := List.replicate 0 newPt } := ⟨World.ownsRow_nil _ _ _ _, World.ownsRow_nil _ _ _ _, hv.below b3⟩
 have HX : Hid (w.heap.size < w2.heap.size) := hide (Array.getElem?_eq_some_iff.1 (show w2.heap[w.heap.size]? = some (.cells #[.int .i64 0, .string ⟨#[]⟩, .slice none 0 0, .slice none 0 0, .slice none 0 0, .slice none 0 0, .int .i64 0, .int .i64 0, .int .i64 0, .int .i64 0, .int .i64 0] 71) from by assumption)).1
 have b3 := gr_trans b2 b3
 clear hw3 b2 hv
 go_wp2_with fail
 go_loopw [6] (fun i wr => ∃ (k : Nat) (a : Option Addr) (c : Nat), k ≤ m ∧ i = .int .i64 k ∧ wr.heap[w.heap.size]? = some (.cells #[.int .i64 0, .string ⟨#[]⟩, .slice none 0 0, .slice none 0 0, .slice none 0 0, .slice none 0 0, .int .i64 0, .int .i64 0, .int .i64 0, .int .i64 0, .int .i64 0] 71) ∧ wr.heap[w2.heap.size]? = some (.cells #[.int .i64 id, .string ⟨#[]⟩, .slice a k c, .slice none 0 0, .slice ra rn rc, .slice oa on oc, .int .i64 0, .int .i64 0, .int .i64 0, .int .i64 0, .int .i64 0] 71) ∧ BrOwn wr w.heap.size a k c none 0 0 ra rn rc oa on oc { bridgeNew id m with ports := List.replicate k newPt } ∧ Below w.heap.size w wr) (fun i _ => m - (intOf i).toNat)
 case atStart => exact ⟨0, none, 0, Nat.zero_le _, rfl, kJ, kX, o3, b3⟩
 case round =>
  obtain ⟨k, a, c, hk, rfl, kJ, kX, o, hb⟩ := hrel
  clear o3 b3
  obtain ⟨x0, x1, x2, x3, x4, x5, x6, x7, x8, x9, x10⟩ := cells11 kX
  by_cases hlt : k < m
  ·have b9 := below_one wr (.cells #[.bool false, .int .i64 1, .bool false, .int .i64 0, .int .i64 0, .int .i64 0, .int .i64 0, .int .i64 0] 89)
   have o9 := o.below b9
   have p9 := o9.ports
   have kX9 := kept_block kX b9
   have kR9 := kept_block kJ b9
   have HB9 := hide (gr_trans hb b9)
   have hbase9 : w.heap.size ≤ (wr.alloc (.cells #[.bool false, .int .i64 1, .bool false, .int .i64 0, .int .i64 0, .int .i64 0, .int .i64 0, .int .i64 0] 89)).heap.size := HB9.out.size
   have HO9 := hide o9
   have KX9 := hide kX9
   have KR9 := hide kR9
   clear hb b9 o9 kX9 kR9 o kX kJ
   go_wp2_with (at_builtin; refine pt_append _ rfl _ _ rfl w.heap.size _ k (List.replicate k newPt) rfl p9 _ 1 1 [newPt] rfl (grow_one ptF _ newPt _ _ rfl) (by omega) hbase9 ?_)
   rintro a' c' wz oz - gz bz
   have kz := kept_grown KX9.out gz (fun i e => box_ne HO9.out.ports KX9.out (by decide) i e)
   have rz := kept_grown KR9.out gz (fun i e => box_ne HO9.out.ports KR9.out (by decide) i e)
   have hrep : List.replicate k newPt ++ [newPt] = List.replicate (k + 1) newPt := by rw [List.replicate_succ']
   rw [hrep] at oz
   have on := HO9.out.newPorts gz oz
   have HON := hide (BrOwn.boxed on kz 2 (.slice a' (k + 1) c'))
   have HKX := hide (box11 kz 2 (.slice a' (k + 1) c'))
   have HKR : Hid ((wz.setCell ⟨w2.heap.size, 2, none⟩ (.slice a' (k + 1) c')).heap[w.heap.size]? = some (.cells #[.int .i64 0, .string ⟨#[]⟩, .slice none 0 0, .slice none 0 0, .slice none 0 0, .slice none 0 0, .int .i64 0, .int .i64 0, .int .i64 0, .int .i64 0, .int .i64 0] 71)) := hide (kept_set rz (Nat.ne_of_lt HX.out))
   have HBZ := hide (below_set (g := w2.heap.size) (HB9.out.trans bz) (Nat.le_of_lt HX.out) 2 (.slice a' (k + 1) c'))
   have fz := frozen8 kz 2
   obtain ⟨-, -, y2, -⟩ := cells11 kz
   clear x0 x1 x2 x3 x4 x5 x6 x7 x8 x9 x10 kz rz gz bz oz on p9 hbase9
   go_wp2
   go_roundw
   case rel => exact ⟨k + 1, a', c', by omega, by go_num, HKR.out, HKX.out, HON.out, HBZ.out⟩
   case measure => simp [intOf]; omega
  ·have hkm : k = m := by omega
   subst hkm
   obtain ⟨z0, z1, z2, z3, z4, z5, z6, z7, z8, z9, z10⟩ := cells11 kJ
   have f0 := frozen8 kJ
   have ne1 : ¬ w2.heap.size = w.heap.size := by have := HX.out; omega
   have ne2 : ¬ w.heap.size = w2.heap.size := by have := HX.out; omega
   have HO := hide (o.boxed11 kJ (.int .i64 id) (.string ⟨#[]⟩) (.slice a k c) (.slice none 0 0) (.slice ra rn rc) (.slice oa on oc) (.int .i64 0) (.int .i64 0) (.int .i64 0) (.int .i64 0) (.int .i64 0))
   have HB := hide (below_set11 hb (Nat.le_refl w.heap.size) (.int .i64 id) (.string ⟨#[]⟩) (.slice a k c) (.slice none 0 0) (.slice ra rn rc) (.slice oa on oc) (.int .i64 0) (.int .i64 0) (.int .i64 0) (.int .i64 0) (.int .i64 0))
   clear o hb kX kJ
   go_wp2
   exact bodyPost_ret (v := .agg #[.int .i64 id, .string ⟨#[]⟩, .slice a k c, .slice none 0 0, .slice ra rn rc, .slice oa on oc, .int .i64 0, .int .i64 0, .int .i64 0, .int .i64 0, .int .i64 0]) (by simp [results, Tryz.results43, go_sem, *]) rfl ⟨a, c, ra, rn, rc, oa, on, oc, rfl, HO.out, HB.out⟩

structure BcSt (w wr : World) (R X : Nat) (cs : Array Value) : Prop where
 box : wr.heap[X]? = some (.cells cs 71)
 res : wr.heap[R]? = some (.cells #[.int .i64 0, .string ⟨#[]⟩, .slice none 0 0, .slice none 0 0, .slice none 0 0, .slice none 0 0, .int .i64 0, .int .i64 0, .int .i64 0, .int .i64 0, .int .i64 0] 71)
 below : Below w.heap.size w wr
 hX : w.heap.size ≤ X
 hR : w.heap.size ≤ R
 ne : R ≠ X

theorem BcSt.later {w wr wx : World} {R X : Nat} {cs : Array Value} (h : BcSt w wr R X cs) (hb : Below wr.heap.size wr wx) : BcSt w wx R X cs :=
 ⟨kept_block h.box hb, kept_block h.res hb, gr_trans h.below hb, h.hX, h.hR, h.ne⟩

theorem BcSt.put {w wr : World} {R X : Nat} {cs : Array Value} (h : BcSt w wr R X cs) (j : Nat) (u : Value) {cs' : Array Value} (he : cs.setIfInBounds j u = cs') : BcSt w (wr.setCell ⟨X, j, none⟩ u) R X cs' :=
 ⟨by rw [← he]; exact box11 h.box j u, kept_set h.res h.ne, below_set h.below h.hX j u, h.hX, h.hR, h.ne⟩

theorem BcSt.grown {w wr wx : World} {R X : Nat} {cs : Array Value} (h : BcSt w wr R X cs) {base k : Nat} {e : TypeId} {v : Value} {n : Nat} {xs : List Value} (ho : wr.ownsRow base e k v n xs) (hne : (e : Nat) ≠ 71) (hg : wr.grownBy wx v.ownBlock) (hb : Below w.heap.size wr wx) : BcSt w wx R X cs :=
 ⟨kept_grown h.box hg (fun i e => box_ne ho h.box hne i e), kept_grown h.res hg (fun i e => box_ne ho h.res hne i e), h.below.trans hb, h.hX, h.hR, h.ne⟩

theorem BcSt.stay {w wr : World} {R X : Nat} {cs : Array Value} (h : BcSt w wr R X cs) {base k : Nat} {e : TypeId} {v : Value} {n : Nat} {xs : List Value} (ho : wr.ownsRow base e k v n xs) (hne : (e : Nat) ≠ 71) (j : Nat) (u : Value) : (wr.setCell ⟨X, j, none⟩ u).ownsRow base e k v n xs :=
 gown_other ho (grown_set (rb := X) j u) (box_ne ho h.box hne)

theorem BcSt.out {w wr : World} {R X : Nat} {cs : Array Value} (h : BcSt w wr R X cs) {base : Nat} {a : Option Addr} {n c : Nat} {fa : Option Addr} {fn fc : Nat} {ra : Option Addr} {rn rc : Nat} {oa : Option Addr} {on oc : Nat} {B : BR} (ho : BrOwn wr base a n c fa fn fc ra rn rc oa on oc B) (u0 u1 u2 u3 u4 u5 u6 u7 u8 u9 u10 : Value) : BrOwn (((((((((((wr.setCell ⟨R, 0, none⟩ u0).setCell ⟨R, 1, none⟩ u1).setCell ⟨R, 2, none⟩ u2).setCell ⟨R, 3, none⟩ u3).setCell ⟨R, 4, none⟩ u4).setCell ⟨R, 5, none⟩ u5).setCell ⟨R, 6, none⟩ u6).setCell ⟨R, 7, none⟩ u7).setCell ⟨R, 8, none⟩ u8).setCell ⟨R, 9, none⟩ u9).setCell ⟨R, 10, none⟩ u10) base a n c fa fn fc ra rn rc oa on oc B ∧ Below w.heap.size w (((((((((((wr.setCell ⟨R, 0, none⟩ u0).setCell ⟨R, 1, none⟩ u1).setCell ⟨R, 2, none⟩ u2).setCell ⟨R, 3, none⟩ u3).setCell ⟨R, 4, none⟩ u4).setCell ⟨R, 5, none⟩ u5).setCell ⟨R, 6, none⟩ u6).setCell ⟨R, 7, none⟩ u7).setCell ⟨R, 8, none⟩ u8).setCell ⟨R, 9, none⟩ u9).setCell ⟨R, 10, none⟩ u10) :=
 ⟨ho.boxed11 h.res u0 u1 u2 u3 u4 u5 u6 u7 u8 u9 u10, below_set11 h.below h.hR u0 u1 u2 u3 u4 u5 u6 u7 u8 u9 u10⟩

def otherEnd (b p : Int) (x : LK) : Option (Int × Int) := if x.a = b ∧ x.p = p then some (x.b, x.q) else if x.b = b ∧ x.q = p then some (x.a, x.p) else none
def besideL (ls : List LK) (b p : Int) : Option (Int × Int) := ls.findSome? (otherEnd b p)
def besideV (o : Option (Int × Int)) : Value := match o with
 | some (x, y) => .tuple #[.int .i64 x, .int .i64 y, .bool true]
 | none => .tuple #[.int .i64 (-1), .int .i64 (-1), .bool false]

theorem beside_none {ls : List LK} {b p : Int} (h : ∀ x ∈ ls, otherEnd b p x = none) : besideL ls b p = none := by
 unfold besideL
 exact List.findSome?_eq_none_iff.2 h

theorem beside_hit {ls : List LK} {b p : Int} {k : Nat} {x : LK} (hx : ls[k]? = some x) (hn : ∀ y ∈ ls.take k, otherEnd b p y = none) {q : Int × Int} (hq : otherEnd b p x = some q) : besideL ls b p = some q := by
 have hk := (List.getElem?_eq_some_iff.1 hx).1
 have e : ls = ls.take k ++ x :: ls.drop (k + 1) := by
  obtain ⟨h, rfl⟩ := List.getElem?_eq_some_iff.1 hx
  rw [← List.drop_eq_getElem_cons h, List.take_append_drop]
 unfold besideL
 rw [e, List.findSome?_append, List.findSome?_eq_none_iff.2 hn, Option.none_or, List.findSome?_cons, hq]

theorem take_none {ls : List LK} {b p : Int} {k : Nat} {x : LK} (hx : ls[k]? = some x) (hn : ∀ y ∈ ls.take k, otherEnd b p y = none) (hq : otherEnd b p x = none) : ∀ y ∈ ls.take (k + 1), otherEnd b p y = none := by
 rw [List.take_add_one, hx]
 intro y hy
 rcases List.mem_append.1 hy with hy | hy
 ·exact hn y hy
 ·have := List.mem_singleton.1 (by simpa using hy); rw [this]; exact hq

theorem cells4n {w : World} {g : Nat} {T : TypeId} {c0 c1 c2 c3 : Value} (h : w.heap[g]? = some (.cells #[c0, c1, c2, c3] T)) : w.cell? ⟨g, 0, none⟩ = some c0 ∧ w.cell? ⟨g, 1, none⟩ = some c1 ∧ w.cell? ⟨g, 2, none⟩ = some c2 ∧ w.cell? ⟨g, 3, none⟩ = some c3 := by
 simp [World.cell?, h]

theorem cells2n {w : World} {g : Nat} {T : TypeId} {c0 c1 : Value} (h : w.heap[g]? = some (.cells #[c0, c1] T)) : w.cell? ⟨g, 0, none⟩ = some c0 ∧ w.cell? ⟨g, 1, none⟩ = some c1 := by
 simp [World.cell?, h]

theorem cells3m {w : World} {g : Nat} {T : TypeId} {c0 c1 c2 : Value} (h : w.heap[g]? = some (.cells #[c0, c1, c2] T)) : w.cell? ⟨g, 0, none⟩ = some c0 ∧ w.cell? ⟨g, 1, none⟩ = some c1 ∧ w.cell? ⟨g, 2, none⟩ = some c2 := by
 simp [World.cell?, h]

theorem end_eql (a b a' b' : Int) (w : World) : (binOp .eql 77 (.agg #[.int .i64 a, .int .i64 b]) (.agg #[.int .i64 a', .int .i64 b'])).run Tryz.prog w = .ok (.bool ((a == a') && (b == b'))) w := by
 have u3 := Tryz.underlying3
 have a3 := Tryz.isAgg3
 have z3 := Tryz.sizeOf3
 have hS : Tryz.prog.underlying 77 = some (.struct (Tryz.prog.fieldsOf 77)) := by kernel_rfl
 have hp : Tryz.prog.stoodInHeld 77 = false := by kernel_rfl
 rw [run_eql_struct, show (10000 : Nat) = 9999 + 1 from rfl, run_equalIn_agg w 9999 77 _ _ hS hp]
 simp only [Program.fieldsOf, Tryz.underlying77]
 go_simp
 by_cases h1 : a = a' <;> by_cases h2 : b = b' <;> simp [h1, h2]

set_option maxRecDepth 100000 in
set_option maxHeartbeats 1000000 in
theorem endsOf_any (x : LK) (w : World) : Calls Tryz.prog 41 #[.agg #[.int .i64 x.a, .int .i64 x.p, .int .i64 x.b, .int .i64 x.q]] w fun e w' => e = .returned (.agg #[.int .i64 x.a, .int .i64 x.p, .int .i64 x.b, .int .i64 x.q]) ∧ Below w.heap.size w w' := by
 go_enter Tryz.func41, Tryz.ntmps41
 go_wp2
 exact bodyPost_ret (v := .agg #[.int .i64 x.a, .int .i64 x.p, .int .i64 x.b, .int .i64 x.q]) (by simp [results, Tryz.results41, go_sem, *]) rfl ⟨rfl, below_two _ _ _⟩

set_option maxRecDepth 100000 in
set_option maxHeartbeats 4000000 in
theorem implBeside_any (N : NV) (b p : Int) (w : World) (h : NetRow w N) :
  Calls Tryz.prog 10 #[.agg #[.slice N.ba N.bn N.bc, .slice N.la N.ln N.lc, .slice N.sa N.sn N.sc], .int .i64 b, .int .i64 p] w fun e w' => e = .returned (besideV (besideL N.ls b p)) ∧ Below w.heap.size w w' := by
 obtain ⟨ba, bn, bc, bs, la, ln, lc, ls, sa, sn, sc, ss⟩ := N
 obtain ⟨-, -, hL, -⟩ := h
 dsimp only at hL ⊢
 have hle := Nat.le_trans hL.le hL.top
 unfold maxLen at hle
 have hsz := hide hL.size
 generalize hw1 : w.alloc (Obj.cells #[.slice ba bn bc, .slice la ln lc, .slice sa sn sc] 31) = w1
 generalize hw2 : w1.alloc (Obj.cells #[.int .i64 b, .int .i64 p] 77) = w2
 have b01 : Below w.heap.size w w1 := by rw [← hw1]; exact below_one _ _
 have b12 : Below w1.heap.size w1 w2 := by rw [← hw2]; exact below_one _ _
 have k1 : w2.heap[w.heap.size]? = some (.cells #[.slice ba bn bc, .slice la ln lc, .slice sa sn sc] 31) := kept_block (by rw [← hw1]; exact block_last _ _) b12
 have k2 : w2.heap[w1.heap.size]? = some (.cells #[.int .i64 b, .int .i64 p] 77) := by rw [← hw2]; exact block_last _ _
 have b02 := gr_trans b01 b12
 obtain ⟨x0, x1, x2⟩ := cells3m k1
 go_enter Tryz.func10, Tryz.ntmps10
 go_wp2_with fail
 generalize hX : w1.heap.size = X at *
 clear hw1 hw2 x0 x1 x2
 go_loopw [19] (fun i wr => ∃ k : Nat, k ≤ ln ∧ i = .int .i64 k ∧ (∀ y ∈ ls.take k, otherEnd b p y = none) ∧ wr.heap[X]? = some (.cells #[.int .i64 b, .int .i64 p] 77) ∧ Below w.heap.size w wr) (fun i _ => ln - (intOf i).toNat)
 case atStart => exact ⟨0, Nat.zero_le _, rfl, by intro y hy; simp at hy, k2, b02⟩
 case round =>
  obtain ⟨k, hk, rfl, hn, hbox, hb⟩ := hrel
  clear k1 k2 b02 b01 b12
  by_cases hlt : k < ln
  ·obtain ⟨x, lb, off, hx, rfl, a0, a1, a2, a3⟩ := link_at (hL.below hb) k hlt
   have i1 : (0 : Int) ≤ (k : Int) := by omega
   have i2 : (k : Int) < (ln : Int) := by omega
   have HX := hide hx
   have HN := hide hn
   generalize hwa : wr.alloc (Obj.cells #[.int .i64 x.a, .int .i64 x.p, .int .i64 x.b, .int .i64 x.q] 44) = wa
   have ba : Below wr.heap.size wr wa := by rw [← hwa]; exact below_one _ _
   have ka : wa.heap[wr.heap.size]? = some (.cells #[.int .i64 x.a, .int .i64 x.p, .int .i64 x.b, .int .i64 x.q] 44) := by rw [← hwa]; exact block_last _ _
   have hbx := kept_block hbox ba
   have hba := gr_trans hb ba
   obtain ⟨y0, y1, y2, y3⟩ := cells4n ka
   clear hx hn hb hbox
   go_wp2_with fail
   refine (endsOf_any x _).mono ?_
   rintro e we ⟨rfl, hbe⟩
   have ke := kept_block ka hbe
   have hbx := kept_block hbx hbe
   have hbe' := gr_trans hba hbe
   generalize hR : wr.heap.size = R at *
   clear hwa y0 y1 y2 y3 ka ba hbe hba a0 a1 a2 a3
   generalize hwq : we.alloc (Obj.cells #[.int .i64 x.a, .int .i64 x.p, .int .i64 x.b, .int .i64 x.q] 78) = wq
   have bq : Below we.heap.size we wq := by rw [← hwq]; exact below_one _ _
   have kq : wq.heap[we.heap.size]? = some (.cells #[.int .i64 x.a, .int .i64 x.p, .int .i64 x.b, .int .i64 x.q] 78) := by rw [← hwq]; exact block_last _ _
   have ke := kept_block ke bq
   have hbx := kept_block hbx bq
   have HBQ := hide (gr_trans hbe' bq)
   obtain ⟨y0, y1, y2, y3⟩ := cells4n ke
   obtain ⟨z0, z1, z2, z3⟩ := cells4n kq
   obtain ⟨u0, u1⟩ := cells2n hbx
   have HBX := hide hbx
   clear hbe' bq ke kq hbx
   have hgd : Tryz.prog.eqGuardType Tryz.prog.depth 77 = false := by kernel_rfl
   by_cases e1 : x.a = b ∧ x.p = p
   ·have HG : Hid (besideL ls b p = some (x.b, x.q)) := hide (beside_hit HX.out HN.out (by unfold otherEnd; rw [if_pos e1]))
    have he : ∀ W, (binOp .eql 77 (.agg #[.int .i64 b, .int .i64 p]) (.agg #[.int .i64 x.a, .int .i64 x.p])).run Tryz.prog W = .ok (.bool true) W := fun W => by rw [end_eql, e1.1, e1.2]; simp
    clear e1
    go_wp2_with fail
    go_region
    go_wp2
    rw [HG.out]
    exact bodyPost_ret (v := .tuple #[.int .i64 x.b, .int .i64 x.q, .bool true]) (by simp [results, Tryz.results10, go_sem, *]) rfl ⟨rfl, gr_drew HBQ.out⟩
   ·have he : ∀ W, (binOp .eql 77 (.agg #[.int .i64 b, .int .i64 p]) (.agg #[.int .i64 x.a, .int .i64 x.p])).run Tryz.prog W = .ok (.bool false) W := fun W => by
     rw [end_eql, show ((b == x.a) && (p == x.p)) = false by
      cases h1 : (b == x.a) && (p == x.p)
      ·rfl
      ·simp at h1; exact absurd ⟨h1.1.symm, h1.2.symm⟩ e1]
    by_cases e2 : x.b = b ∧ x.q = p
    ·have HG : Hid (besideL ls b p = some (x.a, x.p)) := hide (beside_hit HX.out HN.out (by unfold otherEnd; rw [if_neg e1, if_pos e2]))
     have he2 : ∀ W, (binOp .eql 77 (.agg #[.int .i64 b, .int .i64 p]) (.agg #[.int .i64 x.b, .int .i64 x.q])).run Tryz.prog W = .ok (.bool true) W := fun W => by rw [end_eql, e2.1, e2.2]; simp
     clear e1 e2
     go_wp2_with fail
     go_region
     go_wp2
     rw [HG.out]
     exact bodyPost_ret (v := .tuple #[.int .i64 x.a, .int .i64 x.p, .bool true]) (by simp [results, Tryz.results10, go_sem, *]) rfl ⟨rfl, gr_drew HBQ.out⟩
    ·have HT := hide (take_none HX.out HN.out (by unfold otherEnd; rw [if_neg e1, if_neg e2]))
     have he2 : ∀ W, (binOp .eql 77 (.agg #[.int .i64 b, .int .i64 p]) (.agg #[.int .i64 x.b, .int .i64 x.q])).run Tryz.prog W = .ok (.bool false) W := fun W => by
      rw [end_eql, show ((b == x.b) && (p == x.q)) = false by
       cases h1 : (b == x.b) && (p == x.q)
       ·rfl
       ·simp at h1; exact absurd ⟨h1.1.symm, h1.2.symm⟩ e2]
     clear e1 e2
     go_wp2
     go_roundw
     case rel => exact ⟨k + 1, by omega, by go_num, HT.out, HBX.out, HBQ.out⟩
     case measure => simp [intOf]; omega
  ·have hkn : k = ln := by omega
   rw [List.take_of_length_le (by have := hsz.out; omega)] at hn
   have HG := hide (beside_none hn)
   subst hkn
   go_wp2
   rw [HG.out]
   exact bodyPost_ret (v := .tuple #[.int .i64 (-1), .int .i64 (-1), .bool false]) (by simp [results, Tryz.results10, go_sem, *]) rfl ⟨rfl, hb⟩

abbrev q88 : Oper := ⟨some 10, .move (.tmp 5), 63, "l13_net.go:99", #[], none⟩
abbrev q89 : Oper := ⟨some 11, .binOp .eql 63 (.tmp 10) (.const (.pointer none)) 63, 4, "l13_net.go:99", #[⟨0, .data⟩], none⟩
abbrev q90 : Oper := ⟨some 12, .move (.tmp 11), 4, "l13_net.go:99", #[⟨1, .data⟩], none⟩
abbrev q91 : Oper := ⟨some 13, .move (.tmp 5), 63, "l13_net.go:99", #[⟨2, .guard⟩], some (2, false)⟩
abbrev q92 : Oper := ⟨some 14, .nilCheck (.tmp 13), 0, "l13_net.go:99", #[⟨3, .data⟩, ⟨2, .guard⟩], some (2, false)⟩
abbrev q93 : Oper := ⟨some 15, .fieldAddr 71 (.tmp 14) 2, 0, "l13_net.go:99", #[⟨4, .data⟩, ⟨2, .guard⟩], some (2, false)⟩
abbrev q94 : Oper := ⟨some 16, .load 65 (.tmp 15), 65, "l13_net.go:99", #[⟨5, .data⟩, ⟨2, .guard⟩], some (2, false)⟩
abbrev q95 : Oper := ⟨some 17, .fieldAddr 77 (.tmp 3) 1, 0, "l13_net.go:99", #[⟨2, .guard⟩], some (2, false)⟩
abbrev q96 : Oper := ⟨some 18, .load 3 (.tmp 17), 3, "l13_net.go:99", #[⟨7, .data⟩, ⟨2, .guard⟩], some (2, false)⟩
abbrev q97 : Oper := ⟨some 19, .call ⟨.value (.func 88), #[.tmp 16, .tmp 18], #[124, 3]⟩, 4, "l13_net.go:99", #[⟨6, .data⟩, ⟨8, .data⟩, ⟨2, .chain⟩, ⟨2, .guard⟩], some (2, false)⟩
abbrev q98 : Oper := ⟨some 20, .unOp .not 4 (.tmp 19), 4, "l13_net.go:99", #[⟨9, .data⟩, ⟨2, .guard⟩], some (2, false)⟩
abbrev q99 : Oper := ⟨some 21, .pick (.tmp 12) (.const (.bool true)) (.tmp 20), 4, "l13_net.go:99", #[⟨2, .data⟩, ⟨10, .data⟩], none⟩

def portOf (bs : List BR) (b p : Int) : Option PT := if 0 ≤ b ∧ 0 ≤ p then (bs[b.toNat]?).bind (fun B => B.ports[p.toNat]?) else none
def upAt (bs : List BR) (b p : Int) : Bool := match portOf bs b p with
 | some x => x.up
 | none => false
def linkUp (bs : List BR) (ls : List LK) (k : Int) : Bool := if 0 ≤ k then (match ls[k.toNat]? with
 | some x => upAt bs x.a x.p && upAt bs x.b x.q
 | none => false) else false

theorem brs_at {N : NV} {k : Nat} {x : BV} (h : N.bs[k]? = some x) : N.brs[k]? = some x.B := by unfold NV.brs; rw [List.getElem?_map, h]; rfl
theorem brs_len (N : NV) : N.brs.length = N.bs.length := by unfold NV.brs; simp

theorem port_no {bs : List BR} {b p : Int} (h : (decide (0 ≤ b) && decide (b ≤ (bs.length : Int) - 1)) = false) : portOf bs b p = none := by
 unfold portOf
 split
 ·rename_i hc
  rw [List.getElem?_eq_none (by simp at h; omega)]
  rfl
 ·rfl
theorem port_at {bs : List BR} {k : Nat} {B : BR} (h : bs[k]? = some B) (p : Int) : portOf bs (k : Int) p = if 0 ≤ p then B.ports[p.toNat]? else none := by
 unfold portOf
 by_cases hp : 0 ≤ p
 ·rw [if_pos ⟨by omega, hp⟩, if_pos hp, Int.toNat_natCast, h]; rfl
 ·rw [if_neg (fun hc => hp hc.2), if_neg hp]
theorem port_out {bs : List BR} {k : Nat} {B : BR} (h : bs[k]? = some B) {p : Int} (hp : (decide (0 ≤ p) && decide (p ≤ (B.ports.length : Int) - 1)) = false) : portOf bs (k : Int) p = none := by
 rw [port_at h]
 split
 ·exact List.getElem?_eq_none (by simp at hp; omega)
 ·rfl
theorem port_in {bs : List BR} {k : Nat} {B : BR} (h : bs[k]? = some B) {j : Nat} {y : PT} (hy : B.ports[j]? = some y) : portOf bs (k : Int) (j : Int) = some y := by
 rw [port_at h, if_pos (by omega), Int.toNat_natCast, hy]

theorem implHas13 (a : Option Addr) (n c : Nat) (port : Int) (w : World) (hn : n ≤ 9223372036854775807) :
  Calls Tryz.prog 88 #[.slice a n c, .int .i64 port] w fun e w' => e = .returned (.bool (decide (0 ≤ port) && decide (port ≤ (n : Int) - 1))) ∧ w' = w := by
 go_enter Tryz.func88, Tryz.ntmps88
 go_wp2_with fail
 refine (implWithin_any port 0 ((n : Int) - 1) _).mono ?_
 rintro r w3 ⟨rfl, ew⟩
 obtain rfl := ew.symm
 go_wp2
 go_ret
 exact ⟨rfl, rfl⟩

set_option maxRecDepth 100000 in
set_option maxHeartbeats 1000000 in
theorem bridgeAt_no (N : NV) (b : Int) (w : World) (hle : N.bn ≤ 9223372036854775807) (hA : (decide (0 ≤ b) && decide (b ≤ (N.bn : Int) - 1)) = false) :
  Calls Tryz.prog 36 #[.agg #[.slice N.ba N.bn N.bc, .slice N.la N.ln N.lc, .slice N.sa N.sn N.sc], .int .i64 b] w fun e w' => e = .returned (.pointer none) ∧ Below w.heap.size w w' := by
 generalize hw1 : w.alloc (Obj.cells #[.slice N.ba N.bn N.bc, .slice N.la N.ln N.lc, .slice N.sa N.sn N.sc] 31) = w1
 have b01 : Below w.heap.size w w1 := by rw [← hw1]; exact below_one _ _
 have k1 : w1.heap[w.heap.size]? = some (.cells #[.slice N.ba N.bn N.bc, .slice N.la N.ln N.lc, .slice N.sa N.sn N.sc] 31) := by rw [← hw1]; exact block_last _ _
 obtain ⟨x0, x1, x2⟩ := cells3m k1
 go_enter Tryz.func36, Tryz.ntmps36
 go_wp2_with fail
 refine (implWithin_any b 0 ((N.bn : Int) - 1) _).mono ?_
 rintro e w2 ⟨rfl, ew⟩
 obtain rfl := ew.symm
 rw [hA]
 clear hA
 go_wp2
 go_ret
 exact ⟨rfl, b01⟩

set_option maxRecDepth 100000 in
set_option maxHeartbeats 1000000 in
theorem bridgeAt_yes (N : NV) (k : Nat) (g off : Nat) (w : World) (hle : N.bn ≤ 9223372036854775807) (hk : k < N.bn) (hba : N.ba = some ⟨g, off, none⟩) :
  Calls Tryz.prog 36 #[.agg #[.slice N.ba N.bn N.bc, .slice N.la N.ln N.lc, .slice N.sa N.sn N.sc], .int .i64 (k : Int)] w fun e w' => e = .returned (.pointer (some ⟨g, off + k * 11, none⟩)) ∧ Below w.heap.size w w' := by
 generalize hw1 : w.alloc (Obj.cells #[.slice N.ba N.bn N.bc, .slice N.la N.ln N.lc, .slice N.sa N.sn N.sc] 31) = w1
 have b01 : Below w.heap.size w w1 := by rw [← hw1]; exact below_one _ _
 have k1 : w1.heap[w.heap.size]? = some (.cells #[.slice N.ba N.bn N.bc, .slice N.la N.ln N.lc, .slice N.sa N.sn N.sc] 31) := by rw [← hw1]; exact block_last _ _
 obtain ⟨x0, x1, x2⟩ := cells3m k1
 have hA : (decide (0 ≤ (k : Int)) && decide ((k : Int) ≤ (N.bn : Int) - 1)) = true := by simp; omega
 have i1 : (0 : Int) ≤ (k : Int) := by omega
 have i2 : (k : Int) < (N.bn : Int) := by omega
 rw [hba] at x0
 clear hba
 go_enter Tryz.func36, Tryz.ntmps36
 go_wp2_with fail
 refine (implWithin_any (k : Int) 0 ((N.bn : Int) - 1) _).mono ?_
 rintro e w2 ⟨rfl, ew⟩
 obtain rfl := ew.symm
 rw [hA]
 clear hA
 go_wp2
 go_ret
 exact ⟨rfl, b01⟩

def PtAt (w : World) (v : Option Addr) (o : Option PT) : Prop := match o with
 | none => v = none
 | some y => ∃ g j : Nat, v = some ⟨g, j, none⟩ ∧ w.cell? ⟨g, j, none⟩ = some (.bool y.up)

set_option maxRecDepth 100000 in
set_option maxHeartbeats 4000000 in
theorem portAt_any (N : NV) (b p : Int) (w : World) (h : NetRow w N) :
  Calls Tryz.prog 53 #[.agg #[.slice N.ba N.bn N.bc, .slice N.la N.ln N.lc, .slice N.sa N.sn N.sc], .agg #[.int .i64 b, .int .i64 p]] w fun e w' => ∃ v, e = .returned (.pointer v) ∧ PtAt w v (portOf N.brs b p) ∧ Below w.heap.size w w' := by
 have hle := Nat.le_trans h.b.le h.b.top
 unfold maxLen at hle
 have hsz := h.b.size
 generalize hw1 : w.alloc (Obj.cells #[.slice N.ba N.bn N.bc, .slice N.la N.ln N.lc, .slice N.sa N.sn N.sc] 31) = w1
 generalize hw2 : w1.alloc (Obj.cells #[.int .i64 b, .int .i64 p] 77) = w2
 have b01 : Below w.heap.size w w1 := by rw [← hw1]; exact below_one _ _
 have b12 : Below w1.heap.size w1 w2 := by rw [← hw2]; exact below_one _ _
 have kNe : w2.heap[w.heap.size]? = some (.cells #[.slice N.ba N.bn N.bc, .slice N.la N.ln N.lc, .slice N.sa N.sn N.sc] 31) := kept_block (by rw [← hw1]; exact block_last _ _) b12
 have kE : w2.heap[w1.heap.size]? = some (.cells #[.int .i64 b, .int .i64 p] 77) := by rw [← hw2]; exact block_last _ _
 have b02 := gr_trans b01 b12
 obtain ⟨x0, x1, x2⟩ := cells3m kNe
 obtain ⟨e0, e1⟩ := cells2n kE
 cases hA : (decide (0 ≤ b) && decide (b ≤ (N.bn : Int) - 1))
 ·have HF := hide (port_no (bs := N.brs) (b := b) (p := p) (by rw [brs_len, hsz]; exact hA))
  go_enter Tryz.func53, Tryz.ntmps53
  go_wp2_with fail
  refine (bridgeAt_no N b _ hle hA).mono ?_
  rintro e w3 ⟨rfl, hb3⟩
  have b03 := gr_trans b02 hb3
  clear x0 x1 x2 e0 e1 hb3
  have vv : Below w3.heap.size w3 w3.drew := gr_drew (Below.refl _ _)
  go_wp2_with fail
  refine wp_region_held_drew (S := (fun _ => True)) (by kernel_rfl) (trivial) (fun hHeld => ?_)
  refine kK 0 q88 ?_
  refine kK 1 q89 ?_
  refine kK 2 q90 ?_
  refine kN 3 q91 ?_
  refine kN 4 q92 ?_
  refine kN 5 q93 ?_
  refine kN 6 q94 ?_
  refine kN 7 q95 ?_
  refine kN 8 q96 ?_
  refine kN 9 q97 ?_
  refine kN 10 q98 ?_
  refine kK 11 q99 ?_
  refine wpAnyH_done (by kernel_rfl) ?_ _
  have HB := hide (gr_trans b03 vv)
  clear hHeld vv
  go_wp2
  go_ret
  exact ⟨none, rfl, by rw [HF.out]; rfl, HB.out⟩
 ·obtain ⟨k, rfl⟩ : ∃ k : Nat, b = (k : Int) := ⟨b.toNat, by simp at hA; omega⟩
  have hk : k < N.bn := by simp at hA; omega
  obtain ⟨x, bb, off, hx, hba, cc0, cc1, cc2, -⟩ := br_at h.b k hk
  have hr := h.item x (List.mem_of_getElem? hx)
  have hpl := Nat.le_trans hr.ports.le hr.ports.top
  unfold maxLen at hpl
  have HX := hide (brs_at hx)
  have HBA := hide hba
  clear hx hA hba
  go_enter Tryz.func53, Tryz.ntmps53
  go_wp2_with fail
  refine (bridgeAt_yes N k bb off _ hle hk HBA.out).mono ?_
  rintro e w3 ⟨rfl, hb3⟩
  have b03 := gr_trans b02 hb3
  have kE := kept_block kE hb3
  have c2 := (b03.cell (block_lt cc2)).trans cc2
  clear x0 x1 x2 e0 e1 hb3 cc0 cc1 cc2
  obtain ⟨e0, e1⟩ := cells2n kE
  generalize hR : w1.heap.size = R at *
  have vv : Below w3.heap.size w3 w3.drew := gr_drew (Below.refl _ _)
  go_wp2_with fail
  cases hB : (decide (0 ≤ p) && decide (p ≤ (x.n : Int) - 1))
  ·have HF := hide (port_out HX.out (by rw [hr.ports.size]; exact hB))
   refine wp_region_held_drew (S := (fun W => W.cell? ⟨bb, off + k * 11 + 2, none⟩ = some (.slice x.a x.n x.c) ∧ W.cell? ⟨R, 1, none⟩ = some (.int .i64 p))) (by kernel_rfl) (⟨(vv.cell (block_lt c2)).trans c2, (cells2n (kept_block kE vv)).2⟩) (fun hHeld => ?_)
   refine kK 0 q88 ?_
   refine kK 1 q89 ?_
   refine kK 2 q90 ?_
   refine kK 3 q91 ?_
   refine kK 4 q92 ?_
   refine kK 5 q93 ?_
   refine kK 6 q94 ?_
   refine kK 7 q95 ?_
   refine kK 8 q96 ?_
   refine kR 9 q97 (fun K hK => ?_)
   go_simp
   refine (implHas13 x.a x.n x.c p _ hpl).mono ?_
   rintro r wz ⟨rfl, ew⟩
   obtain rfl := ew.symm
   rw [hB]
   go_wp2_with fail
   refine hK.out _ _ (⟨(vv.cell (block_lt c2)).trans c2, (cells2n (kept_block kE vv)).2⟩) (fun hHeld => ?_)
   clear hK K
   try simp only [Act.put, lA, lB, lC]
   refine kK 10 q98 ?_
   refine kK 11 q99 ?_
   refine wpAnyH_done (by kernel_rfl) ?_ _
   have HB := hide (gr_trans b03 vv)
   clear hHeld vv c2 kE
   go_wp2
   go_ret
   exact ⟨none, rfl, by rw [HF.out]; rfl, HB.out⟩
  ·obtain ⟨j, rfl⟩ : ∃ j : Nat, p = (j : Int) := ⟨p.toNat, by simp at hB; omega⟩
   have hj : j < x.n := by simp at hB; omega
   obtain ⟨y, pb, po, hy, hpa, d0, -⟩ := pt_at hr.ports j hj
   have HF := hide (port_in HX.out hy)
   have i3 : (0 : Int) ≤ (j : Int) := by omega
   have i4 : (j : Int) < (x.n : Int) := by omega
   have HD := hide d0
   rw [hpa] at c2
   clear hpa d0
   refine wp_region_held_drew (S := (fun W => W.cell? ⟨bb, off + k * 11 + 2, none⟩ = some (.slice (some ⟨pb, po, none⟩) x.n x.c) ∧ W.cell? ⟨R, 1, none⟩ = some (.int .i64 (j : Int)))) (by kernel_rfl) (⟨(vv.cell (block_lt c2)).trans c2, (cells2n (kept_block kE vv)).2⟩) (fun hHeld => ?_)
   refine kK 0 q88 ?_
   refine kK 1 q89 ?_
   refine kK 2 q90 ?_
   refine kK 3 q91 ?_
   refine kK 4 q92 ?_
   refine kK 5 q93 ?_
   refine kK 6 q94 ?_
   refine kK 7 q95 ?_
   refine kK 8 q96 ?_
   refine kR 9 q97 (fun K hK => ?_)
   go_simp
   refine (implHas13 (some ⟨pb, po, none⟩) x.n x.c (j : Int) _ hpl).mono ?_
   rintro r wz ⟨rfl, ew⟩
   obtain rfl := ew.symm
   rw [hB]
   go_wp2_with fail
   refine hK.out _ _ (⟨(vv.cell (block_lt c2)).trans c2, (cells2n (kept_block kE vv)).2⟩) (fun hHeld => ?_)
   clear hK K
   try simp only [Act.put, lA, lB, lC]
   refine kK 10 q98 ?_
   refine kK 11 q99 ?_
   refine wpAnyH_done (by kernel_rfl) ?_ _
   have HB := hide (gr_trans b03 (gr_drew vv))
   have c2 := (vv.cell (block_lt c2)).trans c2
   have e1 := (cells2n (kept_block kE vv)).2
   clear hHeld vv kE hB
   go_wp2_with fail
   go_region
   go_wp2
   go_ret
   exact ⟨_, rfl, by rw [HF.out]; exact ⟨_, _, rfl, HD.out⟩, HB.out⟩

def endsL (ls : List LK) : List (Int × Int) := ls.flatMap fun x => [(x.a, x.p), (x.b, x.q)]
def usedL (ls : List LK) (b p : Int) : Nat := (endsL ls).count (b, p)

def IdsApart (bs : List BR) : Prop := ∀ (i j : Nat) (x y : BR), i < j → bs[i]? = some x → bs[j]? = some y → x.id ≠ y.id
def BridgesOk (bs : List BR) : Prop := (∀ x ∈ bs, bridgeOk x = true) ∧ IdsApart bs ∧ 1 ≤ bs.length ∧ bs.length ≤ 6
def QuietAt (ls : List LK) (i : Nat) (B : BR) : Prop := ∀ (p : Nat) (x : PT), B.ports[p]? = some x → x.has = true → usedL ls (i : Int) (p : Int) ≠ 0
def Quiet (bs : List BR) (ls : List LK) : Prop := ∀ (i : Nat) (B : BR), bs[i]? = some B → QuietAt ls i B
def EndsOk (bs : List BR) (x : LK) : Prop := x.a ≠ x.b ∧ ∃ u v, portOf bs x.a x.p = some u ∧ portOf bs x.b x.q = some v ∧ u.up = v.up
def LinkOk (bs : List BR) (ls : List LK) (x : LK) : Prop := EndsOk bs x ∧ usedL ls x.a x.p = 1 ∧ usedL ls x.b x.q = 1
def LinksOk (bs : List BR) (ls : List LK) : Prop := ls.length ≤ 9 ∧ ∀ x ∈ ls, LinkOk bs ls x
def SayOk (ls : List LK) (s : SY) : Prop := (decide (0 ≤ s.l) && decide (s.l ≤ (ls.length : Int) - 1)) = true ∧ okVd s.v = true
def SaidOk (ls : List LK) (ss : List SY) : Prop := ss.length ≤ 40 ∧ ∀ s ∈ ss, SayOk ls s
def NetOk (bs : List BR) (ls : List LK) (ss : List SY) : Prop := BridgesOk bs ∧ LinksOk bs ls ∧ Quiet bs ls ∧ SaidOk ls ss

theorem ends_app (l l' : List LK) : endsL (l ++ l') = endsL l ++ endsL l' := by simp [endsL]
theorem ends_cons (x : LK) (l : List LK) : endsL (x :: l) = (x.a, x.p) :: (x.b, x.q) :: endsL l := by simp [endsL]
theorem ends_mem {ls : List LK} {x : LK} (h : x ∈ ls) : (x.a, x.p) ∈ endsL ls ∧ (x.b, x.q) ∈ endsL ls :=
 ⟨List.mem_flatMap.2 ⟨x, h, by simp⟩, List.mem_flatMap.2 ⟨x, h, by simp⟩⟩
theorem ends_length (ls : List LK) : (endsL ls).length = 2 * ls.length := by
 induction ls with
 | nil => rfl
 | cons x l ih => rw [ends_cons]; simp only [List.length_cons, ih]; omega

def hit (b p a q : Int) : Nat := if a = b ∧ q = p then 1 else 0

theorem used_next {ls : List LK} {k : Nat} {x : LK} (h : ls[k]? = some x) (b p : Int) : usedL (ls.take (k + 1)) b p = usedL (ls.take k) b p + hit b p x.a x.p + hit b p x.b x.q := by
 have e : ls.take (k + 1) = ls.take k ++ [x] := by rw [List.take_add_one, h]; rfl
 unfold usedL hit
 rw [e, ends_app, List.count_append, ends_cons]
 simp only [List.count_cons, endsL, List.flatMap_nil, List.count_nil, beq_iff_eq, Prod.mk.injEq]
 omega

theorem used_le (ls : List LK) (b p : Int) : usedL ls b p ≤ 2 * ls.length := by
 unfold usedL
 rw [← ends_length]
 exact List.count_le_length

theorem ends_once (ls : List LK) : (endsL ls).Nodup ↔ ∀ x ∈ ls, usedL ls x.a x.p = 1 ∧ usedL ls x.b x.q = 1 := by
 constructor
 ·intro h x hx
  obtain ⟨h1, h2⟩ := ends_mem hx
  have e := List.nodup_iff_count.1 h
  have p1 := List.count_pos_iff.2 h1
  have p2 := List.count_pos_iff.2 h2
  have e1 := e (x.a, x.p)
  have e2 := e (x.b, x.q)
  unfold usedL
  exact ⟨by omega, by omega⟩
 ·intro h
  refine List.nodup_iff_count.2 fun e => ?_
  by_cases he : e ∈ endsL ls
  ·obtain ⟨x, hx, hm⟩ := List.mem_flatMap.1 he
   simp at hm
   have h1 := h x hx
   unfold usedL at h1
   rcases hm with rfl | rfl
   ·omega
   ·omega
  ·rw [List.count_eq_zero_of_not_mem he]; omega

theorem links_iff (bs : List BR) (ls : List LK) : LinksOk bs ls ↔ ls.length ≤ 9 ∧ (∀ x ∈ ls, EndsOk bs x) ∧ (endsL ls).Nodup := by
 rw [ends_once]
 unfold LinksOk LinkOk
 constructor
 ·rintro ⟨h1, h2⟩
  exact ⟨h1, fun x hx => (h2 x hx).1, fun x hx => (h2 x hx).2⟩
 ·rintro ⟨h1, h2, h3⟩
  exact ⟨h1, fun x hx => ⟨h2 x hx, h3 x hx⟩⟩

theorem beside_used (ls : List LK) (b p : Int) : besideL ls b p = none ↔ usedL ls b p = 0 := by
 unfold besideL usedL
 rw [List.findSome?_eq_none_iff, List.count_eq_zero]
 constructor
 ·intro h hm
  obtain ⟨x, hx, he⟩ := List.mem_flatMap.1 hm
  have := h x hx
  unfold otherEnd at this
  simp only [List.mem_cons, Prod.mk.injEq, List.not_mem_nil, or_false] at he
  rcases he with ⟨h1, h2⟩ | ⟨h1, h2⟩
  ·rw [if_pos ⟨h1.symm, h2.symm⟩] at this; cases this
  ·split at this
   ·cases this
   ·rw [if_pos ⟨h1.symm, h2.symm⟩] at this; cases this
 ·intro h x hx
  obtain ⟨m1, m2⟩ := ends_mem hx
  unfold otherEnd
  rw [if_neg, if_neg]
  ·rintro ⟨h1, h2⟩; exact h (by rw [← h1, ← h2]; exact m2)
  ·rintro ⟨h1, h2⟩; exact h (by rw [← h1, ← h2]; exact m1)

theorem all_next {α : Type} {l : List α} {k : Nat} {x : α} {P : α → Prop} (h : l[k]? = some x) (hp : ∀ y ∈ l.take k, P y) (hx : P x) : ∀ y ∈ l.take (k + 1), P y := by
 rw [List.take_add_one, h]
 intro y hy
 rcases List.mem_append.1 hy with hy | hy
 ·exact hp y hy
 ·have := List.mem_singleton.1 (by simpa using hy)
  rw [this]; exact hx

theorem rowAt_no {l : List VR} {id : Int} (h : rowIdx l id = none) : rowAt l id = -1 := by unfold rowAt; rw [h]
theorem rowAt_yes {l : List VR} {id : Int} {k : Nat} (h : rowIdx l id = some k) : rowAt l id = k := by unfold rowAt; rw [h]

set_option maxRecDepth 100000 in
set_option maxHeartbeats 4000000 in
theorem implVtabOk_any (a : Option Addr) (n c : Nat) (o : Option Addr) (p q : Nat) (v : VT) (ports : Int) (w : World) (h : VTab w a n c o p q v) (hR : ∀ r ∈ v.rows, r.Rng) :
  Calls Tryz.prog 122 #[.agg #[.slice a n c, .slice o p q], .int .i64 ports] w fun r w' => r = .returned (.bool (vtabOk v ports)) ∧ Below w.heap.size w w' := by
 have hle := h.rows.le
 have htop := h.rows.top
 have hle2 := h.own.le
 have htop2 := h.own.top
 unfold maxLen at htop htop2
 have hsz := hide h.rows.size
 have hsz2 := hide h.own.size
 generalize hw1 : w.alloc (Obj.cells #[Value.slice a n c, Value.slice o p q] 69) = w1
 have hW : Below w.heap.size w w1 := by subst hw1; exact below_one _ _
 obtain ⟨e0, e1⟩ := box_two hw1 (Below.refl _ w1)
 have h := h.below hW
 generalize hV : vtabOk v ports = V
 have HV := hide hV
 clear hV
 cases t1 : (decide (1 ≤ ports) && decide (ports ≤ 6))
 ·have HN := hide (vtab_in (v := v) t1)
  have T1 := hide t1
  clear t1
  go_enter Tryz.func122, Tryz.ntmps122
  go_wp2_with (refine (implIn9_any ports 1 6 _).mono ?_; rintro r w2 ⟨rfl, e2⟩; obtain rfl := e2.symm; rw [T1.out])
  go_ret
  exact ⟨ret_bool (by rw [← HV.out, HN.out]), hW⟩
 have T1 := hide t1
 simp only [Bool.and_eq_true, decide_eq_true_eq] at t1
 by_cases t2 : (p : Int) = ports
 case neg =>
  have HN := hide (vtab_len (v := v) (ports := ports) (by rw [hsz2.out]; exact t2))
  go_enter Tryz.func122, Tryz.ntmps122
  go_wp2_with (refine (implIn9_any ports 1 6 _).mono ?_; rintro r w2 ⟨rfl, e2⟩; obtain rfl := e2.symm; rw [T1.out])
  go_ret
  exact ⟨ret_bool (by rw [← HV.out, HN.out]), hW⟩
 subst t2
 by_cases t3 : n ≤ 6
 case neg =>
  have HN := hide (vtab_many (v := v) (ports := p) (by rw [hsz.out]; exact t3))
  go_enter Tryz.func122, Tryz.ntmps122
  go_wp2_with (refine (implIn9_any (p : Int) 1 6 _).mono ?_; rintro r w2 ⟨rfl, e2⟩; obtain rfl := e2.symm; rw [T1.out])
  go_ret
  exact ⟨ret_bool (by rw [← HV.out, HN.out]), hW⟩
 cases t4 : vrises v.rows
 ·have HN := hide (vtab_rise (v := v) (ports := p) t4)
  have T4 := hide t4
  clear t4
  go_enter Tryz.func122, Tryz.ntmps122
  go_wp2_with (refine (implIn9_any (p : Int) 1 6 _).mono ?_; rintro r w2 ⟨rfl, e2⟩; obtain rfl := e2.symm; rw [T1.out])
  refine (implRowsOf_any a n c o p q _).mono ?_
  rintro r w2 ⟨rfl, hb2⟩
  go_wp2_with fail
  refine (implAscends_any a n c v.rows _ (h.rows.below hb2)).mono ?_
  rintro r w3 ⟨rfl, hb3⟩
  rw [T4.out]
  have HB := hide (gr_trans hW (gr_trans hb2 hb3))
  clear hb2 hb3
  go_wp2
  go_ret
  exact ⟨ret_bool (by rw [← HV.out, HN.out]), HB.out⟩
 have T4 := hide t4
 clear t4
 go_enter Tryz.func122, Tryz.ntmps122
 go_wp2_with (refine (implIn9_any (p : Int) 1 6 _).mono ?_; rintro r w2 ⟨rfl, e2⟩; obtain rfl := e2.symm; rw [T1.out])
 refine (implRowsOf_any a n c o p q _).mono ?_
 rintro r w2 ⟨rfl, hb2⟩
 go_wp2_with fail
 refine (implAscends_any a n c v.rows _ (h.rows.below hb2)).mono ?_
 rintro r w3 ⟨rfl, hb3⟩
 rw [T4.out]
 have b13 := gr_trans hb2 hb3
 obtain ⟨x0, x1⟩ := box_two hw1 b13
 clear hb2 hb3 e0 e1
 go_wp2
 go_loopw [34] (fun i wr => ∃ k : Nat, k ≤ n ∧ i = .int .i64 k ∧ rowsTo (allOf p) v.rows k ∧ Below w1.heap.size w1 wr) (fun i _ => n - (intOf i).toNat)
 case atStart => exact ⟨0, Nat.zero_le _, rfl, fun i x hi => by omega, b13⟩
 case round =>
  obtain ⟨k, hk, rfl, hok, hb⟩ := hrel
  by_cases hlt : k < n
  ·obtain ⟨x, b, off, hx, rfl, c0, c1, c2⟩ := vrow_at (h.rows.below hb) k hlt
   have hxr : x.Rng := hR x (List.mem_of_getElem? hx)
   cases t5 : vrowOk (allOf p) x
   ·have HN := hide (vtab_row (v := v) (p := p) hx t5)
    have T5 := hide t5
    have HB := hide hb
    clear t5 hok hb hx x0 x1
    go_wp2_with fail
    refine (implVrowOk_any x p _ hxr (by omega) (by omega)).mono ?_
    rintro r w5 ⟨rfl, hb5⟩
    rw [T5.out]
    have HB1 := hide (gr_trans hW (gr_trans HB.out (gr_trans (below_one _ _) hb5)))
    clear hb5 c0 c1 c2
    go_wp2
    go_ret
    exact ⟨ret_bool (by rw [← HV.out, HN.out]), HB1.out⟩
   ·have HO := hide (rowsTo_next hok hx t5)
    have T5 := hide t5
    have HB := hide hb
    clear t5 hok hb hx x0 x1
    go_wp2_with fail
    refine (implVrowOk_any x p _ hxr (by omega) (by omega)).mono ?_
    rintro r w5 ⟨rfl, hb5⟩
    rw [T5.out]
    have HB1 := hide (gr_trans HB.out (gr_trans (below_one _ _) hb5))
    clear hb5 c0 c1 c2
    go_wp2
    go_roundw
    case rel => exact ⟨k + 1, by omega, by go_num, HO.out, HB1.out⟩
    case measure => simp [intOf]; omega
  ·have HK : Hid (vokTo (allOf p) v.rows v.rows.length) := hide (vokTo_of (fun i x hi hx => hok i x (by have := hsz.out; omega) hx) T4.out)
   obtain ⟨y0, y1⟩ := box_two hw1 hb
   have HB := hide hb
   have hkn : k = n := by omega
   clear hok hb x0 x1
   subst hkn
   go_wp2
   go_loopw [46] (fun i wr => ∃ k : Nat, k ≤ p ∧ i = .int .i64 k ∧ ownTo v k ∧ Below w1.heap.size w1 wr) (fun i _ => p - (intOf i).toNat)
   case atStart => exact ⟨0, Nat.zero_le _, rfl, fun i x hi => by omega, HB.out⟩
   case round =>
    obtain ⟨j, hj, rfl, hto, hb⟩ := hrel
    by_cases hlt : j < p
    ·obtain ⟨x, b, off, hx, rfl, c0⟩ := irow_at (h.own.below hb) j hlt
     obtain ⟨z0, z1⟩ := box_two hw1 hb
     clear y0 y1
     cases hr : rowIdx v.rows x with
     | none =>
      have HN := hide (vtab_own (p := p) (List.mem_of_getElem? hx) hr)
      have HA := hide (rowAt_no hr)
      have HB3 := hide hb
      clear hto hb hx hr
      go_wp2_with fail
      refine (implRowAt_any a k c v.rows (some ⟨b, off, none⟩) p q x _ (h.rows.below HB3.out)).mono ?_
      rintro r w5 ⟨rfl, hb5⟩
      rw [HA.out]
      have HB1 := hide (gr_trans hW (gr_trans HB3.out hb5))
      clear hb5 c0 z0 z1
      go_wp2
      go_ret
      exact ⟨ret_bool (by rw [← HV.out, HN.out]), HB1.out⟩
     | some i =>
      have HO := hide (ownTo_next hto hx (by rw [hr]; exact fun h => by cases h))
      have HA := hide (rowAt_yes hr)
      have HB3 := hide hb
      have hneg : ¬ ((i : Int) < 0) := by omega
      clear hto hb hx hr
      go_wp2_with fail
      refine (implRowAt_any a k c v.rows (some ⟨b, off, none⟩) p q x _ (h.rows.below HB3.out)).mono ?_
      rintro r w5 ⟨rfl, hb5⟩
      rw [HA.out]
      have HB1 := hide (gr_trans HB3.out hb5)
      clear hb5 c0 z0 z1
      go_wp2
      go_roundw
      case rel => exact ⟨j + 1, by omega, by go_num, HO.out, HB1.out⟩
      case measure => simp [intOf]; omega
    ·have HN : Hid (vtabOk v p = true) := hide (vtab_yes t1.1 t1.2 hsz2.out (by have := hsz.out; omega) HK.out (ownTo_all hto (by have := hsz2.out; omega)))
     have HB3 := hide (gr_trans hW hb)
     have hjn : j = p := by omega
     clear hto hb y0 y1
     subst hjn
     go_wp2
     go_ret
     exact ⟨ret_bool (by rw [← HV.out, HN.out]), HB3.out⟩

end Go.Proofs.YtdmplbmfkliiiaaGreat
