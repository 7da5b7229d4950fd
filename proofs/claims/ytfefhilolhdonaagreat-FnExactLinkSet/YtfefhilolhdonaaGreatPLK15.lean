/-
  Packed: BrNewS BrBuild BrCopyS VlanTab VlanPorts BrTurnS BrInner BrInner2.
-/
import Derived.Test.YtfefhilolhdonaaGreatPLBrOkS
import Derived.Test.YtfefhilolhdonaaGreatPLFdbImplA
import Derived.Test.YtfefhilolhdonaaGreatPLK01
import Derived.Test.YtfefhilolhdonaaGreatPLK02
import Derived.Test.YtfefhilolhdonaaGreatPLK03
import Derived.Test.YtfefhilolhdonaaGreatPLK04
import Derived.Test.YtfefhilolhdonaaGreatPLK06
import Derived.Test.YtfefhilolhdonaaGreatPLK11
import Derived.Test.YtfefhilolhdonaaGreatPLVlanOk
import Derived.Test.YtfefhilolhdonaaGreatPLVtabOkS
namespace Go.Proofs.YtfefhilolhdonaaGreat
open Go.RowKit

theorem BrOwn.boxed11 {w : World} {base : Nat} {a : Option Addr} {n c : Nat} {fa : Option Addr} {fn fc : Nat} {ra : Option Addr} {rn rc : Nat} {oa : Option Addr} {on oc : Nat} {B : BR} (h : BrOwn w base a n c fa fn fc ra rn rc oa on oc B) {X : Nat} {cs : Array Value} (hX : w.heap[X]? = some (.cells cs 31)) (u0 u1 u2 u3 u4 u5 u6 u7 u8 u9 u10 : Value) : BrOwn (((((((((((w.setCell ⟨X, 0, none⟩ u0).setCell ⟨X, 1, none⟩ u1).setCell ⟨X, 2, none⟩ u2).setCell ⟨X, 3, none⟩ u3).setCell ⟨X, 4, none⟩ u4).setCell ⟨X, 5, none⟩ u5).setCell ⟨X, 6, none⟩ u6).setCell ⟨X, 7, none⟩ u7).setCell ⟨X, 8, none⟩ u8).setCell ⟨X, 9, none⟩ u9).setCell ⟨X, 10, none⟩ u10) base a n c fa fn fc ra rn rc oa on oc B :=
 (BrOwn.boxed (BrOwn.boxed (BrOwn.boxed (BrOwn.boxed (BrOwn.boxed (BrOwn.boxed (BrOwn.boxed (BrOwn.boxed (BrOwn.boxed (BrOwn.boxed (BrOwn.boxed h hX 0 u0) (box11 hX 0 u0) 1 u1) (box11 (box11 hX 0 u0) 1 u1) 2 u2) (box11 (box11 (box11 hX 0 u0) 1 u1) 2 u2) 3 u3) (box11 (box11 (box11 (box11 hX 0 u0) 1 u1) 2 u2) 3 u3) 4 u4) (box11 (box11 (box11 (box11 (box11 hX 0 u0) 1 u1) 2 u2) 3 u3) 4 u4) 5 u5) (box11 (box11 (box11 (box11 (box11 (box11 hX 0 u0) 1 u1) 2 u2) 3 u3) 4 u4) 5 u5) 6 u6) (box11 (box11 (box11 (box11 (box11 (box11 (box11 hX 0 u0) 1 u1) 2 u2) 3 u3) 4 u4) 5 u5) 6 u6) 7 u7) (box11 (box11 (box11 (box11 (box11 (box11 (box11 (box11 hX 0 u0) 1 u1) 2 u2) 3 u3) 4 u4) 5 u5) 6 u6) 7 u7) 8 u8) (box11 (box11 (box11 (box11 (box11 (box11 (box11 (box11 (box11 hX 0 u0) 1 u1) 2 u2) 3 u3) 4 u4) 5 u5) 6 u6) 7 u7) 8 u8) 9 u9) (box11 (box11 (box11 (box11 (box11 (box11 (box11 (box11 (box11 (box11 hX 0 u0) 1 u1) 2 u2) 3 u3) 4 u4) 5 u5) 6 u6) 7 u7) 8 u8) 9 u9) 10 u10)

theorem below_set11 {K : Nat} {a w : World} (h : Below K a w) {g : Nat} (hB : K ≤ g) (u0 u1 u2 u3 u4 u5 u6 u7 u8 u9 u10 : Value) : Below K a (((((((((((w.setCell ⟨g, 0, none⟩ u0).setCell ⟨g, 1, none⟩ u1).setCell ⟨g, 2, none⟩ u2).setCell ⟨g, 3, none⟩ u3).setCell ⟨g, 4, none⟩ u4).setCell ⟨g, 5, none⟩ u5).setCell ⟨g, 6, none⟩ u6).setCell ⟨g, 7, none⟩ u7).setCell ⟨g, 8, none⟩ u8).setCell ⟨g, 9, none⟩ u9).setCell ⟨g, 10, none⟩ u10) :=
 (below_set (below_set (below_set (below_set (below_set (below_set (below_set (below_set (below_set (below_set (below_set h hB 0 u0) hB 1 u1) hB 2 u2) hB 3 u3) hB 4 u4) hB 5 u5) hB 6 u6) hB 7 u7) hB 8 u8) hB 9 u9) hB 10 u10)

structure BcSt (w wr : World) (R X : Nat) (cs : Array Value) : Prop where
 box : wr.heap[X]? = some (.cells cs 31)
 res : wr.heap[R]? = some (.cells #[.int .i64 0, .string ⟨#[]⟩, .slice none 0 0, .slice none 0 0, .slice none 0 0, .slice none 0 0, .int .i64 0, .int .i64 0, .int .i64 0, .int .i64 0, .int .i64 0] 31)
 below : Below w.heap.size w wr
 hX : w.heap.size ≤ X
 hR : w.heap.size ≤ R
 ne : R ≠ X

theorem BcSt.later {w wr wx : World} {R X : Nat} {cs : Array Value} (h : BcSt w wr R X cs) (hb : Below wr.heap.size wr wx) : BcSt w wx R X cs :=
 ⟨kept_block h.box hb, kept_block h.res hb, gr_trans h.below hb, h.hX, h.hR, h.ne⟩

theorem BcSt.put {w wr : World} {R X : Nat} {cs : Array Value} (h : BcSt w wr R X cs) (j : Nat) (u : Value) {cs' : Array Value} (he : cs.setIfInBounds j u = cs') : BcSt w (wr.setCell ⟨X, j, none⟩ u) R X cs' :=
 ⟨by rw [← he]; exact box11 h.box j u, kept_set h.res h.ne, below_set h.below h.hX j u, h.hX, h.hR, h.ne⟩

theorem BcSt.grown {w wr wx : World} {R X : Nat} {cs : Array Value} (h : BcSt w wr R X cs) {base k : Nat} {e : TypeId} {v : Value} {n : Nat} {xs : List Value} (ho : wr.ownsRow base e k v n xs) (hne : (e : Nat) ≠ 31) (hg : wr.grownBy wx v.ownBlock) (hb : Below w.heap.size wr wx) : BcSt w wx R X cs :=
 ⟨kept_grown h.box hg (fun i e => box_ne ho h.box hne i e), kept_grown h.res hg (fun i e => box_ne ho h.res hne i e), h.below.trans hb, h.hX, h.hR, h.ne⟩

theorem BcSt.stay {w wr : World} {R X : Nat} {cs : Array Value} (h : BcSt w wr R X cs) {base k : Nat} {e : TypeId} {v : Value} {n : Nat} {xs : List Value} (ho : wr.ownsRow base e k v n xs) (hne : (e : Nat) ≠ 31) (j : Nat) (u : Value) : (wr.setCell ⟨X, j, none⟩ u).ownsRow base e k v n xs :=
 gown_other ho (grown_set (rb := X) j u) (box_ne ho h.box hne)

theorem BcSt.out {w wr : World} {R X : Nat} {cs : Array Value} (h : BcSt w wr R X cs) {base : Nat} {a : Option Addr} {n c : Nat} {fa : Option Addr} {fn fc : Nat} {ra : Option Addr} {rn rc : Nat} {oa : Option Addr} {on oc : Nat} {B : BR} (ho : BrOwn wr base a n c fa fn fc ra rn rc oa on oc B) (u0 u1 u2 u3 u4 u5 u6 u7 u8 u9 u10 : Value) : BrOwn (((((((((((wr.setCell ⟨R, 0, none⟩ u0).setCell ⟨R, 1, none⟩ u1).setCell ⟨R, 2, none⟩ u2).setCell ⟨R, 3, none⟩ u3).setCell ⟨R, 4, none⟩ u4).setCell ⟨R, 5, none⟩ u5).setCell ⟨R, 6, none⟩ u6).setCell ⟨R, 7, none⟩ u7).setCell ⟨R, 8, none⟩ u8).setCell ⟨R, 9, none⟩ u9).setCell ⟨R, 10, none⟩ u10) base a n c fa fn fc ra rn rc oa on oc B ∧ Below w.heap.size w (((((((((((wr.setCell ⟨R, 0, none⟩ u0).setCell ⟨R, 1, none⟩ u1).setCell ⟨R, 2, none⟩ u2).setCell ⟨R, 3, none⟩ u3).setCell ⟨R, 4, none⟩ u4).setCell ⟨R, 5, none⟩ u5).setCell ⟨R, 6, none⟩ u6).setCell ⟨R, 7, none⟩ u7).setCell ⟨R, 8, none⟩ u8).setCell ⟨R, 9, none⟩ u9).setCell ⟨R, 10, none⟩ u10) :=
 ⟨ho.boxed11 h.res u0 u1 u2 u3 u4 u5 u6 u7 u8 u9 u10, below_set11 h.below h.hR u0 u1 u2 u3 u4 u5 u6 u7 u8 u9 u10⟩

set_option maxRecDepth 100000 in
set_option maxHeartbeats 8000000 in
theorem specCopyB_made (a : Option Addr) (n c : Nat) (fa : Option Addr) (fn fc : Nat) (ra : Option Addr) (rn rc : Nat) (oa : Option Addr) (on oc : Nat) (B : BR) (w : World) (h : BrRow w a n c fa fn fc ra rn rc oa on oc B) (hn : n ≤ 16777216) (hfn : fn ≤ 16777216) (hrn : rn ≤ 16777216) (hon : on ≤ 16777216) :
  Calls Tryz.prog 65 #[.agg #[.int .i64 B.id, .string B.name, .slice a n c, .slice fa fn fc, .slice ra rn rc, .slice oa on oc, .int .i64 B.ticks, .int .i64 B.parse, .int .i64 B.word, .int .i64 B.drops, .int .i64 B.vers]] w fun e w' => ∃ (a2 : Option Addr) (c2 : Nat) (fa2 : Option Addr) (fc2 : Nat) (ra2 : Option Addr) (rc2 : Nat) (oa2 : Option Addr) (oc2 : Nat), e = .returned (.agg #[.int .i64 B.id, .string B.name, .slice a2 n c2, .slice fa2 fn fc2, .slice ra2 rn rc2, .slice oa2 on oc2, .int .i64 B.ticks, .int .i64 B.parse, .int .i64 B.word, .int .i64 B.drops, .int .i64 B.vers]) ∧ BrOwn w' w.heap.size a2 n c2 fa2 fn fc2 ra2 rn rc2 oa2 on oc2 B ∧ Below w.heap.size w w' := by
 generalize hw1 : w.alloc (Obj.cells #[.int .i64 B.id, .string B.name, .slice a n c, .slice fa fn fc, .slice ra rn rc, .slice oa on oc, .int .i64 B.ticks, .int .i64 B.parse, .int .i64 B.word, .int .i64 B.drops, .int .i64 B.vers] 31) = w1
 generalize hw2 : w1.alloc (Obj.cells #[.int .i64 0, .string ⟨#[]⟩, .slice none 0 0, .slice none 0 0, .slice none 0 0, .slice none 0 0, .int .i64 0, .int .i64 0, .int .i64 0, .int .i64 0, .int .i64 0] 31) = w2
 generalize hw3 : w2.alloc (Obj.cells #[.int .i64 B.id, .string B.name, .slice a n c, .slice fa fn fc, .slice ra rn rc, .slice oa on oc, .int .i64 B.ticks, .int .i64 B.parse, .int .i64 B.word, .int .i64 B.drops, .int .i64 B.vers] 31) = w3
 generalize hw4 : w3.alloc (Obj.cells #[] 44) = w4
 have b01 : Below w.heap.size w w1 := by rw [← hw1]; exact below_one _ _
 have b12 : Below w1.heap.size w1 w2 := by rw [← hw2]; exact below_one _ _
 have b23 : Below w2.heap.size w2 w3 := by rw [← hw3]; exact below_one _ _
 have b34 : Below w3.heap.size w3 w4 := by rw [← hw4]; exact below_one _ _
 have z1 : w.heap.size < w1.heap.size := by rw [← hw1]; simp
 have z2 : w1.heap.size < w2.heap.size := by rw [← hw2]; simp
 have k1 : w1.heap[w.heap.size]? = some (.cells #[.int .i64 B.id, .string B.name, .slice a n c, .slice fa fn fc, .slice ra rn rc, .slice oa on oc, .int .i64 B.ticks, .int .i64 B.parse, .int .i64 B.word, .int .i64 B.drops, .int .i64 B.vers] 31) := by rw [← hw1]; exact block_last _ _
 have kA2 := kept_block k1 b12
 have kA4 := kept_block (kept_block kA2 b23) b34
 have st4 : BcSt w w4 w1.heap.size w2.heap.size #[.int .i64 B.id, .string B.name, .slice a n c, .slice fa fn fc, .slice ra rn rc, .slice oa on oc, .int .i64 B.ticks, .int .i64 B.parse, .int .i64 B.word, .int .i64 B.drops, .int .i64 B.vers] := BcSt.later ⟨by rw [← hw3]; exact block_last _ _, kept_block (by rw [← hw2]; exact block_last _ _) b23, gr_trans (gr_trans b01 b12) b23, by omega, Nat.le_of_lt z1, Nat.ne_of_lt z2⟩ b34
 have k4 : w4.heap[w3.heap.size]? = some (.cells #[] 44) := by rw [← hw4]; exact block_last _ _
 have b03 := gr_trans (gr_trans b01 b12) b23
 have nil4 : w4.ownsRow w.heap.size 44 8 (.slice (some ⟨w3.heap.size, 0, none⟩) 0 0) 0 (ptF.all []) := flat_nil ptF w w4 44 w3.heap.size k4 b03.size
 have HZ1 := hide z1
 have HZ2 := hide z2
 have nAX : ¬ w.heap.size = w2.heap.size := by omega
 have nXA : ¬ w2.heap.size = w.heap.size := by omega
 obtain ⟨x0, x1, x2, x3, x4, x5, x6, x7, x8, x9, x10⟩ := cells11 kA2
 have SZ23 := hide b23.size
 clear z1 z2 b01 b12 b23 b34 k1 b03
 go_enter Tryz.func65, Tryz.ntmps65
 go_upto_region 2 with fail
 clear x0 x1 x2 x3 x4 x5 x6 x7 x8 x9 x10 hw1 hw2 hw3
 obtain ⟨x0, x1, x2, x3, x4, x5, x6, x7, x8, x9, x10⟩ := cells11 kA4
 have HST := hide st4
 have HKA := hide kA4
 have HN4 := hide nil4
 have hp4 := h.ports.below st4.below
 have hs4 := st4.below.size
 clear st4 kA4 kA2
 go_wp2_with (at_builtin; refine pt_append _ rfl _ _ rfl w.heap.size _ 0 [] rfl nil4 a n c B.ports rfl hp4 (by omega) hs4 ?_)
 intro a4 c4 w5 o5 hr5 hg5 hb5
 have o5 : w5.ownsRow w.heap.size 44 8 (.slice a4 n c4) n (ptF.all B.ports) := by simpa using o5
 have st5 := HST.out.grown HN4.out (by decide) hg5 hb5
 have kA5 := kept_grown HKA.out hg5 (fun i e => by have h1 := (HN4.out.lt i e).1; have h2 : i = w3.heap.size := (Option.some.inj e).symm; have h3 := HZ2.out; have h4 := HZ1.out; have h5 : w2.heap.size ≤ w3.heap.size := SZ23.out; omega)
 try simp only [Nat.zero_add]
 clear x0 x1 x2 x3 x4 x5 x6 x7 x8 x9 x10 hr5 hg5 hb5 nil4 hp4 hs4 HST HKA HN4
 generalize hX : w2.heap.size = X at *
 generalize hR : w1.heap.size = R at *
 have st6 := st5.put 2 (.slice a4 n c4) (cs' := #[.int .i64 B.id, .string B.name, .slice a4 n c4, .slice fa fn fc, .slice ra rn rc, .slice oa on oc, .int .i64 B.ticks, .int .i64 B.parse, .int .i64 B.word, .int .i64 B.drops, .int .i64 B.vers]) rfl
 have o6 := st5.stay o5 (by decide) 2 (.slice a4 n c4)
 have kA6 := kept_set (b := X) (j := 2) (u := .slice a4 n c4) kA5 nAX
 obtain ⟨y0, y1, y2, y3, y4, y5, y6, y7, y8, y9, y10⟩ := cells11 st5.box
 have f2 := frozen8 st5.box 2
 generalize hw6 : w5.setCell ⟨X, 2, none⟩ (.slice a4 n c4) = w6 at st6 o6 kA6
 go_upto_region 3 with fail
 try rw [hw6]
 clear y0 y1 y2 y3 y4 y5 y6 y7 y8 y9 y10 f2 hw6 st5 o5 kA5
 obtain ⟨x0, x1, x2, x3, x4, x5, x6, x7, x8, x9, x10⟩ := cells11 kA6
 go_wp2_with fail
 refine (specCopyF_any fa fn fc B.f _ (h.f.below st6.below) hfn).mono ?_
 rintro e w7 ⟨fa6, fc6, rfl, oF, -, hb7⟩
 have st7 := st6.later hb7
 have o7 := gown_below o6 hb7
 have oF := gown_lt oF (base' := w.heap.size) st6.below.size
 have kA7 := kept_block kA6 hb7
 clear x0 x1 x2 x3 x4 x5 x6 x7 x8 x9 x10 hb7 o6 st6 kA6
 obtain ⟨y0, y1, y2, y3, y4, y5, y6, y7, y8, y9, y10⟩ := cells11 st7.box
 have f3 := frozen8 st7.box 3
 have st8 := st7.put 3 (.slice fa6 fn fc6) (cs' := #[.int .i64 B.id, .string B.name, .slice a4 n c4, .slice fa6 fn fc6, .slice ra rn rc, .slice oa on oc, .int .i64 B.ticks, .int .i64 B.parse, .int .i64 B.word, .int .i64 B.drops, .int .i64 B.vers]) rfl
 have o8 := st7.stay o7 (by decide) 3 (.slice fa6 fn fc6)
 have oF8 := st7.stay oF (by decide) 3 (.slice fa6 fn fc6)
 have kA8 := kept_set (b := X) (j := 3) (u := .slice fa6 fn fc6) kA7 nAX
 generalize hw8 : w7.setCell ⟨X, 3, none⟩ (.slice fa6 fn fc6) = w8 at st8 o8 oF8 kA8
 go_upto_region 4 with fail
 try rw [hw8]
 clear y0 y1 y2 y3 y4 y5 y6 y7 y8 y9 y10 f3 hw8 st7 o7 oF kA7
 obtain ⟨x0, x1, x2, x3, x4, x5, x6, x7, x8, x9, x10⟩ := cells11 kA8
 go_wp2_with fail
 refine (specCopyV_made ra rn rc oa on oc B.v _ (h.v.below st8.below) hrn hon).mono ?_
 rintro e w9 ⟨ra8, rc8, oa8, oc8, rfl, oV, hb9⟩
 have st9 := st8.later hb9
 have own9 : BrOwn w9 w.heap.size a4 n c4 fa6 fn fc6 ra8 rn rc8 oa8 on oc8 B := ⟨gown_below o8 hb9, gown_below oF8 hb9, oV.lt (base' := w.heap.size) st8.below.size⟩
 clear x0 x1 x2 x3 x4 x5 x6 x7 x8 x9 x10 hb9 o8 oF8 kA8 st8 oV
 have st10 := (st9.put 4 (.slice ra8 rn rc8) rfl).put 5 (.slice oa8 on oc8) (cs' := #[.int .i64 B.id, .string B.name, .slice a4 n c4, .slice fa6 fn fc6, .slice ra8 rn rc8, .slice oa8 on oc8, .int .i64 B.ticks, .int .i64 B.parse, .int .i64 B.word, .int .i64 B.drops, .int .i64 B.vers]) rfl
 have own10 := (own9.boxed st9.box 4 (.slice ra8 rn rc8)).boxed (st9.put 4 (.slice ra8 rn rc8) rfl).box 5 (.slice oa8 on oc8)
 obtain ⟨y0, y1, y2, y3, y4, y5, y6, y7, y8, y9, y10⟩ := cells11 st9.box
 have f4 := frozen8 st9.box 4
 have f5 := frozen8 st9.box 5
 obtain ⟨u0, u1, u2, u3, u4, u5, u6, u7, u8, u9, u10⟩ := cells11 st9.res
 have fr := frozen8 st9.res
 have fr0 := fr 0
 have fr1 := fr 1
 have fr2 := fr 2
 have fr3 := fr 3
 have fr4 := fr 4
 have fr5 := fr 5
 have fr6 := fr 6
 have fr7 := fr 7
 have fr8 := fr 8
 have fr9 := fr 9
 have fr10 := fr 10
 have ne1 : ¬ X = R := fun e => st9.ne e.symm
 have ne2 : ¬ R = X := st9.ne
 obtain ⟨HO0, HB0⟩ := st10.out own10 (.int .i64 B.id) (.string B.name) (.slice a4 n c4) (.slice fa6 fn fc6) (.slice ra8 rn rc8) (.slice oa8 on oc8) (.int .i64 B.ticks) (.int .i64 B.parse) (.int .i64 B.word) (.int .i64 B.drops) (.int .i64 B.vers)
 have HO := hide HO0
 have HB := hide HB0
 clear fr st9 st10 own9 own10 HO0 HB0
 go_wp2
 exact bodyPost_ret (v := .agg #[.int .i64 B.id, .string B.name, .slice a4 n c4, .slice fa6 fn fc6, .slice ra8 rn rc8, .slice oa8 on oc8, .int .i64 B.ticks, .int .i64 B.parse, .int .i64 B.word, .int .i64 B.drops, .int .i64 B.vers]) (by simp [results, Tryz.results65, go_sem, *]) rfl ⟨a4, c4, fa6, fc6, ra8, rc8, oa8, oc8, rfl, HO.out, HB.out⟩

set_option maxRecDepth 100000 in
set_option maxHeartbeats 2000000 in
theorem specThere_any (a : Option Addr) (n c : Nat) (fa : Option Addr) (fn fc : Nat) (ra : Option Addr) (rn rc : Nat) (oa : Option Addr) (on oc : Nat) (B : BR) (port : Int) (w : World) (h : BrRow w a n c fa fn fc ra rn rc oa on oc B) :
  Calls Tryz.prog 68 #[.agg #[.int .i64 B.id, .string B.name, .slice a n c, .slice fa fn fc, .slice ra rn rc, .slice oa on oc, .int .i64 B.ticks, .int .i64 B.parse, .int .i64 B.word, .int .i64 B.drops, .int .i64 B.vers], .int .i64 port] w fun e w' => e = .returned (.bool (thereB B port)) ∧ Below w.heap.size w w' := by
 have hle := h.ports.le
 have htop := h.ports.top
 unfold maxLen at htop
 have HTB : Hid (thereB B port = (bridgeOk B && (decide (0 ≤ port) && decide (port ≤ (n : Int) - 1)))) := hide (by unfold thereB; rw [h.ports.size])
 generalize hw1 : w.alloc (Obj.cells #[.int .i64 B.id, .string B.name, .slice a n c, .slice fa fn fc, .slice ra rn rc, .slice oa on oc, .int .i64 B.ticks, .int .i64 B.parse, .int .i64 B.word, .int .i64 B.drops, .int .i64 B.vers] 31) = w1
 have b01 : Below w.heap.size w w1 := by rw [← hw1]; exact below_one _ _
 have k1 : w1.heap[w.heap.size]? = some (.cells #[.int .i64 B.id, .string B.name, .slice a n c, .slice fa fn fc, .slice ra rn rc, .slice oa on oc, .int .i64 B.ticks, .int .i64 B.parse, .int .i64 B.word, .int .i64 B.drops, .int .i64 B.vers] 31) := by rw [← hw1]; exact block_last _ _
 obtain ⟨x0, x1, x2, x3, x4, x5, x6, x7, x8, x9, x10⟩ := cells11 k1
 cases hok : bridgeOk B
 ·have HQ : Hid (thereB B port = false) := hide (by rw [HTB.out, hok]; rfl)
  have HOK := hide hok
  clear hok
  go_enter Tryz.func68, Tryz.ntmps68
  go_wp2_with fail
  refine (specBridgeOk_any a n c fa fn fc ra rn rc oa on oc B _ (h.below b01)).mono ?_
  rintro e w2 ⟨rfl, hb2⟩
  rw [HOK.out]
  have HB := hide (gr_trans b01 hb2)
  clear x0 x1 x2 x3 x4 x5 x6 x7 x8 x9 x10 hb2
  go_wp2
  go_ret
  exact ⟨(by rw [HQ.out]; rfl), HB.out⟩
 ·have HOK := hide hok
  have HQ : Hid (thereB B port = (decide (0 ≤ port) && decide (port ≤ (n : Int) - 1))) := hide (by rw [HTB.out, hok]; rfl)
  clear hok
  go_enter Tryz.func68, Tryz.ntmps68
  go_wp2_with fail
  refine (specBridgeOk_any a n c fa fn fc ra rn rc oa on oc B _ (h.below b01)).mono ?_
  rintro e w2 ⟨rfl, hb2⟩
  rw [HOK.out]
  have HB := hide (gr_trans b01 hb2)
  have k2 := kept_block k1 hb2
  clear x0 x1 x2 x3 x4 x5 x6 x7 x8 x9 x10 hb2
  obtain ⟨x0, x1, x2, x3, x4, x5, x6, x7, x8, x9, x10⟩ := cells11 k2
  go_wp2_with fail
  refine (within_any port 0 ((n : Int) - 1) _).mono ?_
  rintro r w3 ⟨rfl, ew⟩
  obtain rfl := ew.symm
  go_wp2
  go_ret
  exact ⟨(by rw [HQ.out]; rfl), HB.out⟩

theorem rowAt_no {l : List VR} {id : Int} (h : rowIdx l id = none) : rowAt l id = -1 := by unfold rowAt; rw [h]
theorem rowAt_yes {l : List VR} {id : Int} {k : Nat} (h : rowIdx l id = some k) : rowAt l id = k := by unfold rowAt; rw [h]

set_option maxRecDepth 100000 in
set_option maxHeartbeats 4000000 in
theorem implVtabOk_any (a : Option Addr) (n c : Nat) (o : Option Addr) (p q : Nat) (v : VT) (ports : Int) (w : World) (h : VTab w a n c o p q v) (hR : ∀ r ∈ v.rows, r.Rng) :
  Calls Tryz.prog 62 #[.agg #[.slice a n c, .slice o p q], .int .i64 ports] w fun r w' => r = .returned (.bool (vtabOk v ports)) ∧ Below w.heap.size w w' := by
 have hle := h.rows.le
 have htop := h.rows.top
 have hle2 := h.own.le
 have htop2 := h.own.top
 unfold maxLen at htop htop2
 have hsz := hide h.rows.size
 have hsz2 := hide h.own.size
 generalize hw1 : w.alloc (Obj.cells #[Value.slice a n c, Value.slice o p q] 29) = w1
 have hW : Below w.heap.size w w1 := by subst hw1; exact below_one _ _
 obtain ⟨e0, e1⟩ := box_two hw1 (Below.refl _ w1)
 have h := h.below hW
 generalize hV : vtabOk v ports = V
 have HV := hide hV
 clear hV
 cases t1 : (decide (1 ≤ ports) && decide (ports ≤ 6))
 ·have HN := hide (vtab_in (v := v) t1)
  have T1 := hide t1
  clear t1
  go_enter Tryz.func62, Tryz.ntmps62
  go_wp2_with (refine (implIn9_any ports 1 6 _).mono ?_; rintro r w2 ⟨rfl, e2⟩; obtain rfl := e2.symm; rw [T1.out])
  go_ret
  exact ⟨ret_bool (by rw [← HV.out, HN.out]), hW⟩
 have T1 := hide t1
 simp only [Bool.and_eq_true, decide_eq_true_eq] at t1
 by_cases t2 : (p : Int) = ports
 case neg =>
  have HN := hide (vtab_len (v := v) (ports := ports) (by rw [hsz2.out]; exact t2))
  go_enter Tryz.func62, Tryz.ntmps62
  go_wp2_with (refine (implIn9_any ports 1 6 _).mono ?_; rintro r w2 ⟨rfl, e2⟩; obtain rfl := e2.symm; rw [T1.out])
  go_ret
  exact ⟨ret_bool (by rw [← HV.out, HN.out]), hW⟩
 subst t2
 by_cases t3 : n ≤ 6
 case neg =>
  have HN := hide (vtab_many (v := v) (ports := p) (by rw [hsz.out]; exact t3))
  go_enter Tryz.func62, Tryz.ntmps62
  go_wp2_with (refine (implIn9_any (p : Int) 1 6 _).mono ?_; rintro r w2 ⟨rfl, e2⟩; obtain rfl := e2.symm; rw [T1.out])
  go_ret
  exact ⟨ret_bool (by rw [← HV.out, HN.out]), hW⟩
 cases t4 : vrises v.rows
 ·have HN := hide (vtab_rise (v := v) (ports := p) t4)
  have T4 := hide t4
  clear t4
  go_enter Tryz.func62, Tryz.ntmps62
  go_wp2_with (refine (implIn9_any (p : Int) 1 6 _).mono ?_; rintro r w2 ⟨rfl, e2⟩; obtain rfl := e2.symm; rw [T1.out])
  refine (implRowsOf_any a n c o p q _).mono ?_
  rintro r w2 ⟨rfl, hb2⟩
  go_wp2_with fail
  refine (implAscends_any a n c v.rows _ (h.rows.below hb2)).mono ?_
  rintro r w3 ⟨rfl, hb3⟩
  rw [T4.out]
  have HB := hide (gr_trans hW (gr_trans hb2 hb3))
  clear hb2 hb3
  go_wp2
  go_ret
  exact ⟨ret_bool (by rw [← HV.out, HN.out]), HB.out⟩
 have T4 := hide t4
 clear t4
 go_enter Tryz.func62, Tryz.ntmps62
 go_wp2_with (refine (implIn9_any (p : Int) 1 6 _).mono ?_; rintro r w2 ⟨rfl, e2⟩; obtain rfl := e2.symm; rw [T1.out])
 refine (implRowsOf_any a n c o p q _).mono ?_
 rintro r w2 ⟨rfl, hb2⟩
 go_wp2_with fail
 refine (implAscends_any a n c v.rows _ (h.rows.below hb2)).mono ?_
 rintro r w3 ⟨rfl, hb3⟩
 rw [T4.out]
 have b13 := gr_trans hb2 hb3
 obtain ⟨x0, x1⟩ := box_two hw1 b13
 clear hb2 hb3 e0 e1
 go_wp2
 go_loopw [34] (fun i wr => ∃ k : Nat, k ≤ n ∧ i = .int .i64 k ∧ rowsTo (allOf p) v.rows k ∧ Below w1.heap.size w1 wr) (fun i _ => n - (intOf i).toNat)
 case atStart => exact ⟨0, Nat.zero_le _, rfl, fun i x hi => by omega, b13⟩
 case round =>
  obtain ⟨k, hk, rfl, hok, hb⟩ := hrel
  by_cases hlt : k < n
  ·obtain ⟨x, b, off, hx, rfl, c0, c1, c2⟩ := vrow_at (h.rows.below hb) k hlt
   have hxr : x.Rng := hR x (List.mem_of_getElem? hx)
   cases t5 : vrowOk (allOf p) x
   ·have HN := hide (vtab_row (v := v) (p := p) hx t5)
    have T5 := hide t5
    have HB := hide hb
    clear t5 hok hb hx x0 x1
    go_wp2_with fail
    refine (implVrowOk_any x p _ hxr (by omega) (by omega)).mono ?_
    rintro r w5 ⟨rfl, hb5⟩
    rw [T5.out]
    have HB1 := hide (gr_trans hW (gr_trans HB.out (gr_trans (below_one _ _) hb5)))
    clear hb5 c0 c1 c2
    go_wp2
    go_ret
    exact ⟨ret_bool (by rw [← HV.out, HN.out]), HB1.out⟩
   ·have HO := hide (rowsTo_next hok hx t5)
    have T5 := hide t5
    have HB := hide hb
    clear t5 hok hb hx x0 x1
    go_wp2_with fail
    refine (implVrowOk_any x p _ hxr (by omega) (by omega)).mono ?_
    rintro r w5 ⟨rfl, hb5⟩
    rw [T5.out]
    have HB1 := hide (gr_trans HB.out (gr_trans (below_one _ _) hb5))
    clear hb5 c0 c1 c2
    go_wp2
    go_roundw
    case rel => exact ⟨k + 1, by omega, by go_num, HO.out, HB1.out⟩
    case measure => simp [intOf]; omega
  ·have HK : Hid (vokTo (allOf p) v.rows v.rows.length) := hide (vokTo_of (fun i x hi hx => hok i x (by have := hsz.out; omega) hx) T4.out)
   obtain ⟨y0, y1⟩ := box_two hw1 hb
   have HB := hide hb
   have hkn : k = n := by omega
   clear hok hb x0 x1
   subst hkn
   go_wp2
   go_loopw [46] (fun i wr => ∃ k : Nat, k ≤ p ∧ i = .int .i64 k ∧ ownTo v k ∧ Below w1.heap.size w1 wr) (fun i _ => p - (intOf i).toNat)
   case atStart => exact ⟨0, Nat.zero_le _, rfl, fun i x hi => by omega, HB.out⟩
   case round =>
    obtain ⟨j, hj, rfl, hto, hb⟩ := hrel
    by_cases hlt : j < p
    ·obtain ⟨x, b, off, hx, rfl, c0⟩ := irow_at (h.own.below hb) j hlt
     obtain ⟨z0, z1⟩ := box_two hw1 hb
     clear y0 y1
     cases hr : rowIdx v.rows x with
     | none =>
      have HN := hide (vtab_own (p := p) (List.mem_of_getElem? hx) hr)
      have HA := hide (rowAt_no hr)
      have HB3 := hide hb
      clear hto hb hx hr
      go_wp2_with fail
      refine (implRowAt_any a k c v.rows (some ⟨b, off, none⟩) p q x _ (h.rows.below HB3.out)).mono ?_
      rintro r w5 ⟨rfl, hb5⟩
      rw [HA.out]
      have HB1 := hide (gr_trans hW (gr_trans HB3.out hb5))
      clear hb5 c0 z0 z1
      go_wp2
      go_ret
      exact ⟨ret_bool (by rw [← HV.out, HN.out]), HB1.out⟩
     | some i =>
      have HO := hide (ownTo_next hto hx (by rw [hr]; exact fun h => by cases h))
      have HA := hide (rowAt_yes hr)
      have HB3 := hide hb
      have hneg : ¬ ((i : Int) < 0) := by omega
      clear hto hb hx hr
      go_wp2_with fail
      refine (implRowAt_any a k c v.rows (some ⟨b, off, none⟩) p q x _ (h.rows.below HB3.out)).mono ?_
      rintro r w5 ⟨rfl, hb5⟩
      rw [HA.out]
      have HB1 := hide (gr_trans HB3.out hb5)
      clear hb5 c0 z0 z1
      go_wp2
      go_roundw
      case rel => exact ⟨j + 1, by omega, by go_num, HO.out, HB1.out⟩
      case measure => simp [intOf]; omega
    ·have HN : Hid (vtabOk v p = true) := hide (vtab_yes t1.1 t1.2 hsz2.out (by have := hsz.out; omega) HK.out (ownTo_all hto (by have := hsz2.out; omega)))
     have HB3 := hide (gr_trans hW hb)
     have hjn : j = p := by omega
     clear hto hb y0 y1
     subst hjn
     go_wp2
     go_ret
     exact ⟨ret_bool (by rw [← HV.out, HN.out]), HB3.out⟩

theorem bitOf_out {n port : Int} (h : in3 port 0 7 = false) : bitOf n port = false := by
 unfold bitOf
 rw [h]
 rfl

theorem bitOf_in {n : Int} {k : Nat} (h : k ≤ 7) : bitOf n (k : Int) = (bits .and .i64 (n / 2 ^ k) 1 == 1) := by
 unfold bitOf in3
 rw [Int.toNat_natCast, decide_eq_true (show (0 : Int) ≤ (k : Int) by omega), decide_eq_true (show (k : Int) ≤ 7 by omega)]
 rfl

set_option maxRecDepth 100000 in
set_option maxHeartbeats 2000000 in
theorem specBit_any (n port : Int) (w : World) :
  Calls Tryz.prog 132 #[.int .i64 n, .int .i64 port] w fun e w' => e = .returned (.bool (bitOf n port)) ∧ w' = w := by
 cases hin : in3 port 0 7
 ·rw [bitOf_out hin]
  have HIN := hide hin
  clear hin
  go_enter Tryz.func132, Tryz.ntmps132
  go_wp2_with fail
  refine (within_any port 0 7 _).mono ?_
  rintro e w1 ⟨rfl, e1⟩
  obtain rfl := e1.symm
  rw [show (decide (0 ≤ port) && decide (port ≤ 7)) = false from HIN.out]
  go_wp2
  go_ret
  exact ⟨rfl, rfl⟩
 ·have hp : 0 ≤ port ∧ port ≤ 7 := by unfold in3 at hin; simpa using hin
  obtain ⟨k, rfl⟩ : ∃ k : Nat, port = (k : Int) := ⟨port.toNat, by omega⟩
  rw [bitOf_in (by omega)]
  generalize hB : (bits .and .i64 (n / 2 ^ k) 1 == 1) = B
  have hwk : IntKind.u64.wrap (k : Int) = (k : Int) := by rw [IntKind.wrap_u64]; omega
  have HIN := hide hin
  clear hin
  go_enter Tryz.func132, Tryz.ntmps132
  go_wp2_with fail
  refine (within_any (k : Int) 0 7 _).mono ?_
  rintro e w1 ⟨rfl, e1⟩
  obtain rfl := e1.symm
  rw [show (decide (0 ≤ (k : Int)) && decide ((k : Int) ≤ 7)) = true from HIN.out]
  go_wp2
  go_ret
  exact ⟨ret_bool (by first | rfl | simp [hB]), rfl⟩

def hasP (n port : Int) : Bool := decide (0 ≤ port) && (bits .and .i64 n (2 ^ port.toNat) != 0)

theorem hasP_same {n port : Int} (hn : I64 n) (h : port ≤ 7 ∨ (port ≤ 9 ∧ 0 ≤ n ∧ n ≤ 63)) : hasP n port = bitOf n port := by
 unfold hasP
 by_cases h0 : 0 ≤ port
 ·obtain ⟨k, rfl⟩ : ∃ k : Nat, port = (k : Int) := ⟨port.toNat, by omega⟩
  rw [decide_eq_true h0, Bool.true_and, Int.toNat_natCast, bit_same n k (by omega) hn]
  by_cases h7 : k ≤ 7
  ·rw [bitOf_in h7]
  ·rw [bitOf_out (by unfold in3; rw [decide_eq_false (show ¬ (k : Int) ≤ 7 by omega), Bool.and_false])]
   have hn2 : 0 ≤ n ∧ n ≤ 63 := by rcases h with h | h <;> omega
   rcases (show k = 8 ∨ k = 9 by omega) with rfl | rfl
   ·rw [show n / 2 ^ 8 = 0 by simp; omega]
    decide
   ·rw [show n / 2 ^ 9 = 0 by simp; omega]
    decide
 ·rw [decide_eq_false h0, Bool.false_and, bitOf_out (by unfold in3; rw [decide_eq_false h0, Bool.false_and])]

set_option maxRecDepth 100000 in
set_option maxHeartbeats 2000000 in
theorem implHasPort_any (n port : Int) (hp : port ≤ 9) (w : World) :
  Calls Tryz.prog 161 #[.int .i64 n, .int .i64 port] w fun e w' => e = .returned (.bool (hasP n port)) ∧ w' = w := by
 by_cases h0 : 0 ≤ port
 ·have hx : port = 0 ∨ port = 1 ∨ port = 2 ∨ port = 3 ∨ port = 4 ∨ port = 5 ∨ port = 6 ∨ port = 7 ∨ port = 8 ∨ port = 9 := by omega
  rcases hx with rfl | rfl | rfl | rfl | rfl | rfl | rfl | rfl | rfl | rfl
  ·rw [show hasP n 0 = (bits .and .i64 n 1 != 0) from rfl]
   generalize hB : (bits .and .i64 n 1 != 0) = B
   go_enter Tryz.func161, Tryz.ntmps161
   go_wp2
   go_ret
   exact ⟨ret_bool (by first | rfl | simp [hB]), rfl⟩
  ·rw [show hasP n 1 = (bits .and .i64 n 2 != 0) from rfl]
   generalize hB : (bits .and .i64 n 2 != 0) = B
   go_enter Tryz.func161, Tryz.ntmps161
   go_wp2
   go_ret
   exact ⟨ret_bool (by first | rfl | simp [hB]), rfl⟩
  ·rw [show hasP n 2 = (bits .and .i64 n 4 != 0) from rfl]
   generalize hB : (bits .and .i64 n 4 != 0) = B
   go_enter Tryz.func161, Tryz.ntmps161
   go_wp2
   go_ret
   exact ⟨ret_bool (by first | rfl | simp [hB]), rfl⟩
  ·rw [show hasP n 3 = (bits .and .i64 n 8 != 0) from rfl]
   generalize hB : (bits .and .i64 n 8 != 0) = B
   go_enter Tryz.func161, Tryz.ntmps161
   go_wp2
   go_ret
   exact ⟨ret_bool (by first | rfl | simp [hB]), rfl⟩
  ·rw [show hasP n 4 = (bits .and .i64 n 16 != 0) from rfl]
   generalize hB : (bits .and .i64 n 16 != 0) = B
   go_enter Tryz.func161, Tryz.ntmps161
   go_wp2
   go_ret
   exact ⟨ret_bool (by first | rfl | simp [hB]), rfl⟩
  ·rw [show hasP n 5 = (bits .and .i64 n 32 != 0) from rfl]
   generalize hB : (bits .and .i64 n 32 != 0) = B
   go_enter Tryz.func161, Tryz.ntmps161
   go_wp2
   go_ret
   exact ⟨ret_bool (by first | rfl | simp [hB]), rfl⟩
  ·rw [show hasP n 6 = (bits .and .i64 n 64 != 0) from rfl]
   generalize hB : (bits .and .i64 n 64 != 0) = B
   go_enter Tryz.func161, Tryz.ntmps161
   go_wp2
   go_ret
   exact ⟨ret_bool (by first | rfl | simp [hB]), rfl⟩
  ·rw [show hasP n 7 = (bits .and .i64 n 128 != 0) from rfl]
   generalize hB : (bits .and .i64 n 128 != 0) = B
   go_enter Tryz.func161, Tryz.ntmps161
   go_wp2
   go_ret
   exact ⟨ret_bool (by first | rfl | simp [hB]), rfl⟩
  ·rw [show hasP n 8 = (bits .and .i64 n 256 != 0) from rfl]
   generalize hB : (bits .and .i64 n 256 != 0) = B
   go_enter Tryz.func161, Tryz.ntmps161
   go_wp2
   go_ret
   exact ⟨ret_bool (by first | rfl | simp [hB]), rfl⟩
  ·rw [show hasP n 9 = (bits .and .i64 n 512 != 0) from rfl]
   generalize hB : (bits .and .i64 n 512 != 0) = B
   go_enter Tryz.func161, Tryz.ntmps161
   go_wp2
   go_ret
   exact ⟨ret_bool (by first | rfl | simp [hB]), rfl⟩
 ·rw [show hasP n port = false by unfold hasP; rw [decide_eq_false h0]; rfl]
  go_enter Tryz.func161, Tryz.ntmps161
  go_wp2
  go_ret
  exact ⟨rfl, rfl⟩

set_option maxRecDepth 100000 in
set_option maxHeartbeats 400000 in
theorem specOne_any (n : Int) (w : World) (h : n ≤ 9223372036854775806) (h0 : -9223372036854775808 ≤ n) :
  Calls Tryz.prog 71 #[.int .i64 n] w fun e w' => e = .returned (.int .i64 (oneMore n)) ∧ w' = w := by
 by_cases h1 : n ≥ 1000000
 ·rw [show oneMore n = n from if_pos h1]
  have h1' : (1000000 : Int) ≤ n := h1
  go_enter Tryz.func71, Tryz.ntmps71
  go_wp2
  go_ret
  exact ⟨rfl, rfl⟩
 ·rw [show oneMore n = n + 1 from if_neg h1]
  have h1' : ¬ (1000000 : Int) ≤ n := h1
  go_enter Tryz.func71, Tryz.ntmps71
  go_wp2
  go_ret
  exact ⟨rfl, rfl⟩

theorem flushTo_len (bits : Int) (l : List FE) (k : Nat) : (flushTo bits l k).length ≤ l.length := (flushTo_sub bits l k).length_le

set_option maxRecDepth 100000 in
set_option maxHeartbeats 8000000 in
theorem specTurned_made (base : Nat) (a : Option Addr) (n c : Nat) (fa : Option Addr) (fn fc : Nat) (ra : Option Addr) (rn rc : Nat) (oa : Option Addr) (on oc : Nat) (B : BR) (w : World) (h : BrOwn w base a n c fa fn fc ra rn rc oa on oc B) (hbase : base ≤ w.heap.size) (hn : n ≤ 1048576) (hfn : fn ≤ 16777216) (hv : -9223372036854775808 ≤ B.vers ∧ B.vers ≤ 9223372036854775806) :
  Calls Tryz.prog 70 #[.agg #[.int .i64 B.id, .string B.name, .slice a n c, .slice fa fn fc, .slice ra rn rc, .slice oa on oc, .int .i64 B.ticks, .int .i64 B.parse, .int .i64 B.word, .int .i64 B.drops, .int .i64 B.vers]] w fun e w' => ∃ (fa2 : Option Addr) (fn2 fc2 : Nat), e = .returned (.agg #[.int .i64 B.id, .string B.name, .slice a n c, .slice fa2 fn2 fc2, .slice ra rn rc, .slice oa on oc, .int .i64 B.ticks, .int .i64 B.parse, .int .i64 B.word, .int .i64 B.drops, .int .i64 (oneMore B.vers)]) ∧ BrOwn w' base a n c fa2 fn2 fc2 ra rn rc oa on oc (turned B) ∧ Below w.heap.size w w' := by
 have hpl : B.ports.length = n := (grow_own (F := ptF) h.ports).size
 have hfl : B.f.length = fn := (grow_own (F := fentF) h.f).size
 generalize hw1 : w.alloc (Obj.cells #[.int .i64 B.id, .string B.name, .slice a n c, .slice fa fn fc, .slice ra rn rc, .slice oa on oc, .int .i64 B.ticks, .int .i64 B.parse, .int .i64 B.word, .int .i64 B.drops, .int .i64 B.vers] 31) = w1
 generalize hw2 : w1.alloc (Obj.cells #[.int .i64 0, .string ⟨#[]⟩, .slice none 0 0, .slice none 0 0, .slice none 0 0, .slice none 0 0, .int .i64 0, .int .i64 0, .int .i64 0, .int .i64 0, .int .i64 0] 31) = w2
 have b01 : Below w.heap.size w w1 := by rw [← hw1]; exact below_one _ _
 have b12 : Below w1.heap.size w1 w2 := by rw [← hw2]; exact below_one _ _
 have z1 : w.heap.size < w1.heap.size := by rw [← hw1]; simp
 have st2 : BcSt w w2 w1.heap.size w.heap.size #[.int .i64 B.id, .string B.name, .slice a n c, .slice fa fn fc, .slice ra rn rc, .slice oa on oc, .int .i64 B.ticks, .int .i64 B.parse, .int .i64 B.word, .int .i64 B.drops, .int .i64 B.vers] := ⟨kept_block (by rw [← hw1]; exact block_last _ _) b12, by rw [← hw2]; exact block_last _ _, gr_trans b01 b12, Nat.le_refl _, Nat.le_of_lt z1, Nat.ne_of_gt z1⟩
 have own2 := h.below (gr_trans b01 b12)
 obtain ⟨x0, x1, x2, x3, x4, x5, x6, x7, x8, x9, x10⟩ := cells11 st2.box
 have f10 := frozen8 st2.box 10
 obtain ⟨V, hV⟩ : ∃ V, V = oneMore B.vers := ⟨_, rfl⟩
 have HV := hide hV
 have HVR := hide hv
 clear hv
 go_enter Tryz.func70, Tryz.ntmps70
 go_wp2_with fail
 refine (specOne_any B.vers _ HVR.out.2 HVR.out.1).mono ?_
 rintro e w3 ⟨rfl, e3⟩
 obtain rfl := e3.symm
 rw [← hV]
 clear hV hw1 hw2
 generalize hR : w1.heap.size = R at *
 generalize hw4 : w2.setCell ⟨w.heap.size, 10, none⟩ (.int .i64 V) = w4
 have st4 := st2.put 10 (.int .i64 V) (cs' := #[.int .i64 B.id, .string B.name, .slice a n c, .slice fa fn fc, .slice ra rn rc, .slice oa on oc, .int .i64 B.ticks, .int .i64 B.parse, .int .i64 B.word, .int .i64 B.drops, .int .i64 V]) rfl
 have own4 := own2.boxed st2.box 10 (.int .i64 V)
 rw [hw4] at st4 own4
 go_upto_region 2 with fail
 clear x0 x1 x2 x3 x4 x5 x6 x7 x8 x9 x10 f10 st2 own2 hw4
 obtain ⟨x0, x1, x2, x3, x4, x5, x6, x7, x8, x9, x10⟩ := cells11 st4.box
 go_wp2_with fail
 refine (specSends_any B.id a n c B.ports _ (grow_own (F := ptF) own4.ports)).mono ?_
 rintro e w5 ⟨rfl, hb5⟩
 have st5 := st4.later hb5
 have own5 := own4.below hb5
 generalize hbits : sendsOf B.id B.ports = bits
 have HBI := hide hbits
 clear x0 x1 x2 x3 x4 x5 x6 x7 x8 x9 x10 st4 own4 hb5 hbits
 have HFL := hide hfl
 clear hfl
 go_wp2_with fail
 go_loopw [4] (fun i wr => ∃ (k : Nat) (fa2 : Option Addr) (fn2 fc2 : Nat), k ≤ n ∧ i = .int .i64 k ∧ fn2 ≤ fn ∧ BcSt w wr R w.heap.size #[.int .i64 B.id, .string B.name, .slice a n c, .slice fa2 fn2 fc2, .slice ra rn rc, .slice oa on oc, .int .i64 B.ticks, .int .i64 B.parse, .int .i64 B.word, .int .i64 B.drops, .int .i64 V] ∧ BrOwn wr base a n c fa2 fn2 fc2 ra rn rc oa on oc { B with f := flushTo bits B.f k }) (fun i _ => n - (intOf i).toNat)
 case atStart => exact ⟨0, fa, fn, fc, Nat.zero_le _, rfl, Nat.le_refl _, st5, own5⟩
 case round =>
  obtain ⟨k, fa2, fn2, fc2, hk, rfl, hf2, st, own⟩ := hrel
  clear st5 own5
  obtain ⟨x0, x1, x2, x3, x4, x5, x6, x7, x8, x9, x10⟩ := cells11 st.box
  by_cases hlt : k < n
  ·have i1 : (0 : Int) ≤ (k : Int) := by omega
   have i2 : (k : Int) < (n : Int) := by omega
   go_wp2_with fail
   refine (specBit_any bits (k : Int) _).mono ?_
   rintro e w6 ⟨rfl, e6⟩
   obtain rfl := e6.symm
   cases hb : bitOf bits (k : Int)
   ·have HF : Hid (flushTo bits B.f (k + 1) = flushF (flushTo bits B.f k) (k : Int)) := hide (by rw [flushTo, if_neg (by rw [hb]; decide)])
    clear hb
    go_wp2_with fail
    refine (specFlush_any fa2 fn2 fc2 (flushTo bits B.f k) (k : Int) _ (grow_own (F := fentF) own.f) (by omega)).mono ?_
    rintro e w7 ⟨fa7, fc7, rfl, o7, -, hb7⟩
    have hlen : (flushF (flushTo bits B.f k) (k : Int)).length ≤ fn := by
     have h1 : (flushF (flushTo bits B.f k) (k : Int)).length ≤ (flushTo bits B.f k).length := List.length_filter_le _ _
     have h2 := flushTo_len bits B.f k
     have h3 := HFL.out
     omega
    have st7 := st.later hb7
    have o7 := gown_lt o7 (base' := base) (Nat.le_trans hbase st.below.size)
    have own7 := (own.below hb7).putF (Below.refl _ _) o7
    clear x0 x1 x2 x3 x4 x5 x6 x7 x8 x9 x10 hb7 o7 st own
    obtain ⟨x0, x1, x2, x3, x4, x5, x6, x7, x8, x9, x10⟩ := cells11 st7.box
    have f3 := frozen8 st7.box 3
    rw [← HF.out] at own7 hlen ⊢
    generalize hL : (flushTo bits B.f (k + 1)).length = L at *
    have HST := hide (st7.put 3 (.slice fa7 L fc7) (cs' := #[.int .i64 B.id, .string B.name, .slice a n c, .slice fa7 L fc7, .slice ra rn rc, .slice oa on oc, .int .i64 B.ticks, .int .i64 B.parse, .int .i64 B.word, .int .i64 B.drops, .int .i64 V]) rfl)
    have HOW := hide (own7.boxed st7.box 3 (.slice fa7 L fc7))
    clear st7 own7
    go_wp2
    go_roundw
    case rel => exact ⟨k + 1, fa7, L, fc7, by omega, by go_num, hlen, HST.out, HOW.out⟩
    case measure => simp [intOf]; omega
   ·have HF : Hid (flushTo bits B.f (k + 1) = flushTo bits B.f k) := hide (by rw [flushTo, if_pos hb])
    have HOW : Hid (BrOwn wr base a n c fa2 fn2 fc2 ra rn rc oa on oc { B with f := flushTo bits B.f (k + 1) }) := hide (by rw [HF.out]; exact own)
    have HST := hide st
    clear hb st own x0 x1 x2 x3 x4 x5 x6 x7 x8 x9 x10
    go_wp2
    go_roundw
    case rel => exact ⟨k + 1, fa2, fn2, fc2, by omega, by go_num, hf2, HST.out, HOW.out⟩
    case measure => simp [intOf]; omega
  ·obtain rfl : n = k := by omega
   obtain ⟨y0, y1, y2, y3, y4, y5, y6, y7, y8, y9, y10⟩ := cells11 st.res
   have fr := frozen8 st.res
   have f0 := fr 0
   have f1 := fr 1
   have f2 := fr 2
   have f3 := fr 3
   have f4 := fr 4
   have f5 := fr 5
   have f6 := fr 6
   have f7 := fr 7
   have f8 := fr 8
   have f9 := fr 9
   have f10 := fr 10
   have ne1 : ¬ R = w.heap.size := st.ne
   have ne2 : ¬ w.heap.size = R := fun e => st.ne e.symm
   have HT : Hid (turned B = { B with vers := V, f := flushTo bits B.f n }) := hide (by unfold turned; rw [HBI.out, hpl, HV.out])
   obtain ⟨HO0, HB0⟩ := st.out own (.int .i64 B.id) (.string B.name) (.slice a n c) (.slice fa2 fn2 fc2) (.slice ra rn rc) (.slice oa on oc) (.int .i64 B.ticks) (.int .i64 B.parse) (.int .i64 B.word) (.int .i64 B.drops) (.int .i64 V)
   have HO := hide HO0
   have HB := hide HB0
   clear st own fr HO0 HB0
   go_wp2
   exact bodyPost_ret (v := .agg #[.int .i64 B.id, .string B.name, .slice a n c, .slice fa2 fn2 fc2, .slice ra rn rc, .slice oa on oc, .int .i64 B.ticks, .int .i64 B.parse, .int .i64 B.word, .int .i64 B.drops, .int .i64 V]) (by simp [results, Tryz.results70, go_sem, *]) rfl ⟨fa2, fn2, fc2, (by rw [HV.out]), (by rw [HT.out]; exact ⟨HO.out.ports, HO.out.f, HO.out.v⟩), HB.out⟩

theorem cells12 {w : World} {g : Nat} {T : TypeId} {c0 c1 c2 c3 c4 c5 c6 c7 c8 c9 c10 c11 : Value} (h : w.heap[g]? = some (.cells #[c0, c1, c2, c3, c4, c5, c6, c7, c8, c9, c10, c11] T)) :
  w.cell? ⟨g, 0, none⟩ = some c0 ∧ w.cell? ⟨g, 1, none⟩ = some c1 ∧ w.cell? ⟨g, 2, none⟩ = some c2 ∧ w.cell? ⟨g, 3, none⟩ = some c3 ∧ w.cell? ⟨g, 4, none⟩ = some c4 ∧ w.cell? ⟨g, 5, none⟩ = some c5 ∧ w.cell? ⟨g, 6, none⟩ = some c6 ∧ w.cell? ⟨g, 7, none⟩ = some c7 ∧ w.cell? ⟨g, 8, none⟩ = some c8 ∧ w.cell? ⟨g, 9, none⟩ = some c9 ∧ w.cell? ⟨g, 10, none⟩ = some c10 ∧ w.cell? ⟨g, 11, none⟩ = some c11 := by
 simp [World.cell?, h]

structure IbSt (w wr : World) (R X : Nat) (zs cs : Array Value) (TR TX : TypeId) : Prop where
 box : wr.heap[X]? = some (.cells cs TX)
 res : wr.heap[R]? = some (.cells zs TR)
 below : Below w.heap.size w wr
 hX : w.heap.size ≤ X
 hR : w.heap.size ≤ R
 ne : R ≠ X

theorem IbSt.later {w wr wx : World} {R X : Nat} {zs cs : Array Value} {TR TX : TypeId} (h : IbSt w wr R X zs cs TR TX) (hb : Below wr.heap.size wr wx) : IbSt w wx R X zs cs TR TX :=
 ⟨kept_block h.box hb, kept_block h.res hb, gr_trans h.below hb, h.hX, h.hR, h.ne⟩

theorem IbSt.put {w wr : World} {R X : Nat} {zs cs : Array Value} {TR TX : TypeId} (h : IbSt w wr R X zs cs TR TX) (j : Nat) (u : Value) {cs' : Array Value} (he : cs.setIfInBounds j u = cs') : IbSt w (wr.setCell ⟨X, j, none⟩ u) R X zs cs' TR TX :=
 ⟨by rw [← he]; exact box11 h.box j u, kept_set h.res h.ne, below_set h.below h.hX j u, h.hX, h.hR, h.ne⟩

theorem IbSt.grown {w wr wx : World} {R X : Nat} {zs cs : Array Value} {TR TX : TypeId} (h : IbSt w wr R X zs cs TR TX) {base k : Nat} {e : TypeId} {v : Value} {n : Nat} {ys : List Value} (ho : wr.ownsRow base e k v n ys) (h1 : (e : Nat) ≠ TX) (h2 : (e : Nat) ≠ TR) (hg : wr.grownBy wx v.ownBlock) (hb : Below w.heap.size wr wx) : IbSt w wx R X zs cs TR TX :=
 ⟨kept_grown h.box hg (fun i e => box_ne ho h.box h1 i e), kept_grown h.res hg (fun i e => box_ne ho h.res h2 i e), h.below.trans hb, h.hX, h.hR, h.ne⟩

theorem IbSt.stay {w wr : World} {R X : Nat} {zs cs : Array Value} {TR TX : TypeId} (h : IbSt w wr R X zs cs TR TX) {base k : Nat} {e : TypeId} {v : Value} {n : Nat} {ys : List Value} (ho : wr.ownsRow base e k v n ys) (hne : (e : Nat) ≠ TX) (j : Nat) (u : Value) : (wr.setCell ⟨X, j, none⟩ u).ownsRow base e k v n ys :=
 gown_other ho (grown_set (rb := X) j u) (box_ne ho h.box hne)

theorem BrOwn.other {w : World} {base : Nat} {a : Option Addr} {n c : Nat} {fa : Option Addr} {fn fc : Nat} {ra : Option Addr} {rn rc : Nat} {oa : Option Addr} {on oc : Nat} {B : BR} (h : BrOwn w base a n c fa fn fc ra rn rc oa on oc B) {X : Nat} {cs : Array Value} {T : TypeId} (hX : w.heap[X]? = some (.cells cs T)) (h1 : (44 : Nat) ≠ T) (h2 : (49 : Nat) ≠ T) (h3 : (95 : Nat) ≠ T) (h4 : (3 : Nat) ≠ T) (j : Nat) (u : Value) : BrOwn (w.setCell ⟨X, j, none⟩ u) base a n c fa fn fc ra rn rc oa on oc B :=
 ⟨gown_other h.ports (grown_set (rb := X) j u) (box_ne h.ports hX h1), gown_other h.f (grown_set (rb := X) j u) (box_ne h.f hX h2),
  ⟨gown_other h.v.rows (grown_set (rb := X) j u) (box_ne h.v.rows hX h3), gown_other h.v.own (grown_set (rb := X) j u) (box_ne h.v.own hX h4), h.v.i64⟩⟩

set_option maxRecDepth 100000 in
set_option maxHeartbeats 400000 in
theorem implOne_any (n : Int) (w : World) (h : n ≤ 1000000) (h0 : 0 ≤ n) :
  Calls Tryz.prog 50 #[.int .i64 n] w fun e w' => e = .returned (.int .i64 (oneMore n)) ∧ w' = w := by
 by_cases h1 : n ≥ 1000000
 ·have e : n = 1000000 := by omega
  subst e
  rw [show oneMore 1000000 = 1000000 from rfl]
  go_enter Tryz.func50, Tryz.ntmps50
  go_wp2
  go_ret
  exact ⟨rfl, rfl⟩
 ·rw [show oneMore n = n + 1 from if_neg h1]
  have h1' : min (n + 1) (1000000 : Int) = n + 1 := by omega
  go_enter Tryz.func50, Tryz.ntmps50
  go_wp2
  go_ret
  exact ⟨rfl, rfl⟩

set_option maxRecDepth 100000 in
set_option maxHeartbeats 400000 in
theorem implHas_any (a : Option Addr) (n c : Nat) (port : Int) (w : World) (hn : n ≤ 137438953472) :
  Calls Tryz.prog 48 #[.slice a n c, .int .i64 port] w fun e w' => e = .returned (.bool (decide (0 ≤ port) && decide (port ≤ (n : Int) - 1))) ∧ w' = w := by
 go_enter Tryz.func48, Tryz.ntmps48
 go_wp2_with fail
 refine (implIn_any port 0 ((n : Int) - 1) _).mono ?_
 rintro r w3 ⟨rfl, ew⟩
 obtain rfl := ew.symm
 go_wp2
 go_ret
 exact ⟨rfl, rfl⟩

set_option maxRecDepth 100000 in
set_option maxHeartbeats 1000000 in
theorem implIsUp_no (a : Option Addr) (n c : Nat) (port : Int) (w : World) (hn : n ≤ 137438953472) (h : (decide (0 ≤ port) && decide (port ≤ (n : Int) - 1)) = false) :
  Calls Tryz.prog 44 #[.slice a n c, .int .i64 port] w fun e w' => e = .returned (.bool false) ∧ w' = w := by
 have HH := hide h
 clear h
 go_enter Tryz.func44, Tryz.ntmps44
 go_wp2_with fail
 refine (implHas_any a n c port _ hn).mono ?_
 rintro r w3 ⟨rfl, ew⟩
 obtain rfl := ew.symm
 rw [HH.out]
 go_wp2
 go_ret
 exact ⟨rfl, rfl⟩

set_option maxRecDepth 100000 in
set_option maxHeartbeats 1000000 in
theorem implIsUp_yes (a : Option Addr) (n c : Nat) (k : Nat) (l : List PT) (x : PT) (w : World) (h : GRow ptF w a n c l) (hn : n ≤ 137438953472) (hk : k < n) (hx : l[k]? = some x) :
  Calls Tryz.prog 44 #[.slice a n c, .int .i64 k] w fun e w' => e = .returned (.bool x.up) ∧ w' = w := by
 have HH : Hid ((decide (0 ≤ (k : Int)) && decide ((k : Int) ≤ (n : Int) - 1)) = true) := hide (by rw [decide_eq_true (by omega), decide_eq_true (by omega)]; rfl)
 obtain ⟨x', b, off, hx', rfl, c0, c1, c2, c3, c4, c5, c6, c7⟩ := pt_at h k hk
 rw [hx] at hx'
 cases hx'
 have i1 : (0 : Int) ≤ (k : Int) := by omega
 have i2 : (k : Int) < (n : Int) := by omega
 go_enter Tryz.func44, Tryz.ntmps44
 go_wp2_with fail
 refine (implHas_any _ n c (k : Int) _ hn).mono ?_
 rintro r w3 ⟨rfl, ew⟩
 obtain rfl := ew.symm
 rw [HH.out]
 go_wp2
 go_ret
 exact ⟨rfl, rfl⟩

set_option maxRecDepth 100000 in
set_option maxHeartbeats 2000000 in
theorem implFace_any (a : Option Addr) (n c : Nat) (fa : Option Addr) (fn fc : Nat) (ra : Option Addr) (rn rc : Nat) (oa : Option Addr) (on oc : Nat) (B : BR) (w : World) :
  Calls Tryz.prog 45 #[.agg #[.slice a n c, .int .i64 B.id, .string B.name, .slice none 0 0, .slice fa fn fc, .slice ra rn rc, .slice oa on oc, .int .i64 B.ticks, .int .i64 B.parse, .int .i64 B.word, .int .i64 B.drops, .int .i64 B.vers]] w fun e w' => e = .returned (.agg #[.int .i64 B.id, .string B.name, .slice a n c, .slice fa fn fc, .slice ra rn rc, .slice oa on oc, .int .i64 B.ticks, .int .i64 B.parse, .int .i64 B.word, .int .i64 B.drops, .int .i64 B.vers]) ∧ Below w.heap.size w w' := by
 generalize hw1 : w.alloc (Obj.cells #[.slice a n c, .int .i64 B.id, .string B.name, .slice none 0 0, .slice fa fn fc, .slice ra rn rc, .slice oa on oc, .int .i64 B.ticks, .int .i64 B.parse, .int .i64 B.word, .int .i64 B.drops, .int .i64 B.vers] 82) = w1
 generalize hw2 : w1.alloc (Obj.cells #[.int .i64 0, .string ⟨#[]⟩, .slice none 0 0, .slice none 0 0, .slice none 0 0, .slice none 0 0, .int .i64 0, .int .i64 0, .int .i64 0, .int .i64 0, .int .i64 0] 31) = w2
 generalize hw3 : w2.alloc (Obj.cells #[.int .i64 B.id, .string B.name, .slice none 0 0, .slice fa fn fc, .slice ra rn rc, .slice oa on oc, .int .i64 B.ticks, .int .i64 B.parse, .int .i64 B.word, .int .i64 B.drops, .int .i64 B.vers] 31) = w3
 have b01 : Below w.heap.size w w1 := by rw [← hw1]; exact below_one _ _
 have b12 : Below w1.heap.size w1 w2 := by rw [← hw2]; exact below_one _ _
 have b23 : Below w2.heap.size w2 w3 := by rw [← hw3]; exact below_one _ _
 have z1 : w.heap.size < w1.heap.size := by rw [← hw1]; simp
 have z2 : w1.heap.size < w2.heap.size := by rw [← hw2]; simp
 have k1 : w1.heap[w.heap.size]? = some (.cells #[.slice a n c, .int .i64 B.id, .string B.name, .slice none 0 0, .slice fa fn fc, .slice ra rn rc, .slice oa on oc, .int .i64 B.ticks, .int .i64 B.parse, .int .i64 B.word, .int .i64 B.drops, .int .i64 B.vers] 82) := by rw [← hw1]; exact block_last _ _
 have kA := kept_block (kept_block k1 b12) b23
 obtain ⟨x0, x1, x2, x3, x4, x5, x6, x7, x8, x9, x10, x11⟩ := cells12 (kept_block k1 b12)
 have st : BcSt w w3 w1.heap.size w2.heap.size #[.int .i64 B.id, .string B.name, .slice none 0 0, .slice fa fn fc, .slice ra rn rc, .slice oa on oc, .int .i64 B.ticks, .int .i64 B.parse, .int .i64 B.word, .int .i64 B.drops, .int .i64 B.vers] := ⟨by rw [← hw3]; exact block_last _ _, kept_block (by rw [← hw2]; exact block_last _ _) b23, gr_trans (gr_trans b01 b12) b23, by omega, Nat.le_of_lt z1, Nat.ne_of_lt z2⟩
 have nAX : ¬ w.heap.size = w2.heap.size := by omega
 have nXA : ¬ w2.heap.size = w.heap.size := by omega
 have nRX : ¬ w1.heap.size = w2.heap.size := by omega
 have nXR : ¬ w2.heap.size = w1.heap.size := by omega
 clear z1 z2 b01 b12 b23 k1
 go_enter Tryz.func45, Tryz.ntmps45
 go_upto_region 2 with fail
 clear x0 x1 x2 x3 x4 x5 x6 x7 x8 x9 x10 x11
 try rw [hw3]
 clear hw1 hw2 hw3
 generalize hX : w2.heap.size = X at *
 generalize hR : w1.heap.size = R at *
 have st5 := st.put 2 (.slice a n c) (cs' := #[.int .i64 B.id, .string B.name, .slice a n c, .slice fa fn fc, .slice ra rn rc, .slice oa on oc, .int .i64 B.ticks, .int .i64 B.parse, .int .i64 B.word, .int .i64 B.drops, .int .i64 B.vers]) rfl
 have HB := hide (below_set11 st5.below st5.hR (.int .i64 B.id) (.string B.name) (.slice a n c) (.slice fa fn fc) (.slice ra rn rc) (.slice oa on oc) (.int .i64 B.ticks) (.int .i64 B.parse) (.int .i64 B.word) (.int .i64 B.drops) (.int .i64 B.vers))
 obtain ⟨x0, x1, x2, x3, x4, x5, x6, x7, x8, x9, x10, x11⟩ := cells12 kA
 obtain ⟨y0, y1, y2, y3, y4, y5, y6, y7, y8, y9, y10⟩ := cells11 st.box
 obtain ⟨u0, u1, u2, u3, u4, u5, u6, u7, u8, u9, u10⟩ := cells11 st.res
 have g2 := frozen8 st.box 2
 have fr := frozen8 st.res
 have fr0 := fr 0
 have fr1 := fr 1
 have fr2 := fr 2
 have fr3 := fr 3
 have fr4 := fr 4
 have fr5 := fr 5
 have fr6 := fr 6
 have fr7 := fr 7
 have fr8 := fr 8
 have fr9 := fr 9
 have fr10 := fr 10
 clear fr st st5 kA
 go_wp2
 exact bodyPost_ret (v := .agg #[.int .i64 B.id, .string B.name, .slice a n c, .slice fa fn fc, .slice ra rn rc, .slice oa on oc, .int .i64 B.ticks, .int .i64 B.parse, .int .i64 B.word, .int .i64 B.drops, .int .i64 B.vers]) (by simp [results, Tryz.results45, go_sem, *]) rfl ⟨rfl, HB.out⟩

set_option maxRecDepth 100000 in
set_option maxHeartbeats 4000000 in
theorem implHear_at (base g n cap k : Nat) (l : List PT) (x : PT) (v : VD) (w : World) (h : w.ownsRow base 44 8 (.slice (some ⟨g, 0, none⟩) n cap) n (ptF.all (l))) (hx : l[k]? = some x) (hk : k < n) :
  Calls Tryz.prog 46 #[.slice (some ⟨g, 0, none⟩) n cap, .int .i64 k, .agg #[.int .i64 v.r, .int .i64 v.c, .int .i64 v.h, .int .i64 v.b, .int .i64 v.p]] w fun e w' => e = .returned (.tuple #[]) ∧ w'.ownsRow base 44 8 (.slice (some ⟨g, 0, none⟩) n cap) n (ptF.all (l.set k ⟨x.up, x.k, true, v⟩)) ∧ w.grownBy w' (some g) := by
 generalize hw1 : w.alloc (Obj.cells #[.int .i64 v.r, .int .i64 v.c, .int .i64 v.h, .int .i64 v.b, .int .i64 v.p] 35) = w1
 have b01 : Below w.heap.size w w1 := by rw [← hw1]; exact below_one _ _
 have g01 : w.grownBy w1 (some g) := by rw [← hw1]; exact World.grownBy_alloc _ _ _
 have k1 : w1.heap[w.heap.size]? = some (Obj.cells #[.int .i64 v.r, .int .i64 v.c, .int .i64 v.h, .int .i64 v.b, .int .i64 v.p] 35) := by rw [← hw1]; exact block_last _ _
 have o1 := gown_below h b01
 have hgl : g < w.heap.size := (h.lt g rfl).2
 have ne1 : ¬ g = w.heap.size := by omega
 have ne2 : ¬ w.heap.size = g := by omega
 obtain ⟨⟨x0, x1, x2, x3, x4⟩, -⟩ := cells5 k1
 have i1 : (0 : Int) ≤ (k : Int) := by omega
 have i2 : (k : Int) < (n : Int) := by omega
 obtain ⟨⟨t0, t1, t2, t3, t4, t5, t6, t7⟩, f0, f1, f2, f3, f4, f5, f6, f7⟩ := pt_cells o1 hx
 have HA := hide (hear_own v o1 hx)
 have HGA := hide (grownTr g01 (hear_own_grown (w := w1) (g := g) (k := k) v))
 clear o1 g01 b01 hx h
 go_enter Tryz.func46, Tryz.ntmps46
 have HS := (cells5 (gr_drewK k1)).1
 go_wp2_with fail
 refine wp_region_held_drew (S := (fun W => W.cell? ⟨w.heap.size, 0, none⟩ = some (.int .i64 v.r) ∧ W.cell? ⟨w.heap.size, 1, none⟩ = some (.int .i64 v.c) ∧ W.cell? ⟨w.heap.size, 2, none⟩ = some (.int .i64 v.h) ∧ W.cell? ⟨w.heap.size, 3, none⟩ = some (.int .i64 v.b) ∧ W.cell? ⟨w.heap.size, 4, none⟩ = some (.int .i64 v.p))) (by kernel_rfl) (HS) (fun hHeld => ?_)
 refine wpAnyH_take (i := 0) (oi := ⟨some 6, .move (.tmp 0), 80, "l11_bridge.go:91", #[], none⟩) (v := ?_) rfl (by kernel_rfl) (by kernel_rfl) (by kernel_rfl) (fun _ _ _ h => h) (Or.inl ⟨by rfl, ?_⟩) (by assumption) ?_
 rotate_left
 ·(intro wY hSw; (try dsimp only at hSw); go_simp; try with_reducible rfl)
 simp only [Act.put, lA, lB, lC]
 refine wpAnyH_take (i := 1) (oi := ⟨some 7, .move (.tmp 1), 3, "l11_bridge.go:91", #[], none⟩) (v := ?_) rfl (by kernel_rfl) (by kernel_rfl) (by kernel_rfl) (fun _ _ _ h => h) (Or.inl ⟨by rfl, ?_⟩) (by assumption) ?_
 rotate_left
 ·(intro wY hSw; (try dsimp only at hSw); go_simp; try with_reducible rfl)
 simp only [Act.put, lA, lB, lC]
 refine wpAnyH_take (i := 2) (oi := ⟨some 8, .move (.tmp 0), 80, "l11_bridge.go:91", #[{ on := 7, ground := Ground.gcOnly Departure.lateStores }], none⟩) (v := ?_) rfl (by kernel_rfl) (by kernel_rfl) (by kernel_rfl) (fun _ _ _ h => h) (Or.inl ⟨by rfl, ?_⟩) (by assumption) ?_
 rotate_left
 ·(intro wY hSw; (try dsimp only at hSw); go_simp; try with_reducible rfl)
 simp only [Act.put, lA, lB, lC]
 refine wpAnyH_take (i := 3) (oi := ⟨some 9, .move (.tmp 1), 3, "l11_bridge.go:91", #[{ on := 7, ground := Ground.gcOnly Departure.lateStores }], none⟩) (v := ?_) rfl (by kernel_rfl) (by kernel_rfl) (by kernel_rfl) (fun _ _ _ h => h) (Or.inl ⟨by rfl, ?_⟩) (by assumption) ?_
 rotate_left
 ·(intro wY hSw; (try dsimp only at hSw); go_simp; try with_reducible rfl)
 simp only [Act.put, lA, lB, lC]
 refine wpAnyH_take (i := 4) (oi := ⟨some 10, .load 35 (.tmp 5), 35, "l11_bridge.go:91", #[{ on := 7, ground := Ground.gcOnly Departure.lateStores }], none⟩) (v := ?_) rfl (by kernel_rfl) (by kernel_rfl) (by kernel_rfl) (fun _ _ _ h => h) (Or.inl ⟨by rfl, ?_⟩) (by assumption) ?_
 rotate_left
 ·(intro wY hSw; (try dsimp only at hSw); go_simp; try with_reducible rfl)
 simp only [Act.put, lA, lB, lC]
 refine wpAnyH_take (i := 5) (oi := ⟨some 11, .indexAddr 80 (.tmp 6) (.tmp 7), 0, "l11_bridge.go:91", #[⟨0, .data⟩, ⟨1, .data⟩, ⟨0, .phase⟩, ⟨1, .phase⟩, { on := 2, ground := Ground.textOnly Departure.lateStores }, { on := 3, ground := Ground.textOnly Departure.lateStores }, { on := 4, ground := Ground.textOnly Departure.lateStores }], none⟩) (v := ?_) rfl (by kernel_rfl) (by kernel_rfl) (by kernel_rfl) (fun _ _ _ h => h) (Or.inl ⟨by rfl, ?_⟩) (by assumption) ?_
 rotate_left
 ·(intro wY hSw; (try dsimp only at hSw); go_simp; try with_reducible rfl)
 simp only [Act.put, lA, lB, lC]
 refine wpAnyH_take (i := 6) (oi := ⟨some 12, .fieldAddr 44 (.tmp 11) 2, 0, "l11_bridge.go:91", #[⟨5, .data⟩, ⟨0, .phase⟩, ⟨1, .phase⟩, { on := 2, ground := Ground.textOnly Departure.lateStores }, { on := 3, ground := Ground.textOnly Departure.lateStores }, { on := 4, ground := Ground.textOnly Departure.lateStores }], none⟩) (v := ?_) rfl (by kernel_rfl) (by kernel_rfl) (by kernel_rfl) (fun _ _ _ h => h) (Or.inl ⟨by rfl, ?_⟩) (by assumption) ?_
 rotate_left
 ·(intro wY hSw; (try dsimp only at hSw); go_simp; try with_reducible rfl)
 simp only [Act.put, lA, lB, lC]
 refine wpAnyH_ready (rs := [7]) (by kernel_rfl) (by simp) ?_
 refine AllReadyH.cons (o := ⟨none, .store 4 (.tmp 12) (.const (.bool true)), 0, "l11_bridge.go:91", #[⟨6, .data⟩, ⟨0, .phase⟩, ⟨1, .phase⟩, { on := 2, ground := Ground.textOnly Departure.lateStores }, { on := 3, ground := Ground.textOnly Departure.lateStores }, { on := 4, ground := Ground.textOnly Departure.lateStores }], none⟩) rfl (fun K hK => ?_) ?_
 ·go_simp
  have HS := (cells5 (gr_drewK (kept_set (b := g) (j := k * 8 + 2) (u := .bool true) k1 ne2))).1
  refine hK.out _ _ (HS) (fun hHeld => ?_)
  clear hK K
  try simp only [Act.put, lA, lB, lC]
  refine wpAnyH_take (i := 8) (oi := ⟨some 13, .indexAddr 80 (.tmp 8) (.tmp 9), 0, "l11_bridge.go:91", #[⟨2, .data⟩, ⟨3, .data⟩, ⟨0, .phase⟩, ⟨1, .phase⟩, ⟨2, .phase⟩, ⟨3, .phase⟩, ⟨4, .phase⟩, ⟨5, .phase⟩, ⟨6, .phase⟩, ⟨7, .phase⟩], none⟩) (v := ?_) rfl (by kernel_rfl) (by kernel_rfl) (by kernel_rfl) (fun _ _ _ h => h) (Or.inl ⟨by rfl, ?_⟩) (by assumption) ?_
  rotate_left
  ·(intro wY hSw; (try dsimp only at hSw); go_simp; try with_reducible rfl)
  simp only [Act.put, lA, lB, lC]
  refine wpAnyH_take (i := 9) (oi := ⟨some 14, .fieldAddr 44 (.tmp 13) 3, 0, "l11_bridge.go:91", #[⟨8, .data⟩, ⟨0, .phase⟩, ⟨1, .phase⟩, ⟨2, .phase⟩, ⟨3, .phase⟩, ⟨4, .phase⟩, ⟨5, .phase⟩, ⟨6, .phase⟩, ⟨7, .phase⟩], none⟩) (v := ?_) rfl (by kernel_rfl) (by kernel_rfl) (by kernel_rfl) (fun _ _ _ h => h) (Or.inl ⟨by rfl, ?_⟩) (by assumption) ?_
  rotate_left
  ·(intro wY hSw; (try dsimp only at hSw); go_simp; try with_reducible rfl)
  simp only [Act.put, lA, lB, lC]
  refine wpAnyH_ready (rs := [10]) (by kernel_rfl) (by simp) ?_
  refine AllReadyH.cons (o := ⟨none, .store 35 (.tmp 14) (.tmp 10), 0, "l11_bridge.go:91", #[⟨9, .data⟩, ⟨4, .data⟩, ⟨7, .chain⟩, ⟨0, .phase⟩, ⟨1, .phase⟩, ⟨2, .phase⟩, ⟨3, .phase⟩, ⟨4, .phase⟩, ⟨5, .phase⟩, ⟨6, .phase⟩, ⟨7, .phase⟩], none⟩) rfl (fun K hK => ?_) ?_
  ·go_simp
   have HS := (cells5 (gr_drewK (kept_set (b := g) (j := k * 8 + 7) (u := .int .i64 v.p) (kept_set (b := g) (j := k * 8 + 6) (u := .int .i64 v.b) (kept_set (b := g) (j := k * 8 + 5) (u := .int .i64 v.h) (kept_set (b := g) (j := k * 8 + 4) (u := .int .i64 v.c) (kept_set (b := g) (j := k * 8 + 3) (u := .int .i64 v.r) (kept_set (b := g) (j := k * 8 + 2) (u := .bool true) k1 ne2) ne2) ne2) ne2) ne2) ne2))).1
   refine hK.out _ _ (HS) (fun hHeld => ?_)
   clear hK K
   try simp only [Act.put, lA, lB, lC]
   refine wpAnyH_done (by kernel_rfl) ?_ _
   clear HS hHeld k1
   go_wp2
   go_end0
   exact ⟨rfl, gown_below HA.out (gr_drew (Below.refl _ _)), grown_drew HGA.out⟩
  exact AllReadyH.nil
 exact AllReadyH.nil

set_option maxRecDepth 100000 in
set_option maxHeartbeats 4000000 in
theorem implLink_at (base g n cap k : Nat) (l : List PT) (x : PT) (up : Bool) (w : World) (h : w.ownsRow base 44 8 (.slice (some ⟨g, 0, none⟩) n cap) n (ptF.all (l))) (hx : l[k]? = some x) (hk : k < n) :
  Calls Tryz.prog 49 #[.slice (some ⟨g, 0, none⟩) n cap, .int .i64 k, .bool up] w fun e w' => e = .returned (.tuple #[]) ∧ w'.ownsRow base 44 8 (.slice (some ⟨g, 0, none⟩) n cap) n (ptF.all (l.set k ⟨up, x.k, false, ⟨0, 0, 0, 0, 0⟩⟩)) ∧ w.grownBy w' (some g) := by
 have i1 : (0 : Int) ≤ (k : Int) := by omega
 have i2 : (k : Int) < (n : Int) := by omega
 obtain ⟨⟨t0, t1, t2, t3, t4, t5, t6, t7⟩, f0, f1, f2, f3, f4, f5, f6, f7⟩ := pt_cells h hx
 have HA := hide (link_own up h hx)
 have HG := hide (grown_set8 (w := w) (g := g) (k * 8) (k * 8 + 1) (k * 8 + 2) (k * 8 + 3) (k * 8 + 4) (k * 8 + 5) (k * 8 + 6) (k * 8 + 7) (.bool up) (.int .i64 x.k) (.bool false) (.int .i64 0) (.int .i64 0) (.int .i64 0) (.int .i64 0) (.int .i64 0))
 clear hx h
 go_enter Tryz.func49, Tryz.ntmps49
 go_wp2
 go_end0
 exact ⟨rfl, HA.out, HG.out⟩

set_option maxRecDepth 100000 in
set_option maxHeartbeats 1000000 in
theorem cloneP_any (ao : Option Addr) (n cap : Nat) (l : List PT) (w : World) (h : GRow ptF w ao n cap l) (hn : n ≤ 16777216) :
  Calls Tryz.prog 106 #[.slice ao n cap] w fun r w' => ∃ ao' cap', r = .returned (.slice ao' n cap') ∧ w'.ownsRow w.heap.size 44 8 (.slice ao' n cap') n (ptF.all l) ∧ Below w.heap.size w w' := by
 cases ao with
 | none =>
  have hc0 := h.nil rfl
  have hn0 : n = 0 := by have := h.le; omega
  subst hc0 hn0
  have hl : l = [] := List.eq_nil_of_length_eq_zero h.size
  subst hl
  have heq : ∀ W, (binOp .eql 24 (.slice none 0 0) (.slice none 0 0)).run Tryz.prog W = .ok (.bool true) W := fun _ => by kernel_rfl
  go_enter Tryz.func106, Tryz.ntmps106
  go_wp2
  go_ret
  exact ⟨none, 0, rfl, World.ownsRow_nil _ _ _ _, Below.refl _ _⟩
 | some a =>
  have heq : ∀ W, (binOp .eql 24 (.slice (some a) n cap) (.slice none 0 0)).run Tryz.prog W = .ok (.bool false) W := fun _ => by kernel_rfl
  go_enter Tryz.func106, Tryz.ntmps106
  go_wp2_with (at_builtin; refine pt_append _ rfl _ _ rfl w.heap.size _ 0 [] rfl (flat_nil ptF w _ 44 w.heap.size (block_last w _) (Nat.le_refl _)) (some a) n cap l rfl (h.below (below_one _ _)) (by omega) (by simp) ?_)
  intro ao' cap' w' how hr hgr hb
  have how : w'.ownsRow w.heap.size 44 8 (.slice ao' n cap') n (ptF.all l) := by simpa using how
  have HO := hide how
  have HB := hide ((below_one w _).trans hb)
  clear how hgr hb hr
  go_wp2
  go_ret
  exact ⟨ao', cap', (by simp), HO.out, HB.out⟩

end Go.Proofs.YtfefhilolhdonaaGreat
