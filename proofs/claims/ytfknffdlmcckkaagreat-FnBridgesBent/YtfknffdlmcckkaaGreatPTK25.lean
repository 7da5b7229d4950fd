/-
  Packed: BrInner BrInner2 FdbTab BrNewI.
-/
import Derived.Test.YtfknffdlmcckkaaGreatPTKW
import Derived.Test.YtfknffdlmcckkaaGreatPTFdbImplA
import Derived.Test.YtfknffdlmcckkaaGreatPTK01
import Derived.Test.YtfknffdlmcckkaaGreatPTK03
import Derived.Test.YtfknffdlmcckkaaGreatPTK05
import Derived.Test.YtfknffdlmcckkaaGreatPTK06
import Derived.Test.YtfknffdlmcckkaaGreatPTK11
import Derived.Test.YtfknffdlmcckkaaGreatPTK16
import Derived.Test.YtfknffdlmcckkaaGreatPTK17
import Derived.Test.YtfknffdlmcckkaaGreatPTVlanNew
namespace Go.Proofs.YtfknffdlmcckkaaGreat
open Go.RowKit

theorem cells12 {w : World} {g : Nat} {T : TypeId} {c0 c1 c2 c3 c4 c5 c6 c7 c8 c9 c10 c11 : Value} (h : w.heap[g]? = some (.cells #[c0, c1, c2, c3, c4, c5, c6, c7, c8, c9, c10, c11] T)) :
  w.cell? ⟨g, 0, none⟩ = some c0 ∧ w.cell? ⟨g, 1, none⟩ = some c1 ∧ w.cell? ⟨g, 2, none⟩ = some c2 ∧ w.cell? ⟨g, 3, none⟩ = some c3 ∧ w.cell? ⟨g, 4, none⟩ = some c4 ∧ w.cell? ⟨g, 5, none⟩ = some c5 ∧ w.cell? ⟨g, 6, none⟩ = some c6 ∧ w.cell? ⟨g, 7, none⟩ = some c7 ∧ w.cell? ⟨g, 8, none⟩ = some c8 ∧ w.cell? ⟨g, 9, none⟩ = some c9 ∧ w.cell? ⟨g, 10, none⟩ = some c10 ∧ w.cell? ⟨g, 11, none⟩ = some c11 := by
 simp [World.cell?, h]

structure IbSt (w wr : World) (R X : Nat) (zs cs : Array Value) (TR TX : TypeId) : Prop where
 box : wr.heap[X]? = some (.cells cs TX)
 res : wr.heap[R]? = some (.cells zs TR)
 below : Below w.heap.size w wr
 hX : w.heap.size ≤ X
 hR : w.heap.size ≤ R
 ne : R ≠ X

theorem IbSt.later {w wr wx : World} {R X : Nat} {zs cs : Array Value} {TR TX : TypeId} (h : IbSt w wr R X zs cs TR TX) (hb : Below wr.heap.size wr wx) : IbSt w wx R X zs cs TR TX :=
 ⟨kept_block h.box hb, kept_block h.res hb, gr_trans h.below hb, h.hX, h.hR, h.ne⟩

theorem IbSt.put {w wr : World} {R X : Nat} {zs cs : Array Value} {TR TX : TypeId} (h : IbSt w wr R X zs cs TR TX) (j : Nat) (u : Value) {cs' : Array Value} (he : cs.setIfInBounds j u = cs') : IbSt w (wr.setCell ⟨X, j, none⟩ u) R X zs cs' TR TX :=
 ⟨by rw [← he]; exact box11 h.box j u, kept_set h.res h.ne, below_set h.below h.hX j u, h.hX, h.hR, h.ne⟩

theorem IbSt.grown {w wr wx : World} {R X : Nat} {zs cs : Array Value} {TR TX : TypeId} (h : IbSt w wr R X zs cs TR TX) {base k : Nat} {e : TypeId} {v : Value} {n : Nat} {ys : List Value} (ho : wr.ownsRow base e k v n ys) (h1 : (e : Nat) ≠ TX) (h2 : (e : Nat) ≠ TR) (hg : wr.grownBy wx v.ownBlock) (hb : Below w.heap.size wr wx) : IbSt w wx R X zs cs TR TX :=
 ⟨kept_grown h.box hg (fun i e => box_ne ho h.box h1 i e), kept_grown h.res hg (fun i e => box_ne ho h.res h2 i e), h.below.trans hb, h.hX, h.hR, h.ne⟩

theorem IbSt.stay {w wr : World} {R X : Nat} {zs cs : Array Value} {TR TX : TypeId} (h : IbSt w wr R X zs cs TR TX) {base k : Nat} {e : TypeId} {v : Value} {n : Nat} {ys : List Value} (ho : wr.ownsRow base e k v n ys) (hne : (e : Nat) ≠ TX) (j : Nat) (u : Value) : (wr.setCell ⟨X, j, none⟩ u).ownsRow base e k v n ys :=
 gown_other ho (grown_set (rb := X) j u) (box_ne ho h.box hne)

theorem BrOwn.other {w : World} {base : Nat} {a : Option Addr} {n c : Nat} {fa : Option Addr} {fn fc : Nat} {ra : Option Addr} {rn rc : Nat} {oa : Option Addr} {on oc : Nat} {B : BR} (h : BrOwn w base a n c fa fn fc ra rn rc oa on oc B) {X : Nat} {cs : Array Value} {T : TypeId} (hX : w.heap[X]? = some (.cells cs T)) (h1 : (44 : Nat) ≠ T) (h2 : (49 : Nat) ≠ T) (h3 : (81 : Nat) ≠ T) (h4 : (3 : Nat) ≠ T) (j : Nat) (u : Value) : BrOwn (w.setCell ⟨X, j, none⟩ u) base a n c fa fn fc ra rn rc oa on oc B :=
 ⟨gown_other h.ports (grown_set (rb := X) j u) (box_ne h.ports hX h1), gown_other h.f (grown_set (rb := X) j u) (box_ne h.f hX h2),
  ⟨gown_other h.v.rows (grown_set (rb := X) j u) (box_ne h.v.rows hX h3), gown_other h.v.own (grown_set (rb := X) j u) (box_ne h.v.own hX h4), h.v.i64⟩⟩

set_option maxRecDepth 100000 in
set_option maxHeartbeats 400000 in
theorem implOne_any (n : Int) (w : World) (h : n ≤ 1000000) (h0 : 0 ≤ n) :
  Calls Tryz.prog 42 #[.int .i64 n] w fun e w' => e = .returned (.int .i64 (oneMore n)) ∧ w' = w := by
 by_cases h1 : n ≥ 1000000
 ·have e : n = 1000000 := by omega
  subst e
  rw [show oneMore 1000000 = 1000000 from rfl]
  go_enter Tryz.func42, Tryz.ntmps42
  go_wp2
  go_ret
  exact ⟨rfl, rfl⟩
 ·rw [show oneMore n = n + 1 from if_neg h1]
  have h1' : min (n + 1) (1000000 : Int) = n + 1 := by omega
  go_enter Tryz.func42, Tryz.ntmps42
  go_wp2
  go_ret
  exact ⟨rfl, rfl⟩

set_option maxRecDepth 100000 in
set_option maxHeartbeats 400000 in
theorem implHas_any (a : Option Addr) (n c : Nat) (port : Int) (w : World) (hn : n ≤ 137438953472) :
  Calls Tryz.prog 40 #[.slice a n c, .int .i64 port] w fun e w' => e = .returned (.bool (decide (0 ≤ port) && decide (port ≤ (n : Int) - 1))) ∧ w' = w := by
 go_enter Tryz.func40, Tryz.ntmps40
 go_wp2_with fail
 refine (implIn_any port 0 ((n : Int) - 1) _).mono ?_
 rintro r w3 ⟨rfl, ew⟩
 obtain rfl := ew.symm
 go_wp2
 go_ret
 exact ⟨rfl, rfl⟩

set_option maxRecDepth 100000 in
set_option maxHeartbeats 1000000 in
theorem implIsUp_no (a : Option Addr) (n c : Nat) (port : Int) (w : World) (hn : n ≤ 137438953472) (h : (decide (0 ≤ port) && decide (port ≤ (n : Int) - 1)) = false) :
  Calls Tryz.prog 36 #[.slice a n c, .int .i64 port] w fun e w' => e = .returned (.bool false) ∧ w' = w := by
 have HH := hide h
 clear h
 go_enter Tryz.func36, Tryz.ntmps36
 go_wp2_with fail
 refine (implHas_any a n c port _ hn).mono ?_
 rintro r w3 ⟨rfl, ew⟩
 obtain rfl := ew.symm
 rw [HH.out]
 go_wp2
 go_ret
 exact ⟨rfl, rfl⟩

set_option maxRecDepth 100000 in
set_option maxHeartbeats 1000000 in
theorem implIsUp_yes (a : Option Addr) (n c : Nat) (k : Nat) (l : List PT) (x : PT) (w : World) (h : GRow ptF w a n c l) (hn : n ≤ 137438953472) (hk : k < n) (hx : l[k]? = some x) :
  Calls Tryz.prog 36 #[.slice a n c, .int .i64 k] w fun e w' => e = .returned (.bool x.up) ∧ w' = w := by
 have HH : Hid ((decide (0 ≤ (k : Int)) && decide ((k : Int) ≤ (n : Int) - 1)) = true) := hide (by rw [decide_eq_true (by omega), decide_eq_true (by omega)]; rfl)
 obtain ⟨x', b, off, hx', rfl, c0, c1, c2, c3, c4, c5, c6, c7⟩ := pt_at h k hk
 rw [hx] at hx'
 cases hx'
 have i1 : (0 : Int) ≤ (k : Int) := by omega
 have i2 : (k : Int) < (n : Int) := by omega
 go_enter Tryz.func36, Tryz.ntmps36
 go_wp2_with fail
 refine (implHas_any _ n c (k : Int) _ hn).mono ?_
 rintro r w3 ⟨rfl, ew⟩
 obtain rfl := ew.symm
 rw [HH.out]
 go_wp2
 go_ret
 exact ⟨rfl, rfl⟩

set_option maxRecDepth 100000 in
set_option maxHeartbeats 2000000 in
theorem implFace_any (a : Option Addr) (n c : Nat) (fa : Option Addr) (fn fc : Nat) (ra : Option Addr) (rn rc : Nat) (oa : Option Addr) (on oc : Nat) (B : BR) (w : World) :
  Calls Tryz.prog 37 #[.agg #[.slice a n c, .int .i64 B.id, .string B.name, .slice none 0 0, .slice fa fn fc, .slice ra rn rc, .slice oa on oc, .int .i64 B.ticks, .int .i64 B.parse, .int .i64 B.word, .int .i64 B.drops, .int .i64 B.vers]] w fun e w' => e = .returned (.agg #[.int .i64 B.id, .string B.name, .slice a n c, .slice fa fn fc, .slice ra rn rc, .slice oa on oc, .int .i64 B.ticks, .int .i64 B.parse, .int .i64 B.word, .int .i64 B.drops, .int .i64 B.vers]) ∧ Below w.heap.size w w' := by
 generalize hw1 : w.alloc (Obj.cells #[.slice a n c, .int .i64 B.id, .string B.name, .slice none 0 0, .slice fa fn fc, .slice ra rn rc, .slice oa on oc, .int .i64 B.ticks, .int .i64 B.parse, .int .i64 B.word, .int .i64 B.drops, .int .i64 B.vers] 68) = w1
 generalize hw2 : w1.alloc (Obj.cells #[.int .i64 0, .string ⟨#[]⟩, .slice none 0 0, .slice none 0 0, .slice none 0 0, .slice none 0 0, .int .i64 0, .int .i64 0, .int .i64 0, .int .i64 0, .int .i64 0] 31) = w2
 generalize hw3 : w2.alloc (Obj.cells #[.int .i64 B.id, .string B.name, .slice none 0 0, .slice fa fn fc, .slice ra rn rc, .slice oa on oc, .int .i64 B.ticks, .int .i64 B.parse, .int .i64 B.word, .int .i64 B.drops, .int .i64 B.vers] 31) = w3
 have b01 : Below w.heap.size w w1 := by rw [← hw1]; exact below_one _ _
 have b12 : Below w1.heap.size w1 w2 := by rw [← hw2]; exact below_one _ _
 have b23 : Below w2.heap.size w2 w3 := by rw [← hw3]; exact below_one _ _
 have z1 : w.heap.size < w1.heap.size := by rw [← hw1]; simp
 have z2 : w1.heap.size < w2.heap.size := by rw [← hw2]; simp
 have k1 : w1.heap[w.heap.size]? = some (.cells #[.slice a n c, .int .i64 B.id, .string B.name, .slice none 0 0, .slice fa fn fc, .slice ra rn rc, .slice oa on oc, .int .i64 B.ticks, .int .i64 B.parse, .int .i64 B.word, .int .i64 B.drops, .int .i64 B.vers] 68) := by rw [← hw1]; exact block_last _ _
 have kA := kept_block (kept_block k1 b12) b23
 obtain ⟨x0, x1, x2, x3, x4, x5, x6, x7, x8, x9, x10, x11⟩ := cells12 (kept_block k1 b12)
 have st : BcSt w w3 w1.heap.size w2.heap.size #[.int .i64 B.id, .string B.name, .slice none 0 0, .slice fa fn fc, .slice ra rn rc, .slice oa on oc, .int .i64 B.ticks, .int .i64 B.parse, .int .i64 B.word, .int .i64 B.drops, .int .i64 B.vers] := ⟨by rw [← hw3]; exact block_last _ _, kept_block (by rw [← hw2]; exact block_last _ _) b23, gr_trans (gr_trans b01 b12) b23, by omega, Nat.le_of_lt z1, Nat.ne_of_lt z2⟩
 have nAX : ¬ w.heap.size = w2.heap.size := by omega
 have nXA : ¬ w2.heap.size = w.heap.size := by omega
 have nRX : ¬ w1.heap.size = w2.heap.size := by omega
 have nXR : ¬ w2.heap.size = w1.heap.size := by omega
 clear z1 z2 b01 b12 b23 k1
 go_enter Tryz.func37, Tryz.ntmps37
 go_upto_region 2 with fail
 clear x0 x1 x2 x3 x4 x5 x6 x7 x8 x9 x10 x11
 try rw [hw3]
 clear hw1 hw2 hw3
 generalize hX : w2.heap.size = X at *
 generalize hR : w1.heap.size = R at *
 have st5 := st.put 2 (.slice a n c) (cs' := #[.int .i64 B.id, .string B.name, .slice a n c, .slice fa fn fc, .slice ra rn rc, .slice oa on oc, .int .i64 B.ticks, .int .i64 B.parse, .int .i64 B.word, .int .i64 B.drops, .int .i64 B.vers]) rfl
 have HB := hide (below_set11 st5.below st5.hR (.int .i64 B.id) (.string B.name) (.slice a n c) (.slice fa fn fc) (.slice ra rn rc) (.slice oa on oc) (.int .i64 B.ticks) (.int .i64 B.parse) (.int .i64 B.word) (.int .i64 B.drops) (.int .i64 B.vers))
 obtain ⟨x0, x1, x2, x3, x4, x5, x6, x7, x8, x9, x10, x11⟩ := cells12 kA
 obtain ⟨y0, y1, y2, y3, y4, y5, y6, y7, y8, y9, y10⟩ := cells11 st.box
 obtain ⟨u0, u1, u2, u3, u4, u5, u6, u7, u8, u9, u10⟩ := cells11 st.res
 have g2 := frozen8 st.box 2
 have fr := frozen8 st.res
 have fr0 := fr 0
 have fr1 := fr 1
 have fr2 := fr 2
 have fr3 := fr 3
 have fr4 := fr 4
 have fr5 := fr 5
 have fr6 := fr 6
 have fr7 := fr 7
 have fr8 := fr 8
 have fr9 := fr 9
 have fr10 := fr 10
 clear fr st st5 kA
 go_wp2
 exact bodyPost_ret (v := .agg #[.int .i64 B.id, .string B.name, .slice a n c, .slice fa fn fc, .slice ra rn rc, .slice oa on oc, .int .i64 B.ticks, .int .i64 B.parse, .int .i64 B.word, .int .i64 B.drops, .int .i64 B.vers]) (by simp [results, Tryz.results37, go_sem, *]) rfl ⟨rfl, HB.out⟩

set_option maxRecDepth 100000 in
set_option maxHeartbeats 4000000 in
theorem implHear_at (base g n cap k : Nat) (l : List PT) (x : PT) (v : VD) (w : World) (h : w.ownsRow base 44 8 (.slice (some ⟨g, 0, none⟩) n cap) n (ptF.all (l))) (hx : l[k]? = some x) (hk : k < n) :
  Calls Tryz.prog 38 #[.slice (some ⟨g, 0, none⟩) n cap, .int .i64 k, .agg #[.int .i64 v.r, .int .i64 v.c, .int .i64 v.h, .int .i64 v.b, .int .i64 v.p]] w fun e w' => e = .returned (.tuple #[]) ∧ w'.ownsRow base 44 8 (.slice (some ⟨g, 0, none⟩) n cap) n (ptF.all (l.set k ⟨x.up, x.k, true, v⟩)) ∧ w.grownBy w' (some g) := by
 generalize hw1 : w.alloc (Obj.cells #[.int .i64 v.r, .int .i64 v.c, .int .i64 v.h, .int .i64 v.b, .int .i64 v.p] 35) = w1
 have b01 : Below w.heap.size w w1 := by rw [← hw1]; exact below_one _ _
 have g01 : w.grownBy w1 (some g) := by rw [← hw1]; exact World.grownBy_alloc _ _ _
 have k1 : w1.heap[w.heap.size]? = some (Obj.cells #[.int .i64 v.r, .int .i64 v.c, .int .i64 v.h, .int .i64 v.b, .int .i64 v.p] 35) := by rw [← hw1]; exact block_last _ _
 have o1 := gown_below h b01
 have hgl : g < w.heap.size := (h.lt g rfl).2
 have ne1 : ¬ g = w.heap.size := by omega
 have ne2 : ¬ w.heap.size = g := by omega
 obtain ⟨⟨x0, x1, x2, x3, x4⟩, -⟩ := cells5 k1
 have i1 : (0 : Int) ≤ (k : Int) := by omega
 have i2 : (k : Int) < (n : Int) := by omega
 obtain ⟨⟨t0, t1, t2, t3, t4, t5, t6, t7⟩, f0, f1, f2, f3, f4, f5, f6, f7⟩ := pt_cells o1 hx
 have HA := hide (hear_own v o1 hx)
 have HGA := hide (grownTr g01 (hear_own_grown (w := w1) (g := g) (k := k) v))
 clear o1 g01 b01 hx h
 go_enter Tryz.func38, Tryz.ntmps38
 have HS := (cells5 (gr_drewK k1)).1
 go_wp2_with fail
 refine wp_region_held_drew (S := (fun W => W.cell? ⟨w.heap.size, 0, none⟩ = some (.int .i64 v.r) ∧ W.cell? ⟨w.heap.size, 1, none⟩ = some (.int .i64 v.c) ∧ W.cell? ⟨w.heap.size, 2, none⟩ = some (.int .i64 v.h) ∧ W.cell? ⟨w.heap.size, 3, none⟩ = some (.int .i64 v.b) ∧ W.cell? ⟨w.heap.size, 4, none⟩ = some (.int .i64 v.p))) (by kernel_rfl) (HS) (fun hHeld => ?_)
 refine kK 0 ⟨some 6, .move (.tmp 0), 66, "l11_bridge.go:91", #[], none⟩ ?_
 refine kK 1 ⟨some 7, .move (.tmp 1), 3, "l11_bridge.go:91", #[], none⟩ ?_
 refine kK 2 ⟨some 8, .move (.tmp 0), 66, "l11_bridge.go:91", #[{ on := 7, ground := Ground.gcOnly Departure.lateStores }], none⟩ ?_
 refine kK 3 ⟨some 9, .move (.tmp 1), 3, "l11_bridge.go:91", #[{ on := 7, ground := Ground.gcOnly Departure.lateStores }], none⟩ ?_
 refine kK 4 ⟨some 10, .load 35 (.tmp 5), 35, "l11_bridge.go:91", #[{ on := 7, ground := Ground.gcOnly Departure.lateStores }], none⟩ ?_
 refine kK 5 ⟨some 11, .indexAddr 66 (.tmp 6) (.tmp 7), 0, "l11_bridge.go:91", #[⟨0, .data⟩, ⟨1, .data⟩, ⟨0, .phase⟩, ⟨1, .phase⟩, { on := 2, ground := Ground.textOnly Departure.lateStores }, { on := 3, ground := Ground.textOnly Departure.lateStores }, { on := 4, ground := Ground.textOnly Departure.lateStores }], none⟩ ?_
 refine kK 6 ⟨some 12, .fieldAddr 44 (.tmp 11) 2, 0, "l11_bridge.go:91", #[⟨5, .data⟩, ⟨0, .phase⟩, ⟨1, .phase⟩, { on := 2, ground := Ground.textOnly Departure.lateStores }, { on := 3, ground := Ground.textOnly Departure.lateStores }, { on := 4, ground := Ground.textOnly Departure.lateStores }], none⟩ ?_
 refine tR [7] ?_
 refine AllReadyH.cons (o := ⟨none, .store 4 (.tmp 12) (.const (.bool true)), 0, "l11_bridge.go:91", #[⟨6, .data⟩, ⟨0, .phase⟩, ⟨1, .phase⟩, { on := 2, ground := Ground.textOnly Departure.lateStores }, { on := 3, ground := Ground.textOnly Departure.lateStores }, { on := 4, ground := Ground.textOnly Departure.lateStores }], none⟩) rfl (fun K hK => ?_) ?_
 ·go_simp
  have HS := (cells5 (gr_drewK (kept_set (b := g) (j := k * 8 + 2) (u := .bool true) k1 ne2))).1
  refine hK.out _ _ (HS) (fun hHeld => ?_)
  clear hK K
  try simp only [Act.put, lA, lB, lC]
  refine kK 8 ⟨some 13, .indexAddr 66 (.tmp 8) (.tmp 9), 0, "l11_bridge.go:91", #[⟨2, .data⟩, ⟨3, .data⟩, ⟨0, .phase⟩, ⟨1, .phase⟩, ⟨2, .phase⟩, ⟨3, .phase⟩, ⟨4, .phase⟩, ⟨5, .phase⟩, ⟨6, .phase⟩, ⟨7, .phase⟩], none⟩ ?_
  refine kK 9 ⟨some 14, .fieldAddr 44 (.tmp 13) 3, 0, "l11_bridge.go:91", #[⟨8, .data⟩, ⟨0, .phase⟩, ⟨1, .phase⟩, ⟨2, .phase⟩, ⟨3, .phase⟩, ⟨4, .phase⟩, ⟨5, .phase⟩, ⟨6, .phase⟩, ⟨7, .phase⟩], none⟩ ?_
  refine tR [10] ?_
  refine AllReadyH.cons (o := ⟨none, .store 35 (.tmp 14) (.tmp 10), 0, "l11_bridge.go:91", #[⟨9, .data⟩, ⟨4, .data⟩, ⟨7, .chain⟩, ⟨0, .phase⟩, ⟨1, .phase⟩, ⟨2, .phase⟩, ⟨3, .phase⟩, ⟨4, .phase⟩, ⟨5, .phase⟩, ⟨6, .phase⟩, ⟨7, .phase⟩], none⟩) rfl (fun K hK => ?_) ?_
  ·go_simp
   have HS := (cells5 (gr_drewK (kept_set (b := g) (j := k * 8 + 7) (u := .int .i64 v.p) (kept_set (b := g) (j := k * 8 + 6) (u := .int .i64 v.b) (kept_set (b := g) (j := k * 8 + 5) (u := .int .i64 v.h) (kept_set (b := g) (j := k * 8 + 4) (u := .int .i64 v.c) (kept_set (b := g) (j := k * 8 + 3) (u := .int .i64 v.r) (kept_set (b := g) (j := k * 8 + 2) (u := .bool true) k1 ne2) ne2) ne2) ne2) ne2) ne2))).1
   refine hK.out _ _ (HS) (fun hHeld => ?_)
   clear hK K
   try simp only [Act.put, lA, lB, lC]
   refine wpAnyH_done (by kernel_rfl) ?_ _
   clear HS hHeld k1
   go_wp2
   go_end0
   exact ⟨rfl, gown_below HA.out (gr_drew (Below.refl _ _)), grown_drew HGA.out⟩
  exact AllReadyH.nil
 exact AllReadyH.nil

set_option maxRecDepth 100000 in
set_option maxHeartbeats 4000000 in
theorem implLink_at (base g n cap k : Nat) (l : List PT) (x : PT) (up : Bool) (w : World) (h : w.ownsRow base 44 8 (.slice (some ⟨g, 0, none⟩) n cap) n (ptF.all (l))) (hx : l[k]? = some x) (hk : k < n) :
  Calls Tryz.prog 41 #[.slice (some ⟨g, 0, none⟩) n cap, .int .i64 k, .bool up] w fun e w' => e = .returned (.tuple #[]) ∧ w'.ownsRow base 44 8 (.slice (some ⟨g, 0, none⟩) n cap) n (ptF.all (l.set k ⟨up, x.k, false, ⟨0, 0, 0, 0, 0⟩⟩)) ∧ w.grownBy w' (some g) := by
 have i1 : (0 : Int) ≤ (k : Int) := by omega
 have i2 : (k : Int) < (n : Int) := by omega
 obtain ⟨⟨t0, t1, t2, t3, t4, t5, t6, t7⟩, f0, f1, f2, f3, f4, f5, f6, f7⟩ := pt_cells h hx
 have HA := hide (link_own up h hx)
 have HG := hide (grown_set8 (w := w) (g := g) (k * 8) (k * 8 + 1) (k * 8 + 2) (k * 8 + 3) (k * 8 + 4) (k * 8 + 5) (k * 8 + 6) (k * 8 + 7) (.bool up) (.int .i64 x.k) (.bool false) (.int .i64 0) (.int .i64 0) (.int .i64 0) (.int .i64 0) (.int .i64 0))
 clear hx h
 go_enter Tryz.func41, Tryz.ntmps41
 go_wp2
 go_end0
 exact ⟨rfl, HA.out, HG.out⟩

set_option maxRecDepth 100000 in
set_option maxHeartbeats 1000000 in
theorem cloneP_any (ao : Option Addr) (n cap : Nat) (l : List PT) (w : World) (h : GRow ptF w ao n cap l) (hn : n ≤ 16777216) :
  Calls Tryz.prog 83 #[.slice ao n cap] w fun r w' => ∃ ao' cap', r = .returned (.slice ao' n cap') ∧ w'.ownsRow w.heap.size 44 8 (.slice ao' n cap') n (ptF.all l) ∧ Below w.heap.size w w' := by
 cases ao with
 | none =>
  have hc0 := h.nil rfl
  have hn0 : n = 0 := by have := h.le; omega
  subst hc0 hn0
  have hl : l = [] := List.eq_nil_of_length_eq_zero h.size
  subst hl
  have heq : ∀ W, (binOp .eql 24 (.slice none 0 0) (.slice none 0 0)).run Tryz.prog W = .ok (.bool true) W := fun _ => by kernel_rfl
  go_enter Tryz.func83, Tryz.ntmps83
  go_wp2
  go_ret
  exact ⟨none, 0, rfl, World.ownsRow_nil _ _ _ _, Below.refl _ _⟩
 | some a =>
  have heq : ∀ W, (binOp .eql 24 (.slice (some a) n cap) (.slice none 0 0)).run Tryz.prog W = .ok (.bool false) W := fun _ => by kernel_rfl
  go_enter Tryz.func83, Tryz.ntmps83
  go_wp2_with (at_builtin; refine pt_append _ rfl _ _ rfl w.heap.size _ 0 [] rfl (flat_nil ptF w _ 44 w.heap.size (block_last w _) (Nat.le_refl _)) (some a) n cap l rfl (h.below (below_one _ _)) (by omega) (by simp) ?_)
  intro ao' cap' w' how hr hgr hb
  have how : w'.ownsRow w.heap.size 44 8 (.slice ao' n cap') n (ptF.all l) := by simpa using how
  have HO := hide how
  have HB := hide ((below_one w _).trans hb)
  clear how hgr hb hr
  go_wp2
  go_ret
  exact ⟨ao', cap', (by simp), HO.out, HB.out⟩

section
open Go.RowKit Go.Maps

def fkF : Flat FK where
 k := 3
 cs := fun k => [.int .i64 k.1, .int .i64 k.2.1, .int .i64 k.2.2]
 len := fun _ => rfl
 pos := by decide
 one := fun _ v hv => by
  simp only [List.mem_cons, List.not_mem_nil, or_false] at hv
  rcases hv with rfl | rfl | rfl <;> rfl

theorem wf_of {n : Int} (h : -9223372036854775808 ≤ n ∧ n ≤ 9223372036854775807) : (Lit.int .i64 n).wf = true := by
 simp [Lit.wf, IntKind.min, IntKind.max, IntKind.bits, IntKind.signed]
 omega

theorem fk_laid : laidOutB Tryz.prog = true := by kernel_rfl
theorem fk_row : (121 : TypeId) < Tryz.prog.types.size := of_decide_eq_true (by kernel_rfl)
theorem fk_wide : (match Tryz.prog.underlying 121 with | some (.array _ _) | some (.struct _) => true | _ => false) = true := by kernel_rfl
set_option maxRecDepth 100000 in
theorem fk_law : Keyed Tryz.prog 121 := Keyed.of_law (deep_law_laid fk_laid (m := 2) (by omega) fk_row (by kernel_rfl) fk_wide)

def fkV (k : FK) : Value := .agg #[.int .i64 k.1, .int .i64 k.2.1, .int .i64 k.2.2]
def feV (e : FE) : Value := .agg #[.int .i64 e.t, .int .i64 e.m, .int .i64 e.p, .int .i64 e.a, .bool e.s]

theorem fk_key (k : FK) (h : FKok k) : ∃ l, keyOf Tryz.prog 121 (fkV k) = some l := by
 have w1 := wf_of h.1
 have w2 := wf_of h.2.1
 have w3 := wf_of h.2.2
 have h1 : Tryz.prog.keyType 121 = true := by kernel_rfl
 have hc3 : Tryz.prog.cellsOf 121 = 3 := by kernel_rfl
 have hc1 : Tryz.prog.cellsOf 3 = 1 := by kernel_rfl
 have h2 : (fkV k).formed Tryz.prog 121 = true := by simp [fkV, Value.formed, Tryz.underlying121, hc3]
 obtain ⟨q, hq⟩ : ∃ q, Tryz.prog.types.size = q + 1 := ⟨Tryz.prog.types.size - 1, by have : 0 < Tryz.prog.types.size := of_decide_eq_true (by kernel_rfl); omega⟩
 have h3 : Tryz.prog.keyLits (Tryz.prog.types.size + 1) 121 (fkV k).cells.toList = some [.int .i64 k.1, .int .i64 k.2.1, .int .i64 k.2.2] := by
  rw [hq]
  simp [Program.keyLits, fkV, Value.cells, Tryz.underlying121, Tryz.underlying3, hc3, hc1, w1, w2, w3]
 refine ⟨.string (keyBytes [.int .i64 k.1, .int .i64 k.2.1, .int .i64 k.2.2]), ?_⟩
 unfold keyOf
 rw [Tryz.underlying121]
 simp only [h1, h2, h3, Bool.and_self, if_true, Option.map_some]

theorem fkV_inj (a b : FK) (h : fkV a = fkV b) : a = b := by
 obtain ⟨a1, a2, a3⟩ := a
 obtain ⟨b1, b2, b3⟩ := b
 simp [fkV] at h
 obtain ⟨rfl, rfl, rfl⟩ := h
 rfl

def mE : MK Tryz.prog FK FE where
 T := 117
 K := 121
 E := 49
 law := fk_law
 und := Tryz.underlying117
 kv := fkV
 vv := feV
 ok := FKok
 key := fk_key
 inj := fkV_inj
 z := ⟨0, 0, 0, 0, false⟩
 zero := fun _ => by kernel_rfl

def mC : MK Tryz.prog FK Int where
 T := 150
 K := 121
 E := 3
 law := fk_law
 und := Tryz.underlying150
 kv := fkV
 vv := fun n => .int .i64 n
 ok := FKok
 key := fk_key
 inj := fkV_inj
 z := 0
 zero := fun _ => by kernel_rfl

structure TabN (N : Nat) (w : World) (base p bm : Nat) (ks : List FK) (g : FK → Option FE) : Prop where
 box : ∃ ao cap, w.heap[p]? = some (.cells #[.slice ao ks.length cap, .map (some bm)] 119) ∧ w.ownsRow base 121 3 (.slice ao ks.length cap) ks.length (fkF.all ks)
 map : MapIs mE w bm N g
 lp : base ≤ p
 lb : base ≤ bm
 oks : ∀ k ∈ ks, FKok k
 few : ks.length ≤ 16777216

abbrev Tab := TabN 16777216

theorem TabN.below {N : Nat} {w w' : World} {base p bm : Nat} {ks : List FK} {g : FK → Option FE} (h : TabN N w base p bm ks g) (hb : Below w.heap.size w w') : TabN N w' base p bm ks g := by
 obtain ⟨ao, cap, h1, h2⟩ := h.box
 exact ⟨⟨ao, cap, kept_block h1 hb, gown_below h2 hb⟩, h.map.kept hb, h.lp, h.lb, h.oks, h.few⟩

theorem fk_at {w : World} {ao : Option Addr} {len cap : Nat} {l : List FK} (h : GRow fkF w ao len cap l) (i : Nat) (hi : i < len) : ∃ (x : FK) (b off : Nat), l[i]? = some x ∧ ao = some ⟨b, off, none⟩ ∧
  w.cell? ⟨b, off + i * 3, none⟩ = some (.int .i64 x.1) ∧ w.cell? ⟨b, off + i * 3 + 1, none⟩ = some (.int .i64 x.2.1) ∧ w.cell? ⟨b, off + i * 3 + 2, none⟩ = some (.int .i64 x.2.2) := by
 obtain ⟨x, b, off, hx, ha, hc⟩ := h.at i hi
 exact ⟨x, b, off, hx, ha, hc 0 _ rfl, hc 1 _ rfl, hc 2 _ rfl⟩

theorem fkInfo : (Tryz.prog.info? 121).map (fun i => (i.zero, i.size, i.bytes)) = some (some (.agg #[.int .i64 0, .int .i64 0, .int .i64 0]), fkF.k, 24) := by kernel_rfl

set_option maxRecDepth 100000 in
set_option maxHeartbeats 400000 in
theorem firstKey_any (e : FE) (w : World) :
  Calls Tryz.prog 125 #[.agg #[.int .i64 e.t, .int .i64 e.m, .int .i64 e.p, .int .i64 e.a, .bool e.s]] w fun r w' => r = .returned (.agg #[.int .i64 e.t, .int .i64 e.m, .int .i64 0]) ∧ Below w.heap.size w w' := by
 go_enter Tryz.func125, Tryz.ntmps125
 go_wp2
 exact bodyPost_ret (v := .agg #[.int .i64 e.t, .int .i64 e.m, .int .i64 0]) (by simp [results, Tryz.results125, go_sem, *]) rfl ⟨rfl, below_two _ _ _⟩

end

def zeroPt : PT := ⟨false, 0, false, ⟨0, 0, 0, 0, 0⟩⟩

theorem pt_size : (Tryz.prog.info? 44).map (·.size) = some ptF.k := by kernel_rfl

set_option maxRecDepth 100000 in
set_option maxHeartbeats 4000000 in
theorem repeatP_made (g p : Nat) (h1 : 1 ≤ p) (h6 : p ≤ 6) (w : World) (kg : w.heap[g]? = some (.cells #[.bool false, .int .i64 1, .bool false, .int .i64 0, .int .i64 0, .int .i64 0, .int .i64 0, .int .i64 0] 44)) :
  Calls Tryz.prog 58 #[.slice (some ⟨g, 0, none⟩) 1 1, .int .i64 p] w fun e w' => ∃ a' c', e = .returned (.slice a' p c') ∧ w'.ownsRow w.heap.size 44 8 (.slice a' p c') p (ptF.all (List.replicate p newPt)) ∧ Below w.heap.size w w' := by
 obtain ⟨i0, hi, hz0, hz1, hz2⟩ := finfo_parts (k := 8) ptInfo
 have hnn : ¬ ((p : Int) < 0) := by omega
 have hwp : IntKind.u64.wrap (p : Int) = (p : Int) := by rw [IntKind.wrap_u64]; omega
 have hwq : IntKind.i64.wrap (p : Int) = (p : Int) := by rw [IntKind.wrap_i64]; omega
 have hbig : ¬ ((9223372036854775807 : Int) < (p : Int)) := by omega
 go_enter Tryz.func58, Tryz.ntmps58
 go_wp2_with fail
 refine (mul_any p h1 h6 _).mono ?_
 rintro e w1 ⟨rfl, e1⟩
 obtain rfl := e1.symm
 go_wp2_with (at_make; refine wpList_make_full _ rfl _ _ 24 rfl w.heap.size 44 i0 (.agg #[.bool false, .int .i64 0, .bool false, .int .i64 0, .int .i64 0, .int .i64 0, .int .i64 0, .int .i64 0]) 8 Tryz.underlying24 hi hz0 hz1 .i64 .i64 _ _ p rfl rfl rfl rfl ?c1 ?c2 ?c3 ?_)
 case c1 => rw [hz2]; omega
 case c2 => unfold maxLen; omega
 case c3 => exact Nat.le_refl _
 intro w1 hown hgrow
 have hb1 : Below w.heap.size w w1 := (Below.refl _ _).grown hgrow (Nat.le_refl _) (by intro k hk; cases hk)
 have hown1 : w1.ownsRow w.heap.size 44 8 (.slice (some ⟨w.heap.size, 0, none⟩) p p) p (ptF.all (repTo newPt zeroPt p 0)) := by
  unfold repTo
  rw [List.replicate_zero, List.nil_append, Nat.sub_zero]
  have := flat_made ptF zeroPt p
  rw [← this]
  exact hown
 have kg1 := kept_block kg hb1
 obtain ⟨w2, hcp, hO2, hg2⟩ := rep_copy ptF (P := Tryz.prog) (tS := 24) Tryz.underlying24 pt_size (x := newPt) (z := zeroPt) (m := 1) (a := ⟨g, 0, none⟩) (dl := p) (sl := 1) hown1 (by omega) (Nat.min_eq_left h1) (by
  intro j v hj
  rw [add_none, Nat.zero_add]
  rw [show w1.cell? ⟨g, j, none⟩ = (#[.bool false, .int .i64 1, .bool false, .int .i64 0, .int .i64 0, .int .i64 0, .int .i64 0, .int .i64 0] : Array Value)[j]? from by simp [World.cell?, kg1], ← Array.getElem?_toList]
  exact hj)
 have HO2 : Hid (w2.ownsRow w.heap.size 44 8 (.slice (some ⟨w.heap.size, 0, none⟩) p p) p (ptF.all (repTo newPt zeroPt p 1))) := hide hO2
 have HB2 : Hid (Below w.heap.size w w2) := hide (hb1.grown hg2 hb1.size (by intro k hk; cases hk; exact Nat.le_refl _))
 rw [Nat.zero_mul] at hcp
 clear hown hgrow hi hz0 hz1 hz2 hown1 hO2 hg2 kg1 hb1
 go_wp2_with (at_builtin; refine wpList_copy_eq _ rfl _ _ 24 24 rfl _ _ rfl rfl (hcp _ _ _) ?_)
 go_wp2
 go_loopw [8] (fun i wr => ∃ k : Nat, 1 ≤ k ∧ k ≤ p ∧ i = .int .i64 k ∧ wr.ownsRow w.heap.size 44 8 (.slice (some ⟨w.heap.size, 0, none⟩) p p) p (ptF.all (repTo newPt zeroPt p k)) ∧ Below w.heap.size w wr) (fun i _ => p - (intOf i).toNat)
 case atStart => exact ⟨1, Nat.le_refl _, h1, rfl, HO2.out, HB2.out⟩
 case round =>
  obtain ⟨k, hk1, hk, rfl, ho, hb⟩ := hrel
  by_cases hlt : k < p
  ·have ho' : wr.drew.ownsRow w.heap.size 44 8 (.slice (some ⟨w.heap.size, 0, none⟩) p p) p (ptF.all (repTo newPt zeroPt p k)) := gown_below ho (gr_drew (Below.refl _ _))
   have hm1 : Nat.min k (p - k) ≤ k := Nat.min_le_left _ _
   have hm2 : Nat.min k (p - k) ≤ p - k := Nat.min_le_right _ _
   have hm3 : 1 ≤ Nat.min k (p - k) := Nat.le_min.2 ⟨hk1, by omega⟩
   obtain ⟨w3, hcp3, hO3, hg3⟩ := rep_copy ptF (P := Tryz.prog) (tS := 24) Tryz.underlying24 pt_size (w := wr.drew) (x := newPt) (z := zeroPt) (m := Nat.min k (p - k)) (a := ⟨w.heap.size, 0, none⟩) (dl := p - k) (sl := k) ho' (by omega) rfl (by
    intro j v hj
    have hjl := (List.getElem?_eq_some_iff.1 hj).1
    rw [ptF.all_length, List.length_replicate, show ptF.k = 8 from rfl] at hjl
    rw [add_none, Nat.zero_add, ho'.cellAt j (by omega)]
    unfold repTo
    rw [ptF.all_append, List.getElem?_append_left (by rw [ptF.all_length, List.length_replicate, show ptF.k = 8 from rfl]; omega)]
    rw [show List.replicate k newPt = List.replicate (Nat.min k (p - k)) newPt ++ List.replicate (k - Nat.min k (p - k)) newPt by rw [List.replicate_append_replicate]; congr 1; omega, ptF.all_append, List.getElem?_append_left (by rw [ptF.all_length, List.length_replicate, show ptF.k = 8 from rfl]; omega)]
    exact hj)
   have HO := hide hO3
   have HB := hide (hb.drew.grown hg3 (by simpa using hb.size) (by intro j hj; cases hj; exact Nat.le_refl _))
   have hcp : ∀ ty dc sc, (Builtin.copy_ #[24, 24] ty #[.slice (some ⟨w.heap.size, k * 8, none⟩) (p - k) dc, .slice (some ⟨w.heap.size, 0, none⟩) k sc]).run Tryz.prog wr.drew = .ok (goInt (Nat.min k (p - k))) w3 := hcp3
   have i1 : (0 : Int) ≤ (k : Int) := by omega
   have i2 : (k : Int) ≤ (p : Int) := by omega
   have i3 : ¬ (p = k) := by omega
   have i4 : IntKind.i64.wrap ((k : Int) + (Nat.min k (p - k) : Nat)) = ((k + Nat.min k (p - k) : Nat) : Int) := by rw [IntKind.wrap_i64]; omega
   clear hcp3 hO3 hg3 ho ho' hb
   go_wp2_with fail
   refine wp_region_held_drew (S := (fun _ => True)) (by kernel_rfl) (trivial) (fun hHeld => ?_)
   refine kK 0 ⟨some 38, .move (.tmp 8), 3, "slices.go:528", #[], none⟩ ?_
   refine kK 1 ⟨some 39, .move (.tmp 7), 24, "slices.go:528", #[], none⟩ ?_
   refine kK 2 ⟨some 40, .move (.tmp 8), 3, "slices.go:528", #[], none⟩ ?_
   refine kK 3 ⟨some 41, .slice 24 (.tmp 39) (some (.tmp 40)) none none, 24, "slices.go:528", #[⟨1, .data⟩, ⟨2, .data⟩], none⟩ ?_
   refine kK 4 ⟨some 42, .move (.tmp 7), 24, "slices.go:528", #[], none⟩ ?_
   refine kK 5 ⟨some 43, .move (.tmp 8), 3, "slices.go:528", #[], none⟩ ?_
   refine kK 6 ⟨some 44, .slice 24 (.tmp 42) none (some (.tmp 43)) none, 24, "slices.go:528", #[⟨4, .data⟩, ⟨5, .data⟩], none⟩ ?_
   refine tR [7] ?_
   refine AllReadyH.cons (o := ⟨some 45, .call ⟨.builtin .copy, #[.tmp 41, .tmp 44], #[24, 24]⟩, 3, "slices.go:528", #[⟨3, .data⟩, ⟨6, .data⟩], none⟩) rfl (fun K hK => ?_) ?_
   ·refine step_copy_eq rfl _ _ 24 24 rfl _ _ rfl rfl (hcp _ _ _) ?_
    refine hK.out _ _ (trivial) (fun hHeld => ?_)
    clear hK K
    try simp only [Act.put, lA, lB, lC]
    refine kK 8 ⟨some 46, .binOp .add 3 (.tmp 38) (.tmp 45) 3, 3, "slices.go:528", #[⟨0, .data⟩, ⟨7, .data⟩], none⟩ ?_
    refine kK 9 ⟨some 8, .assign (.tmp 46), 3, "slices.go:528", #[⟨8, .data⟩, ⟨7, .chain⟩, ⟨0, .phase⟩, ⟨1, .phase⟩, ⟨2, .phase⟩, ⟨3, .phase⟩, ⟨4, .phase⟩, ⟨5, .phase⟩, ⟨6, .phase⟩, ⟨7, .phase⟩, ⟨8, .phase⟩], none⟩ ?_
    refine wpAnyH_done (by kernel_rfl) ?_ _
    clear hHeld
    go_wp2
    go_roundw
    case rel => exact ⟨k + Nat.min k (p - k), by omega, by omega, by go_num, HO.out, HB.out⟩
    case measure => simp [intOf]; omega
   exact AllReadyH.nil
  ·have hkp : k = p := by omega
   subst hkp
   have HO : Hid (wr.ownsRow w.heap.size 44 8 (.slice (some ⟨w.heap.size, 0, none⟩) k k) k (ptF.all (List.replicate k newPt))) := hide (by
    have h := ho
    unfold repTo at h
    rw [Nat.sub_self, List.replicate_zero, List.append_nil] at h
    exact h)
   have HB := hide hb
   clear ho hb
   go_wp2
   go_ret
   exact ⟨_, _, rfl, HO.out, HB.out⟩

def bridgeNewAt (id ports : Int) : BR := if (decide (1 ≤ id) && decide (id ≤ 99)) && (decide (1 ≤ ports) && decide (ports ≤ 6)) then bridgeNew id ports.toNat else zeroBr

set_option maxRecDepth 100000 in
set_option maxHeartbeats 4000000 in
theorem specNew_any (id ports : Int) (w : World) : Calls Tryz.prog 28 #[.int .i64 id, .int .i64 ports] w fun e w' => ∃ (a2 : Option Addr) (n2 c2 : Nat) (fa2 : Option Addr) (fn2 fc2 : Nat) (ra2 : Option Addr) (rn2 rc2 : Nat) (oa2 : Option Addr) (on2 oc2 : Nat), e = .returned (.agg #[.int .i64 (bridgeNewAt id ports).id, .string (bridgeNewAt id ports).name, .slice a2 n2 c2, .slice fa2 fn2 fc2, .slice ra2 rn2 rc2, .slice oa2 on2 oc2, .int .i64 (bridgeNewAt id ports).ticks, .int .i64 (bridgeNewAt id ports).parse, .int .i64 (bridgeNewAt id ports).word, .int .i64 (bridgeNewAt id ports).drops, .int .i64 (bridgeNewAt id ports).vers]) ∧ BrOwn w' w.heap.size a2 n2 c2 fa2 fn2 fc2 ra2 rn2 rc2 oa2 on2 oc2 (bridgeNewAt id ports) ∧ Below w.heap.size w w' := by
 cases hid : (decide (1 ≤ id) && decide (id ≤ 99))
 ·have HE : Hid (bridgeNewAt id ports = zeroBr) := hide (by unfold bridgeNewAt; rw [hid]; rfl)
  have HID := hide hid
  clear hid
  generalize hw1 : w.alloc (Obj.cells #[.int .i64 0, .string ⟨#[]⟩, .slice none 0 0, .slice none 0 0, .slice none 0 0, .slice none 0 0, .int .i64 0, .int .i64 0, .int .i64 0, .int .i64 0, .int .i64 0] 31) = w1
  have b1 : Below w.heap.size w w1 := by rw [← hw1]; exact below_one _ _
  have kR : w1.heap[w.heap.size]? = some (.cells #[.int .i64 0, .string ⟨#[]⟩, .slice none 0 0, .slice none 0 0, .slice none 0 0, .slice none 0 0, .int .i64 0, .int .i64 0, .int .i64 0, .int .i64 0, .int .i64 0] 31) := by rw [← hw1]; exact block_last _ _
  obtain ⟨u0, u1, u2, u3, u4, u5, u6, u7, u8, u9, u10⟩ := cells11 kR
  have fr := frozen8 kR
  have fr0 := fr 0
  have fr1 := fr 1
  have fr2 := fr 2
  have fr3 := fr 3
  have fr4 := fr 4
  have fr5 := fr 5
  have fr6 := fr 6
  have fr7 := fr 7
  have fr8 := fr 8
  have fr9 := fr 9
  have fr10 := fr 10
  have HO := hide ((zeroBr_own w1 w.heap.size).boxed11 kR (.int .i64 0) (.string ⟨#[]⟩) (.slice none 0 0) (.slice none 0 0) (.slice none 0 0) (.slice none 0 0) (.int .i64 0) (.int .i64 0) (.int .i64 0) (.int .i64 0) (.int .i64 0))
  have HB := hide (below_set11 b1 (Nat.le_refl _) (.int .i64 0) (.string ⟨#[]⟩) (.slice none 0 0) (.slice none 0 0) (.slice none 0 0) (.slice none 0 0) (.int .i64 0) (.int .i64 0) (.int .i64 0) (.int .i64 0) (.int .i64 0))
  clear fr b1 kR
  go_enter Tryz.func28, Tryz.ntmps28
  go_wp2_with fail
  refine (within_any id 1 99 _).mono ?_
  rintro r wx ⟨rfl, ew⟩
  obtain rfl := ew.symm
  rw [HID.out]
  go_wp2
  exact bodyPost_ret (v := .agg #[.int .i64 0, .string ⟨#[]⟩, .slice none 0 0, .slice none 0 0, .slice none 0 0, .slice none 0 0, .int .i64 0, .int .i64 0, .int .i64 0, .int .i64 0, .int .i64 0]) (by simp [results, Tryz.results28, go_sem, *]) rfl ⟨none, 0, 0, none, 0, 0, none, 0, 0, none, 0, 0, (by rw [HE.out]; rfl), (by rw [HE.out]; exact HO.out), HB.out⟩
 cases hm : (decide (1 ≤ ports) && decide (ports ≤ 6))
 ·have HE : Hid (bridgeNewAt id ports = zeroBr) := hide (by unfold bridgeNewAt; rw [hid, hm]; rfl)
  have HID := hide hid
  have HM := hide hm
  clear hid hm
  generalize hw1 : w.alloc (Obj.cells #[.int .i64 0, .string ⟨#[]⟩, .slice none 0 0, .slice none 0 0, .slice none 0 0, .slice none 0 0, .int .i64 0, .int .i64 0, .int .i64 0, .int .i64 0, .int .i64 0] 31) = w1
  have b1 : Below w.heap.size w w1 := by rw [← hw1]; exact below_one _ _
  have kR : w1.heap[w.heap.size]? = some (.cells #[.int .i64 0, .string ⟨#[]⟩, .slice none 0 0, .slice none 0 0, .slice none 0 0, .slice none 0 0, .int .i64 0, .int .i64 0, .int .i64 0, .int .i64 0, .int .i64 0] 31) := by rw [← hw1]; exact block_last _ _
  obtain ⟨u0, u1, u2, u3, u4, u5, u6, u7, u8, u9, u10⟩ := cells11 kR
  have fr := frozen8 kR
  have fr0 := fr 0
  have fr1 := fr 1
  have fr2 := fr 2
  have fr3 := fr 3
  have fr4 := fr 4
  have fr5 := fr 5
  have fr6 := fr 6
  have fr7 := fr 7
  have fr8 := fr 8
  have fr9 := fr 9
  have fr10 := fr 10
  have HO := hide ((zeroBr_own w1 w.heap.size).boxed11 kR (.int .i64 0) (.string ⟨#[]⟩) (.slice none 0 0) (.slice none 0 0) (.slice none 0 0) (.slice none 0 0) (.int .i64 0) (.int .i64 0) (.int .i64 0) (.int .i64 0) (.int .i64 0))
  have HB := hide (below_set11 b1 (Nat.le_refl _) (.int .i64 0) (.string ⟨#[]⟩) (.slice none 0 0) (.slice none 0 0) (.slice none 0 0) (.slice none 0 0) (.int .i64 0) (.int .i64 0) (.int .i64 0) (.int .i64 0) (.int .i64 0))
  clear fr b1 kR
  go_enter Tryz.func28, Tryz.ntmps28
  go_wp2_with fail
  refine (within_any id 1 99 _).mono ?_
  rintro r wx ⟨rfl, ew⟩
  obtain rfl := ew.symm
  rw [HID.out]
  go_wp2_with fail
  refine (within_any ports 1 6 _).mono ?_
  rintro r wx ⟨rfl, ew⟩
  obtain rfl := ew.symm
  rw [HM.out]
  go_wp2
  exact bodyPost_ret (v := .agg #[.int .i64 0, .string ⟨#[]⟩, .slice none 0 0, .slice none 0 0, .slice none 0 0, .slice none 0 0, .int .i64 0, .int .i64 0, .int .i64 0, .int .i64 0, .int .i64 0]) (by simp [results, Tryz.results28, go_sem, *]) rfl ⟨none, 0, 0, none, 0, 0, none, 0, 0, none, 0, 0, (by rw [HE.out]; rfl), (by rw [HE.out]; exact HO.out), HB.out⟩
 obtain ⟨m, rfl⟩ : ∃ m : Nat, ports = (m : Int) := ⟨ports.toNat, by simp at hm; omega⟩
 have HE : Hid (bridgeNewAt id (m : Int) = bridgeNew id m) := hide (by unfold bridgeNewAt; rw [hid, hm, Int.toNat_natCast]; rfl)
 refine (specBridgeNew_made id m w hid hm).mono ?_
 rintro e w' ⟨a, c, ra, rn, rc, oa, on, oc, rfl, ho, hb⟩
 rw [HE.out]
 exact ⟨a, m, c, none, 0, 0, ra, rn, rc, oa, on, oc, rfl, ho, hb⟩

set_option maxRecDepth 100000 in
set_option maxHeartbeats 4000000 in
theorem implNew_any (id ports : Int) (w : World) : Calls Tryz.prog 22 #[.int .i64 id, .int .i64 ports] w fun e w' => ∃ (a2 : Option Addr) (n2 c2 : Nat) (fa2 : Option Addr) (fn2 fc2 : Nat) (ra2 : Option Addr) (rn2 rc2 : Nat) (oa2 : Option Addr) (on2 oc2 : Nat), e = .returned (.agg #[.int .i64 (bridgeNewAt id ports).id, .string (bridgeNewAt id ports).name, .slice a2 n2 c2, .slice fa2 fn2 fc2, .slice ra2 rn2 rc2, .slice oa2 on2 oc2, .int .i64 (bridgeNewAt id ports).ticks, .int .i64 (bridgeNewAt id ports).parse, .int .i64 (bridgeNewAt id ports).word, .int .i64 (bridgeNewAt id ports).drops, .int .i64 (bridgeNewAt id ports).vers]) ∧ BrOwn w' w.heap.size a2 n2 c2 fa2 fn2 fc2 ra2 rn2 rc2 oa2 on2 oc2 (bridgeNewAt id ports) ∧ Below w.heap.size w w' := by
 cases hid : (decide (1 ≤ id) && decide (id ≤ 99))
 ·have HE : Hid (bridgeNewAt id ports = zeroBr) := hide (by unfold bridgeNewAt; rw [hid]; rfl)
  have HID := hide hid
  clear hid
  generalize hw1 : w.alloc (Obj.cells #[.int .i64 0, .string ⟨#[]⟩, .slice none 0 0, .slice none 0 0, .slice none 0 0, .slice none 0 0, .int .i64 0, .int .i64 0, .int .i64 0, .int .i64 0, .int .i64 0] 31) = w1
  have b1 : Below w.heap.size w w1 := by rw [← hw1]; exact below_one _ _
  have kR : w1.heap[w.heap.size]? = some (.cells #[.int .i64 0, .string ⟨#[]⟩, .slice none 0 0, .slice none 0 0, .slice none 0 0, .slice none 0 0, .int .i64 0, .int .i64 0, .int .i64 0, .int .i64 0, .int .i64 0] 31) := by rw [← hw1]; exact block_last _ _
  obtain ⟨u0, u1, u2, u3, u4, u5, u6, u7, u8, u9, u10⟩ := cells11 kR
  have fr := frozen8 kR
  have fr0 := fr 0
  have fr1 := fr 1
  have fr2 := fr 2
  have fr3 := fr 3
  have fr4 := fr 4
  have fr5 := fr 5
  have fr6 := fr 6
  have fr7 := fr 7
  have fr8 := fr 8
  have fr9 := fr 9
  have fr10 := fr 10
  have HO := hide ((zeroBr_own w1 w.heap.size).boxed11 kR (.int .i64 0) (.string ⟨#[]⟩) (.slice none 0 0) (.slice none 0 0) (.slice none 0 0) (.slice none 0 0) (.int .i64 0) (.int .i64 0) (.int .i64 0) (.int .i64 0) (.int .i64 0))
  have HB := hide (below_set11 b1 (Nat.le_refl _) (.int .i64 0) (.string ⟨#[]⟩) (.slice none 0 0) (.slice none 0 0) (.slice none 0 0) (.slice none 0 0) (.int .i64 0) (.int .i64 0) (.int .i64 0) (.int .i64 0) (.int .i64 0))
  clear fr b1 kR
  go_enter Tryz.func22, Tryz.ntmps22
  go_wp2_with fail
  refine (implIn_any id 1 99 _).mono ?_
  rintro r wx ⟨rfl, ew⟩
  obtain rfl := ew.symm
  rw [HID.out]
  go_wp2
  exact bodyPost_ret (v := .agg #[.int .i64 0, .string ⟨#[]⟩, .slice none 0 0, .slice none 0 0, .slice none 0 0, .slice none 0 0, .int .i64 0, .int .i64 0, .int .i64 0, .int .i64 0, .int .i64 0]) (by simp [results, Tryz.results22, go_sem, *]) rfl ⟨none, 0, 0, none, 0, 0, none, 0, 0, none, 0, 0, (by rw [HE.out]; rfl), (by rw [HE.out]; exact HO.out), HB.out⟩
 cases hm : (decide (1 ≤ ports) && decide (ports ≤ 6))
 ·have HE : Hid (bridgeNewAt id ports = zeroBr) := hide (by unfold bridgeNewAt; rw [hid, hm]; rfl)
  have HID := hide hid
  have HM := hide hm
  clear hid hm
  generalize hw1 : w.alloc (Obj.cells #[.int .i64 0, .string ⟨#[]⟩, .slice none 0 0, .slice none 0 0, .slice none 0 0, .slice none 0 0, .int .i64 0, .int .i64 0, .int .i64 0, .int .i64 0, .int .i64 0] 31) = w1
  have b1 : Below w.heap.size w w1 := by rw [← hw1]; exact below_one _ _
  have kR : w1.heap[w.heap.size]? = some (.cells #[.int .i64 0, .string ⟨#[]⟩, .slice none 0 0, .slice none 0 0, .slice none 0 0, .slice none 0 0, .int .i64 0, .int .i64 0, .int .i64 0, .int .i64 0, .int .i64 0] 31) := by rw [← hw1]; exact block_last _ _
  obtain ⟨u0, u1, u2, u3, u4, u5, u6, u7, u8, u9, u10⟩ := cells11 kR
  have fr := frozen8 kR
  have fr0 := fr 0
  have fr1 := fr 1
  have fr2 := fr 2
  have fr3 := fr 3
  have fr4 := fr 4
  have fr5 := fr 5
  have fr6 := fr 6
  have fr7 := fr 7
  have fr8 := fr 8
  have fr9 := fr 9
  have fr10 := fr 10
  have HO := hide ((zeroBr_own w1 w.heap.size).boxed11 kR (.int .i64 0) (.string ⟨#[]⟩) (.slice none 0 0) (.slice none 0 0) (.slice none 0 0) (.slice none 0 0) (.int .i64 0) (.int .i64 0) (.int .i64 0) (.int .i64 0) (.int .i64 0))
  have HB := hide (below_set11 b1 (Nat.le_refl _) (.int .i64 0) (.string ⟨#[]⟩) (.slice none 0 0) (.slice none 0 0) (.slice none 0 0) (.slice none 0 0) (.int .i64 0) (.int .i64 0) (.int .i64 0) (.int .i64 0) (.int .i64 0))
  clear fr b1 kR
  go_enter Tryz.func22, Tryz.ntmps22
  go_wp2_with fail
  refine (implIn_any id 1 99 _).mono ?_
  rintro r wx ⟨rfl, ew⟩
  obtain rfl := ew.symm
  rw [HID.out]
  go_wp2_with fail
  refine (implIn_any ports 1 6 _).mono ?_
  rintro r wx ⟨rfl, ew⟩
  obtain rfl := ew.symm
  rw [HM.out]
  go_wp2
  exact bodyPost_ret (v := .agg #[.int .i64 0, .string ⟨#[]⟩, .slice none 0 0, .slice none 0 0, .slice none 0 0, .slice none 0 0, .int .i64 0, .int .i64 0, .int .i64 0, .int .i64 0, .int .i64 0]) (by simp [results, Tryz.results22, go_sem, *]) rfl ⟨none, 0, 0, none, 0, 0, none, 0, 0, none, 0, 0, (by rw [HE.out]; rfl), (by rw [HE.out]; exact HO.out), HB.out⟩
 obtain ⟨m, rfl⟩ : ∃ m : Nat, ports = (m : Int) := ⟨ports.toNat, by simp at hm; omega⟩
 have HE : Hid (bridgeNewAt id (m : Int) = bridgeNew id m) := hide (by unfold bridgeNewAt; rw [hid, hm, Int.toNat_natCast]; rfl)
 have h6 : 1 ≤ m ∧ m ≤ 6 := by simp at hm; omega
 have HID := hide hid
 have HM := hide hm
 clear hid hm
 generalize hw1 : w.alloc (Obj.cells #[.int .i64 0, .string ⟨#[]⟩, .slice none 0 0, .slice none 0 0, .slice none 0 0, .slice none 0 0, .int .i64 0, .int .i64 0, .int .i64 0, .int .i64 0, .int .i64 0] 31) = w1
 have b1 : Below w.heap.size w w1 := by rw [← hw1]; exact below_one _ _
 have kR : w1.heap[w.heap.size]? = some (.cells #[.int .i64 0, .string ⟨#[]⟩, .slice none 0 0, .slice none 0 0, .slice none 0 0, .slice none 0 0, .int .i64 0, .int .i64 0, .int .i64 0, .int .i64 0, .int .i64 0] 31) := by rw [← hw1]; exact block_last _ _
 generalize hw2 : w1.alloc (Obj.cells #[.bool false, .int .i64 1, .bool false, .int .i64 0, .int .i64 0, .int .i64 0, .int .i64 0, .int .i64 0] 44) = w2
 have b2 : Below w1.heap.size w1 w2 := by rw [← hw2]; exact below_one _ _
 have kP : w2.heap[w1.heap.size]? = some (.cells #[.bool false, .int .i64 1, .bool false, .int .i64 0, .int .i64 0, .int .i64 0, .int .i64 0, .int .i64 0] 44) := by rw [← hw2]; exact block_last _ _
 have b02 := gr_trans b1 b2
 have kR := kept_block kR b2
 go_enter Tryz.func22, Tryz.ntmps22
 go_wp2_with fail
 refine (implIn_any id 1 99 _).mono ?_
 rintro r wx ⟨rfl, ew⟩
 obtain rfl := ew.symm
 rw [HID.out]
 go_wp2_with fail
 refine (implIn_any (m : Int) 1 6 _).mono ?_
 rintro r wx ⟨rfl, ew⟩
 obtain rfl := ew.symm
 rw [HM.out]
 go_wp2_with fail
 refine (repeatP_made w1.heap.size m h6.1 h6.2 _ kP).mono ?_
 rintro e w3 ⟨a5, c5, rfl, o5, hb3⟩
 have o5 := gown_lt o5 (base' := w.heap.size) b02.size
 have b03 := gr_trans b02 hb3
 have kR := kept_block kR hb3
 clear hw1 hw2 b1 b2 b02 hb3 kP
 go_wp2_with fail
 refine (implVtabNew_made (m : Int) _).mono ?_
 rintro e w4 ⟨ra, rn, rc, oa, on, oc, rfl, hv, hb4⟩
 have hv := hv.lt (base' := w.heap.size) b03.size
 have b04 := gr_trans b03 hb4
 have kR := kept_block kR hb4
 have own4 : BrOwn w4 w.heap.size a5 m c5 none 0 0 ra rn rc oa on oc (bridgeNew id m) := ⟨gown_below o5 hb4, World.ownsRow_nil _ _ _ _, hv⟩
 obtain ⟨u0, u1, u2, u3, u4, u5, u6, u7, u8, u9, u10⟩ := cells11 kR
 have fr := frozen8 kR
 have fr0 := fr 0
 have fr1 := fr 1
 have fr2 := fr 2
 have fr3 := fr 3
 have fr4 := fr 4
 have fr5 := fr 5
 have fr6 := fr 6
 have fr7 := fr 7
 have fr8 := fr 8
 have fr9 := fr 9
 have fr10 := fr 10
 have HO := hide (own4.boxed11 kR (.int .i64 id) (.string ⟨#[]⟩) (.slice a5 m c5) (.slice none 0 0) (.slice ra rn rc) (.slice oa on oc) (.int .i64 0) (.int .i64 0) (.int .i64 0) (.int .i64 0) (.int .i64 0))
 have HB := hide (below_set11 b04 (Nat.le_refl _) (.int .i64 id) (.string ⟨#[]⟩) (.slice a5 m c5) (.slice none 0 0) (.slice ra rn rc) (.slice oa on oc) (.int .i64 0) (.int .i64 0) (.int .i64 0) (.int .i64 0) (.int .i64 0))
 clear fr kR own4 o5 hb4 hv b03 b04
 go_wp2
 exact bodyPost_ret (v := .agg #[.int .i64 id, .string ⟨#[]⟩, .slice a5 m c5, .slice none 0 0, .slice ra rn rc, .slice oa on oc, .int .i64 0, .int .i64 0, .int .i64 0, .int .i64 0, .int .i64 0]) (by simp [results, Tryz.results22, go_sem, *]) rfl ⟨a5, m, c5, none, 0, 0, ra, rn, rc, oa, on, oc, (by rw [HE.out]; rfl), (by rw [HE.out]; exact HO.out), HB.out⟩

end Go.Proofs.YtfknffdlmcckkaaGreat
