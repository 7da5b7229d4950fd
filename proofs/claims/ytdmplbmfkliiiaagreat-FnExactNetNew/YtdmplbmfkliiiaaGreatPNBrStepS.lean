/-
  A bridge behind a vector that is heard, a link that is set, a tick, as the specification has it.
-/
import Derived.Test.YtdmplbmfkliiiaaGreatPNKW
import Derived.Test.YtdmplbmfkliiiaaGreatPNK01
import Derived.Test.YtdmplbmfkliiiaaGreatPNK10
import Derived.Test.YtdmplbmfkliiiaaGreatPNK16
namespace Go.Proofs.YtdmplbmfkliiiaaGreat
open Go.RowKit

set_option maxRecDepth 100000 in
set_option maxHeartbeats 8000000 in
theorem specLink_made (a : Option Addr) (n c : Nat) (fa : Option Addr) (fn fc : Nat) (ra : Option Addr) (rn rc : Nat) (oa : Option Addr) (on oc : Nat) (B : BR) (port : Int) (up : Bool) (w : World) (h : BrRow w a n c fa fn fc ra rn rc oa on oc B) (hn : n ≤ 1048576) (hfn : fn ≤ 1048576) (hrn : rn ≤ 1048576) (hon : on ≤ 1048576) :
  Calls Tryz.prog 44 #[.agg #[.int .i64 B.id, .string B.name, .slice a n c, .slice fa fn fc, .slice ra rn rc, .slice oa on oc, .int .i64 B.ticks, .int .i64 B.parse, .int .i64 B.word, .int .i64 B.drops, .int .i64 B.vers], .int .i64 port, .bool up] w fun e w' => ∃ (a2 : Option Addr) (n2 c2 : Nat) (fa2 : Option Addr) (fn2 fc2 : Nat) (ra2 : Option Addr) (rn2 rc2 : Nat) (oa2 : Option Addr) (on2 oc2 : Nat), e = .returned (.agg #[.int .i64 (linkB B port up).id, .string (linkB B port up).name, .slice a2 n2 c2, .slice fa2 fn2 fc2, .slice ra2 rn2 rc2, .slice oa2 on2 oc2, .int .i64 (linkB B port up).ticks, .int .i64 (linkB B port up).parse, .int .i64 (linkB B port up).word, .int .i64 (linkB B port up).drops, .int .i64 (linkB B port up).vers]) ∧ BrOwn w' w.heap.size a2 n2 c2 fa2 fn2 fc2 ra2 rn2 rc2 oa2 on2 oc2 (linkB B port up) ∧ Below w.heap.size w w' := by
 generalize hw1 : w.alloc (Obj.cells #[.int .i64 B.id, .string B.name, .slice a n c, .slice fa fn fc, .slice ra rn rc, .slice oa on oc, .int .i64 B.ticks, .int .i64 B.parse, .int .i64 B.word, .int .i64 B.drops, .int .i64 B.vers] 71) = w1
 have b01 : Below w.heap.size w w1 := by rw [← hw1]; exact below_one _ _
 have z1 : w.heap.size < w1.heap.size := by rw [← hw1]; simp
 generalize hw2 : w1.alloc (Obj.cells #[.int .i64 0, .string ⟨#[]⟩, .slice none 0 0, .slice none 0 0, .slice none 0 0, .slice none 0 0, .int .i64 0, .int .i64 0, .int .i64 0, .int .i64 0, .int .i64 0] 71) = w2
 have b12 : Below w1.heap.size w1 w2 := by rw [← hw2]; exact below_one _ _
 have z2 : w1.heap.size < w2.heap.size := by rw [← hw2]; simp
 have b02 := gr_trans b01 b12
 have kR2 : w2.heap[w1.heap.size]? = some (.cells #[.int .i64 0, .string ⟨#[]⟩, .slice none 0 0, .slice none 0 0, .slice none 0 0, .slice none 0 0, .int .i64 0, .int .i64 0, .int .i64 0, .int .i64 0, .int .i64 0] 71) := by rw [← hw2]; exact block_last _ _
 have kA2 : w2.heap[w.heap.size]? = some (.cells #[.int .i64 B.id, .string B.name, .slice a n c, .slice fa fn fc, .slice ra rn rc, .slice oa on oc, .int .i64 B.ticks, .int .i64 B.parse, .int .i64 B.word, .int .i64 B.drops, .int .i64 B.vers] 71) := kept_block (by rw [← hw1]; exact block_last _ _) b12
 obtain ⟨x0, x1, x2, x3, x4, x5, x6, x7, x8, x9, x10⟩ := cells11 kA2
 go_enter Tryz.func44, Tryz.ntmps44
 go_wp2_with fail
 refine (specCopyB_made a n c fa fn fc ra rn rc oa on oc B _ (h.below b02) (by omega) (by omega) (by omega) (by omega)).mono ?_
 rintro e w3 ⟨a3, c3, fa3, fc3, ra3, rc3, oa3, oc3, rfl, o3, hb3⟩
 generalize hw4 : w3.alloc (Obj.cells #[.int .i64 B.id, .string B.name, .slice a3 n c3, .slice fa3 fn fc3, .slice ra3 rn rc3, .slice oa3 on oc3, .int .i64 B.ticks, .int .i64 B.parse, .int .i64 B.word, .int .i64 B.drops, .int .i64 B.vers] 71) = w4
 have b34 : Below w3.heap.size w3 w4 := by rw [← hw4]; exact below_one _ _
 have d24 := gr_trans hb3 b34
 have hs23 := hb3.size
 have st4 : BcSt w w4 w1.heap.size w3.heap.size #[.int .i64 B.id, .string B.name, .slice a3 n c3, .slice fa3 fn fc3, .slice ra3 rn rc3, .slice oa3 on oc3, .int .i64 B.ticks, .int .i64 B.parse, .int .i64 B.word, .int .i64 B.drops, .int .i64 B.vers] := ⟨by rw [← hw4]; exact block_last _ _, kept_block kR2 d24, gr_trans b02 d24, by omega, by omega, by omega⟩
 have kA4 := kept_block kA2 d24
 have own4 := (o3.lt (base' := w.heap.size) b02.size).below b34
 have nAX : ¬ w.heap.size = w3.heap.size := by omega
 have nXA : ¬ w3.heap.size = w.heap.size := by omega
 have nAR : ¬ w.heap.size = w1.heap.size := by omega
 go_upto_region 2 with fail
 try rw [hw4]
 clear x0 x1 x2 x3 x4 x5 x6 x7 x8 x9 x10 hw4 hw2 hw1  hb3 b34 o3 d24 hs23 b02 b12 b01 z1 z2 kA2 kR2 
 generalize hX : w3.heap.size = X at *
 generalize hR : w1.heap.size = R at *
 clear hX hR 
 obtain ⟨x0, x1, x2, x3, x4, x5, x6, x7, x8, x9, x10⟩ := cells11 kA4
 go_wp2_with fail
 refine (specThere_any a n c fa fn fc ra rn rc oa on oc B port _ (h.below st4.below)).mono ?_
 rintro e w5 ⟨rfl, hb5⟩
 have st5 := st4.later hb5
 have own5 := own4.below hb5
 have kA5 := kept_block kA4 hb5
 clear x0 x1 x2 x3 x4 x5 x6 x7 x8 x9 x10 hb5 st4 own4 kA4
 cases htb : thereB B port
 ·have hT : linkB B port up = B := by unfold linkB; rw [htb]; rfl
  clear htb
  have HT : Hid (linkB B port up = B) := hide hT
  obtain ⟨y0, y1, y2, y3, y4, y5, y6, y7, y8, y9, y10⟩ := cells11 st5.box
  obtain ⟨u0, u1, u2, u3, u4, u5, u6, u7, u8, u9, u10⟩ := cells11 st5.res
  have fr := frozen8 st5.res
  have fr0 := fr 0
  have fr1 := fr 1
  have fr2 := fr 2
  have fr3 := fr 3
  have fr4 := fr 4
  have fr5 := fr 5
  have fr6 := fr 6
  have fr7 := fr 7
  have fr8 := fr 8
  have fr9 := fr 9
  have fr10 := fr 10
  have ne1 : ¬ X = R := fun e => st5.ne e.symm
  have ne2 : ¬ R = X := st5.ne
  obtain ⟨HO0, HB0⟩ := st5.out own5 (.int .i64 B.id) (.string B.name) (.slice a3 n c3) (.slice fa3 fn fc3) (.slice ra3 rn rc3) (.slice oa3 on oc3) (.int .i64 B.ticks) (.int .i64 B.parse) (.int .i64 B.word) (.int .i64 B.drops) (.int .i64 B.vers)
  have HO := hide HO0
  have HB := hide HB0
  clear fr st5 own5 HO0 HB0
  go_wp2
  exact bodyPost_ret (v := .agg #[.int .i64 B.id, .string B.name, .slice a3 n c3, .slice fa3 fn fc3, .slice ra3 rn rc3, .slice oa3 on oc3, .int .i64 B.ticks, .int .i64 B.parse, .int .i64 B.word, .int .i64 B.drops, .int .i64 B.vers]) (by simp [results, Tryz.results44, go_sem, *]) rfl ⟨a3, n, c3, fa3, fn, fc3, ra3, rn, rc3, oa3, on, oc3, (by rw [HT.out]), (by rw [HT.out]; exact HO.out), HB.out⟩
 ·obtain ⟨k, rfl, hk1, x, hx⟩ := there_at h.ports.size htb
  obtain ⟨hb6, hv0, hv1, ht0, ht1⟩ := ok_bounds (there_ok htb)
  have hT : linkB B (k : Int) up = turned { B with ports := B.ports.set k ⟨up, x.k, false, ⟨0, 0, 0, 0, 0⟩⟩ } := by unfold linkB; rw [htb, Int.toNat_natCast, hx]; rfl
  have hvb : -9223372036854775808 ≤ B.vers ∧ B.vers ≤ 9223372036854775806 := by omega
  have HTB := hide hT
  have HVO := hide hvb
  clear htb hT hvb
  obtain ⟨g, hga⟩ := own_some own5.ports (show 0 < n by omega)
  cases hga
  have hgl : g < w5.heap.size := (own5.ports.lt g rfl).2
  have hgw : w.heap.size ≤ g := (own5.ports.lt g rfl).1
  have ngX : ¬ g = X := fun e => box_ne own5.ports st5.box (by decide) g rfl e
  have nXg : ¬ X = g := fun e => ngX e.symm
  obtain ⟨⟨t0, t1, t2, t3, t4, t5, t6, t7⟩, p0, p1, p2, p3, p4, p5, p6, p7⟩ := pt_cells own5.ports hx
  have i1 : (0 : Int) ≤ (k : Int) := by omega
  have i2 : (k : Int) < (n : Int) := by omega
  obtain ⟨x', ab, ao, hx', rfl, q0, q1, q2, q3, q4, q5, q6, q7⟩ := pt_at (h.ports.below st5.below) k hk1
  rw [hx] at hx'
  cases hx'
  have hab : ab < w.heap.size := by have := pt_at h.ports k hk1; obtain ⟨_, b', o', _, e', c', _⟩ := this; cases e'; exact block_lt c'
  have hnag : ¬ ab = g := by omega
  have hp6 := link_own up own5.ports hx
  have hg6 := grown_set8 (w := w5) (g := g) (k * 8) (k * 8 + 1) (k * 8 + 2) (k * 8 + 3) (k * 8 + 4) (k * 8 + 5) (k * 8 + 6) (k * 8 + 7) (.bool up) (.int .i64 x.k) (.bool false) (.int .i64 0) (.int .i64 0) (.int .i64 0) (.int .i64 0) (.int .i64 0)
  have hp6 := gown_below hp6 (gr_drew (Below.refl _ _))
  have hg6 := grown_drew hg6
  have HP6 := hide hp6
  have HG6 := hide hg6
  have HS0 := hide (show (fun W => (W.cell? ⟨w.heap.size, 0, none⟩ = some (.int .i64 B.id) ∧ W.cell? ⟨w.heap.size, 1, none⟩ = some (.string B.name) ∧ W.cell? ⟨w.heap.size, 2, none⟩ = some (.slice (some ⟨ab, ao, none⟩) n c) ∧ W.cell? ⟨w.heap.size, 3, none⟩ = some (.slice fa fn fc) ∧ W.cell? ⟨w.heap.size, 4, none⟩ = some (.slice ra rn rc) ∧ W.cell? ⟨w.heap.size, 5, none⟩ = some (.slice oa on oc) ∧ W.cell? ⟨w.heap.size, 6, none⟩ = some (.int .i64 B.ticks) ∧ W.cell? ⟨w.heap.size, 7, none⟩ = some (.int .i64 B.parse) ∧ W.cell? ⟨w.heap.size, 8, none⟩ = some (.int .i64 B.word) ∧ W.cell? ⟨w.heap.size, 9, none⟩ = some (.int .i64 B.drops) ∧ W.cell? ⟨w.heap.size, 10, none⟩ = some (.int .i64 B.vers)) ∧ (W.cell? ⟨X, 0, none⟩ = some (.int .i64 B.id) ∧ W.cell? ⟨X, 1, none⟩ = some (.string B.name) ∧ W.cell? ⟨X, 2, none⟩ = some (.slice (some ⟨g, 0, none⟩) n c3) ∧ W.cell? ⟨X, 3, none⟩ = some (.slice fa3 fn fc3) ∧ W.cell? ⟨X, 4, none⟩ = some (.slice ra3 rn rc3) ∧ W.cell? ⟨X, 5, none⟩ = some (.slice oa3 on oc3) ∧ W.cell? ⟨X, 6, none⟩ = some (.int .i64 B.ticks) ∧ W.cell? ⟨X, 7, none⟩ = some (.int .i64 B.parse) ∧ W.cell? ⟨X, 8, none⟩ = some (.int .i64 B.word) ∧ W.cell? ⟨X, 9, none⟩ = some (.int .i64 B.drops) ∧ W.cell? ⟨X, 10, none⟩ = some (.int .i64 B.vers)) ∧ W.cell? ⟨ab, ao + k * 8 + 1, none⟩ = some (.int .i64 x.k)) w5.drew from ⟨cells11 (gr_drewK kA5), cells11 (gr_drewK st5.box), q1⟩)
  have kA6 := kept_grown kA5 hg6 (fun i e => by cases e; exact box_ne own5.ports kA5 (by decide) g rfl)
  have kX6 := kept_grown st5.box hg6 (fun i e => by cases e; exact ngX)
  have q16 := hg6.cell (a := ⟨ab, ao + k * 8 + 1, none⟩) q1 (by simp; exact hnag)
  have HS1 := hide (show (fun W => (W.cell? ⟨w.heap.size, 0, none⟩ = some (.int .i64 B.id) ∧ W.cell? ⟨w.heap.size, 1, none⟩ = some (.string B.name) ∧ W.cell? ⟨w.heap.size, 2, none⟩ = some (.slice (some ⟨ab, ao, none⟩) n c) ∧ W.cell? ⟨w.heap.size, 3, none⟩ = some (.slice fa fn fc) ∧ W.cell? ⟨w.heap.size, 4, none⟩ = some (.slice ra rn rc) ∧ W.cell? ⟨w.heap.size, 5, none⟩ = some (.slice oa on oc) ∧ W.cell? ⟨w.heap.size, 6, none⟩ = some (.int .i64 B.ticks) ∧ W.cell? ⟨w.heap.size, 7, none⟩ = some (.int .i64 B.parse) ∧ W.cell? ⟨w.heap.size, 8, none⟩ = some (.int .i64 B.word) ∧ W.cell? ⟨w.heap.size, 9, none⟩ = some (.int .i64 B.drops) ∧ W.cell? ⟨w.heap.size, 10, none⟩ = some (.int .i64 B.vers)) ∧ (W.cell? ⟨X, 0, none⟩ = some (.int .i64 B.id) ∧ W.cell? ⟨X, 1, none⟩ = some (.string B.name) ∧ W.cell? ⟨X, 2, none⟩ = some (.slice (some ⟨g, 0, none⟩) n c3) ∧ W.cell? ⟨X, 3, none⟩ = some (.slice fa3 fn fc3) ∧ W.cell? ⟨X, 4, none⟩ = some (.slice ra3 rn rc3) ∧ W.cell? ⟨X, 5, none⟩ = some (.slice oa3 on oc3) ∧ W.cell? ⟨X, 6, none⟩ = some (.int .i64 B.ticks) ∧ W.cell? ⟨X, 7, none⟩ = some (.int .i64 B.parse) ∧ W.cell? ⟨X, 8, none⟩ = some (.int .i64 B.word) ∧ W.cell? ⟨X, 9, none⟩ = some (.int .i64 B.drops) ∧ W.cell? ⟨X, 10, none⟩ = some (.int .i64 B.vers)) ∧ W.cell? ⟨ab, ao + k * 8 + 1, none⟩ = some (.int .i64 x.k)) ((((((((w5.setCell ⟨g, k * 8, none⟩ (.bool up)).setCell ⟨g, k * 8 + 1, none⟩ (.int .i64 x.k)).setCell ⟨g, k * 8 + 2, none⟩ (.bool false)).setCell ⟨g, k * 8 + 3, none⟩ (.int .i64 0)).setCell ⟨g, k * 8 + 4, none⟩ (.int .i64 0)).setCell ⟨g, k * 8 + 5, none⟩ (.int .i64 0)).setCell ⟨g, k * 8 + 6, none⟩ (.int .i64 0)).setCell ⟨g, k * 8 + 7, none⟩ (.int .i64 0)).drew from ⟨cells11 kA6, cells11 kX6, q16⟩)
  clear hp6 hg6 hx q0 q1 q2 q3 q4 q5 q6 q7 kA6 kX6 q16
  go_wp2_with fail
  refine wp_region_held_drew (S := (fun W => (W.cell? ⟨w.heap.size, 0, none⟩ = some (.int .i64 B.id) ∧ W.cell? ⟨w.heap.size, 1, none⟩ = some (.string B.name) ∧ W.cell? ⟨w.heap.size, 2, none⟩ = some (.slice (some ⟨ab, ao, none⟩) n c) ∧ W.cell? ⟨w.heap.size, 3, none⟩ = some (.slice fa fn fc) ∧ W.cell? ⟨w.heap.size, 4, none⟩ = some (.slice ra rn rc) ∧ W.cell? ⟨w.heap.size, 5, none⟩ = some (.slice oa on oc) ∧ W.cell? ⟨w.heap.size, 6, none⟩ = some (.int .i64 B.ticks) ∧ W.cell? ⟨w.heap.size, 7, none⟩ = some (.int .i64 B.parse) ∧ W.cell? ⟨w.heap.size, 8, none⟩ = some (.int .i64 B.word) ∧ W.cell? ⟨w.heap.size, 9, none⟩ = some (.int .i64 B.drops) ∧ W.cell? ⟨w.heap.size, 10, none⟩ = some (.int .i64 B.vers)) ∧ (W.cell? ⟨X, 0, none⟩ = some (.int .i64 B.id) ∧ W.cell? ⟨X, 1, none⟩ = some (.string B.name) ∧ W.cell? ⟨X, 2, none⟩ = some (.slice (some ⟨g, 0, none⟩) n c3) ∧ W.cell? ⟨X, 3, none⟩ = some (.slice fa3 fn fc3) ∧ W.cell? ⟨X, 4, none⟩ = some (.slice ra3 rn rc3) ∧ W.cell? ⟨X, 5, none⟩ = some (.slice oa3 on oc3) ∧ W.cell? ⟨X, 6, none⟩ = some (.int .i64 B.ticks) ∧ W.cell? ⟨X, 7, none⟩ = some (.int .i64 B.parse) ∧ W.cell? ⟨X, 8, none⟩ = some (.int .i64 B.word) ∧ W.cell? ⟨X, 9, none⟩ = some (.int .i64 B.drops) ∧ W.cell? ⟨X, 10, none⟩ = some (.int .i64 B.vers)) ∧ W.cell? ⟨ab, ao + k * 8 + 1, none⟩ = some (.int .i64 x.k))) (by kernel_rfl) (HS0.out) (fun hHeld => ?_)
  refine kK 0 ⟨some 15, .fieldAddr 71 (.tmp 7) 2, 0, "l11_bridge.go:78", #[], none⟩ ?_
  refine kK 1 ⟨some 16, .load 65 (.tmp 15), 65, "l11_bridge.go:78", #[⟨0, .data⟩], none⟩ ?_
  refine kK 2 ⟨some 17, .move (.tmp 1), 3, "l11_bridge.go:78", #[], none⟩ ?_
  refine kK 3 ⟨some 18, .move (.tmp 2), 4, "l11_bridge.go:78", #[], none⟩ ?_
  refine kK 4 ⟨some 19, .fieldAddr 71 (.tmp 3) 2, 0, "l11_bridge.go:78", #[], none⟩ ?_
  refine kK 5 ⟨some 20, .load 65 (.tmp 19), 65, "l11_bridge.go:78", #[⟨4, .data⟩], none⟩ ?_
  refine kK 6 ⟨some 21, .move (.tmp 1), 3, "l11_bridge.go:78", #[], none⟩ ?_
  refine kK 7 ⟨some 22, .indexAddr 65 (.tmp 20) (.tmp 21), 0, "l11_bridge.go:78", #[⟨5, .data⟩, ⟨6, .data⟩], none⟩ ?_
  refine kK 8 ⟨some 23, .fieldAddr 89 (.tmp 22) 1, 0, "l11_bridge.go:78", #[⟨7, .data⟩], none⟩ ?_
  refine kK 9 ⟨some 24, .load 3 (.tmp 23), 3, "l11_bridge.go:78", #[⟨8, .data⟩], none⟩ ?_
  refine kK 10 ⟨some 25, .build 89 #[(0, .tmp 18), (1, .tmp 24)], 89, "l11_bridge.go:78", #[⟨3, .data⟩, ⟨9, .data⟩], none⟩ ?_
  refine kK 11 ⟨some 26, .indexAddr 65 (.tmp 16) (.tmp 17), 0, "l11_bridge.go:78", #[⟨1, .data⟩, ⟨2, .data⟩, ⟨0, .phase⟩, ⟨1, .phase⟩, ⟨2, .phase⟩, ⟨3, .phase⟩, ⟨4, .phase⟩, ⟨5, .phase⟩, ⟨6, .phase⟩, ⟨7, .phase⟩, ⟨8, .phase⟩, ⟨9, .phase⟩, ⟨10, .phase⟩], none⟩ ?_
  refine kR 12 ⟨none, .store 89 (.tmp 26) (.tmp 25), 0, "l11_bridge.go:78", #[⟨11, .data⟩, ⟨10, .data⟩, ⟨0, .phase⟩, ⟨1, .phase⟩, ⟨2, .phase⟩, ⟨3, .phase⟩, ⟨4, .phase⟩, ⟨5, .phase⟩, ⟨6, .phase⟩, ⟨7, .phase⟩, ⟨8, .phase⟩, ⟨9, .phase⟩, ⟨10, .phase⟩], none⟩ (fun K hK => ?_)
  go_simp
  have HS0 := HS1
  refine hK.out _ _ (HS0.out) (fun hHeld => ?_)
  clear hK K
  try simp only [Act.put, lA, lB, lC]
  refine wpAnyH_done (by kernel_rfl) ?_ _
  have hp6 := HP6.out
  have hg6 := HG6.out
  clear HS0 HS1 hHeld HP6 HG6 t0 t1 t2 t3 t4 t5 t6 t7 p0 p1 p2 p3 p4 p5 p6 p7
  generalize hw6 : ((((((((w5.setCell ⟨g, k * 8, none⟩ (.bool up)).setCell ⟨g, k * 8 + 1, none⟩ (.int .i64 x.k)).setCell ⟨g, k * 8 + 2, none⟩ (.bool false)).setCell ⟨g, k * 8 + 3, none⟩ (.int .i64 0)).setCell ⟨g, k * 8 + 4, none⟩ (.int .i64 0)).setCell ⟨g, k * 8 + 5, none⟩ (.int .i64 0)).setCell ⟨g, k * 8 + 6, none⟩ (.int .i64 0)).setCell ⟨g, k * 8 + 7, none⟩ (.int .i64 0)).drew = w6 at hp6 hg6 ⊢
  have b56 : Below w.heap.size w5 w6 := (Below.refl _ w5).grown hg6 st5.below.size (fun i e => by cases e; exact hgw)
  have st6 := st5.grown own5.ports (by decide) hg6 b56
  have own6 := own5.newPorts hg6 hp6
  clear hw6 hp6 hg6 b56 st5 own5 kA5
  have hT := HTB.out
  have hvb := HVO.out
  obtain ⟨B2, hB2⟩ : ∃ B2 : BR, B2 = { B with ports := B.ports.set k ⟨up, x.k, false, ⟨0, 0, 0, 0, 0⟩⟩ } := ⟨_, rfl⟩
  rw [← hB2] at own6
  have HT : Hid (linkB B (k : Int) up = turned B2) := hide (by rw [hB2]; exact hT)
  have HVB : Hid (-9223372036854775808 ≤ B2.vers ∧ B2.vers ≤ 9223372036854775806) := hide (by rw [hB2]; exact hvb)
  have ecs : #[.int .i64 B.id, .string B.name, .slice (some ⟨g, 0, none⟩) n c3, .slice fa3 fn fc3, .slice ra3 rn rc3, .slice oa3 on oc3, .int .i64 B.ticks, .int .i64 B.parse, .int .i64 B.word, .int .i64 B.drops, .int .i64 B.vers] = (#[.int .i64 B2.id, .string B2.name, .slice (some ⟨g, 0, none⟩) n c3, .slice fa3 fn fc3, .slice ra3 rn rc3, .slice oa3 on oc3, .int .i64 B2.ticks, .int .i64 B2.parse, .int .i64 B2.word, .int .i64 B2.drops, .int .i64 B2.vers] : Array Value) := by rw [hB2]
  rw [ecs] at st6
  clear hB2 ecs hT hvb
  obtain ⟨y0, y1, y2, y3, y4, y5, y6, y7, y8, y9, y10⟩ := cells11 st6.box
  go_wp2_with fail
  refine (specTurned_made w.heap.size (some ⟨g, 0, none⟩) n c3 fa3 fn fc3 ra3 rn rc3 oa3 on oc3 B2 _ own6 st6.below.size (by omega) (by omega) HVB.out).mono ?_
  rintro e w9 ⟨fa9, fn9, fc9, rfl, o9, hb9⟩
  have st9 := st6.later hb9
  clear y0 y1 y2 y3 y4 y5 y6 y7 y8 y9 y10 hb9
  obtain ⟨u0, u1, u2, u3, u4, u5, u6, u7, u8, u9, u10⟩ := cells11 st9.res
  have fr := frozen8 st9.res
  have fr0 := fr 0
  have fr1 := fr 1
  have fr2 := fr 2
  have fr3 := fr 3
  have fr4 := fr 4
  have fr5 := fr 5
  have fr6 := fr 6
  have fr7 := fr 7
  have fr8 := fr 8
  have fr9 := fr 9
  have fr10 := fr 10
  have HO := hide (o9.boxed11 st9.res (.int .i64 B2.id) (.string B2.name) (.slice (some ⟨g, 0, none⟩) n c3) (.slice fa9 fn9 fc9) (.slice ra3 rn rc3) (.slice oa3 on oc3) (.int .i64 B2.ticks) (.int .i64 B2.parse) (.int .i64 B2.word) (.int .i64 B2.drops) (.int .i64 (oneMore B2.vers)))
  have HB := hide (below_set11 st9.below st9.hR (.int .i64 B2.id) (.string B2.name) (.slice (some ⟨g, 0, none⟩) n c3) (.slice fa9 fn9 fc9) (.slice ra3 rn rc3) (.slice oa3 on oc3) (.int .i64 B2.ticks) (.int .i64 B2.parse) (.int .i64 B2.word) (.int .i64 B2.drops) (.int .i64 (oneMore B2.vers)))
  clear fr st9 o9 st6 own6
  go_wp2
  exact bodyPost_ret (v := .agg #[.int .i64 B2.id, .string B2.name, .slice (some ⟨g, 0, none⟩) n c3, .slice fa9 fn9 fc9, .slice ra3 rn rc3, .slice oa3 on oc3, .int .i64 B2.ticks, .int .i64 B2.parse, .int .i64 B2.word, .int .i64 B2.drops, .int .i64 (oneMore B2.vers)]) (by simp [results, Tryz.results44, go_sem, *]) rfl ⟨_, _, _, fa9, fn9, fc9, ra3, rn, rc3, oa3, on, oc3, (by rw [HT.out]; rfl), (by rw [HT.out]; exact HO.out), HB.out⟩

end Go.Proofs.YtdmplbmfkliiiaaGreat
