/-
  A bridge behind a vector that is heard, a link that is set, a tick, the program's own.
-/
import Derived.Test.YtpgdahenmpkcnaaGreatPABrOkI
import Derived.Test.YtpgdahenmpkcnaaGreatPABrWithin
import Derived.Test.YtpgdahenmpkcnaaGreatPAK01
import Derived.Test.YtpgdahenmpkcnaaGreatPAK11
import Derived.Test.YtpgdahenmpkcnaaGreatPAK26
namespace Go.Proofs.YtpgdahenmpkcnaaGreat
open Go.RowKit

set_option maxRecDepth 100000 in
set_option maxHeartbeats 8000000 in
theorem implHear_made (a : Option Addr) (n c : Nat) (fa : Option Addr) (fn fc : Nat) (ra : Option Addr) (rn rc : Nat) (oa : Option Addr) (on oc : Nat) (B : BR) (port : Int) (v : VD) (w : World) (h : BrRow w a n c fa fn fc ra rn rc oa on oc B) (hn : n ≤ 1048576) (hfn : fn ≤ 1048576) (hrn : rn ≤ 1048576) (hon : on ≤ 1048576) (hRf : ∀ x ∈ B.f, x.Rng) (hRv : ∀ r ∈ B.v.rows, r.Rng) :
  Calls Tryz.prog 105 #[.agg #[.int .i64 B.id, .string B.name, .slice a n c, .slice fa fn fc, .slice ra rn rc, .slice oa on oc, .int .i64 B.ticks, .int .i64 B.parse, .int .i64 B.word, .int .i64 B.drops, .int .i64 B.vers], .int .i64 port, .agg #[.int .i64 v.r, .int .i64 v.c, .int .i64 v.h, .int .i64 v.b, .int .i64 v.p]] w fun e w' => ∃ (a2 : Option Addr) (n2 c2 : Nat) (fa2 : Option Addr) (fn2 fc2 : Nat) (ra2 : Option Addr) (rn2 rc2 : Nat) (oa2 : Option Addr) (on2 oc2 : Nat), e = .returned (.agg #[.int .i64 (hearB B port v).id, .string (hearB B port v).name, .slice a2 n2 c2, .slice fa2 fn2 fc2, .slice ra2 rn2 rc2, .slice oa2 on2 oc2, .int .i64 (hearB B port v).ticks, .int .i64 (hearB B port v).parse, .int .i64 (hearB B port v).word, .int .i64 (hearB B port v).drops, .int .i64 (hearB B port v).vers]) ∧ BrOwn w' w.heap.size a2 n2 c2 fa2 fn2 fc2 ra2 rn2 rc2 oa2 on2 oc2 (hearB B port v) ∧ Below w.heap.size w w' := by
 have hpl := hide h.ports.size
 have htb0 : thereB B port = (bridgeOk B && (decide (0 ≤ port) && decide (port ≤ (n : Int) - 1))) := by unfold thereB; rw [h.ports.size]
 generalize hw1 : w.alloc (Obj.cells #[.int .i64 B.id, .string B.name, .slice a n c, .slice fa fn fc, .slice ra rn rc, .slice oa on oc, .int .i64 B.ticks, .int .i64 B.parse, .int .i64 B.word, .int .i64 B.drops, .int .i64 B.vers] 67) = w1
 have b01 : Below w.heap.size w w1 := by rw [← hw1]; exact below_one _ _
 have z1 : w.heap.size < w1.heap.size := by rw [← hw1]; simp
 generalize hwv : w1.alloc (Obj.cells #[.int .i64 v.r, .int .i64 v.c, .int .i64 v.h, .int .i64 v.b, .int .i64 v.p] 95) = wv
 have b1v : Below w1.heap.size w1 wv := by rw [← hwv]; exact below_one _ _
 have zv : w1.heap.size < wv.heap.size := by rw [← hwv]; simp
 have b01v := gr_trans b01 b1v
 generalize hw2 : wv.alloc (Obj.cells #[.int .i64 0, .string ⟨#[]⟩, .slice none 0 0, .slice none 0 0, .slice none 0 0, .slice none 0 0, .int .i64 0, .int .i64 0, .int .i64 0, .int .i64 0, .int .i64 0] 67) = w2
 have b12 : Below wv.heap.size wv w2 := by rw [← hw2]; exact below_one _ _
 have z2 : wv.heap.size < w2.heap.size := by rw [← hw2]; simp
 have b02 := gr_trans b01v b12
 have kR2 : w2.heap[wv.heap.size]? = some (.cells #[.int .i64 0, .string ⟨#[]⟩, .slice none 0 0, .slice none 0 0, .slice none 0 0, .slice none 0 0, .int .i64 0, .int .i64 0, .int .i64 0, .int .i64 0, .int .i64 0] 67) := by rw [← hw2]; exact block_last _ _
 have kA2 : w2.heap[w.heap.size]? = some (.cells #[.int .i64 B.id, .string B.name, .slice a n c, .slice fa fn fc, .slice ra rn rc, .slice oa on oc, .int .i64 B.ticks, .int .i64 B.parse, .int .i64 B.word, .int .i64 B.drops, .int .i64 B.vers] 67) := kept_block (kept_block (by rw [← hw1]; exact block_last _ _) b1v) b12
 have kV2 : w2.heap[w1.heap.size]? = some (Obj.cells #[.int .i64 v.r, .int .i64 v.c, .int .i64 v.h, .int .i64 v.b, .int .i64 v.p] 95) := kept_block (by rw [← hwv]; exact block_last _ _) b12
 obtain ⟨x0, x1, x2, x3, x4, x5, x6, x7, x8, x9, x10⟩ := cells11 kA2
 go_enter Tryz.func105, Tryz.ntmps105
 go_wp2_with fail
 refine (implInner_made a n c fa fn fc ra rn rc oa on oc B _ (h.below b02) (by omega) (by omega) (by omega) (by omega)).mono ?_
 rintro e w3 ⟨a3, c3, fa3, fc3, ra3, rc3, oa3, oc3, rfl, o3, hb3⟩
 generalize hw4 : w3.alloc (Obj.cells #[.slice a3 n c3, .int .i64 B.id, .string B.name, .slice none 0 0, .slice fa3 fn fc3, .slice ra3 rn rc3, .slice oa3 on oc3, .int .i64 B.ticks, .int .i64 B.parse, .int .i64 B.word, .int .i64 B.drops, .int .i64 B.vers] 130) = w4
 have b34 : Below w3.heap.size w3 w4 := by rw [← hw4]; exact below_one _ _
 have d24 := gr_trans hb3 b34
 have hs23 := hb3.size
 have st4 : IbSt w w4 wv.heap.size w3.heap.size #[.int .i64 0, .string ⟨#[]⟩, .slice none 0 0, .slice none 0 0, .slice none 0 0, .slice none 0 0, .int .i64 0, .int .i64 0, .int .i64 0, .int .i64 0, .int .i64 0] #[.slice a3 n c3, .int .i64 B.id, .string B.name, .slice none 0 0, .slice fa3 fn fc3, .slice ra3 rn rc3, .slice oa3 on oc3, .int .i64 B.ticks, .int .i64 B.parse, .int .i64 B.word, .int .i64 B.drops, .int .i64 B.vers] 67 130 := ⟨by rw [← hw4]; exact block_last _ _, kept_block kR2 d24, gr_trans b02 d24, by omega, by omega, by omega⟩
 have kA4 := kept_block kA2 d24
 have kV4 := kept_block kV2 d24
 have own4 := (o3.lt (base' := w.heap.size) b02.size).below b34
 have nAX : ¬ w.heap.size = w3.heap.size := by omega
 have nXA : ¬ w3.heap.size = w.heap.size := by omega
 have nAR : ¬ w.heap.size = wv.heap.size := by omega
 go_upto_region 2 with fail
 try rw [hw4]
 clear x0 x1 x2 x3 x4 x5 x6 x7 x8 x9 x10 hw4 hw2 hw1 hwv hb3 b34 o3 d24 hs23 b02 b12 b01 z1 z2 kA2 kR2 kV2 zv b1v b01v
 generalize hX : w3.heap.size = X at *
 generalize hR : wv.heap.size = R at *
 generalize hVb : w1.heap.size = Vb at *
 clear hX hR hVb
 obtain ⟨x0, x1, x2, x3, x4, x5, x6, x7, x8, x9, x10⟩ := cells11 kA4
 go_wp2_with fail
 refine (implBridgeOk_any a n c fa fn fc ra rn rc oa on oc B _ (h.below st4.below) (by omega) hRv).mono ?_
 rintro e w5 ⟨rfl, hb5⟩
 have st5 := st4.later hb5
 have own5 := own4.below hb5
 have kV5 := kept_block kV4 hb5
 clear x0 x1 x2 x3 x4 x5 x6 x7 x8 x9 x10 hb5 st4 own4 kA4 kV4
 cases hok : bridgeOk B
 ·have hT : hearB B port v = B := by unfold hearB; rw [htb0, hok]; rfl
  clear hok htb0
  have HT : Hid (hearB B port v = B) := hide hT
  clear hT
  obtain ⟨y0, y1, y2, y3, y4, y5, y6, y7, y8, y9, y10, y11⟩ := cells12 st5.box
  go_wp2_with fail
  refine (implFace_any a3 n c3 fa3 fn fc3 ra3 rn rc3 oa3 on oc3 B _).mono ?_
  rintro e w8 ⟨rfl, hb8⟩
  have st8 := st5.later hb8
  have own8 := own5.below hb8
  clear y0 y1 y2 y3 y4 y5 y6 y7 y8 y9 y10 y11 hb8 st5 own5
  obtain ⟨u0, u1, u2, u3, u4, u5, u6, u7, u8, u9, u10⟩ := cells11 st8.res
  have fr := frozen8 st8.res
  have fr0 := fr 0
  have fr1 := fr 1
  have fr2 := fr 2
  have fr3 := fr 3
  have fr4 := fr 4
  have fr5 := fr 5
  have fr6 := fr 6
  have fr7 := fr 7
  have fr8 := fr 8
  have fr9 := fr 9
  have fr10 := fr 10
  have HO := hide (own8.boxed11 st8.res (.int .i64 B.id) (.string B.name) (.slice a3 n c3) (.slice fa3 fn fc3) (.slice ra3 rn rc3) (.slice oa3 on oc3) (.int .i64 B.ticks) (.int .i64 B.parse) (.int .i64 B.word) (.int .i64 B.drops) (.int .i64 B.vers))
  have HB := hide (below_set11 st8.below st8.hR (.int .i64 B.id) (.string B.name) (.slice a3 n c3) (.slice fa3 fn fc3) (.slice ra3 rn rc3) (.slice oa3 on oc3) (.int .i64 B.ticks) (.int .i64 B.parse) (.int .i64 B.word) (.int .i64 B.drops) (.int .i64 B.vers))
  clear fr st8 own8
  go_wp2
  exact bodyPost_ret (v := .agg #[.int .i64 B.id, .string B.name, .slice a3 n c3, .slice fa3 fn fc3, .slice ra3 rn rc3, .slice oa3 on oc3, .int .i64 B.ticks, .int .i64 B.parse, .int .i64 B.word, .int .i64 B.drops, .int .i64 B.vers]) (by simp [results, Tryz.results105, go_sem, *]) rfl ⟨a3, n, c3, fa3, fn, fc3, ra3, rn, rc3, oa3, on, oc3, (by rw [HT.out]), (by rw [HT.out]; exact HO.out), HB.out⟩
 obtain ⟨y0, y1, y2, y3, y4, y5, y6, y7, y8, y9, y10, y11⟩ := cells12 st5.box
 cases hhas : (decide (0 ≤ port) && decide (port ≤ (n : Int) - 1))
 ·have hT : hearB B port v = B := by unfold hearB; rw [htb0, hok, hhas]; rfl
  have HH := hide hhas
  clear hok htb0 hhas
  go_wp2_with fail
  refine (implIsUp_no a3 n c3 port _ (by omega) HH.out).mono ?_
  rintro e w6 ⟨rfl, e6⟩
  obtain rfl := e6.symm
  clear y0 y1 y2 y3 y4 y5 y6 y7 y8 y9 y10 y11
  have HT : Hid (hearB B port v = B) := hide hT
  clear hT
  obtain ⟨y0, y1, y2, y3, y4, y5, y6, y7, y8, y9, y10, y11⟩ := cells12 st5.box
  go_wp2_with fail
  refine (implFace_any a3 n c3 fa3 fn fc3 ra3 rn rc3 oa3 on oc3 B _).mono ?_
  rintro e w8 ⟨rfl, hb8⟩
  have st8 := st5.later hb8
  have own8 := own5.below hb8
  clear y0 y1 y2 y3 y4 y5 y6 y7 y8 y9 y10 y11 hb8 st5 own5
  obtain ⟨u0, u1, u2, u3, u4, u5, u6, u7, u8, u9, u10⟩ := cells11 st8.res
  have fr := frozen8 st8.res
  have fr0 := fr 0
  have fr1 := fr 1
  have fr2 := fr 2
  have fr3 := fr 3
  have fr4 := fr 4
  have fr5 := fr 5
  have fr6 := fr 6
  have fr7 := fr 7
  have fr8 := fr 8
  have fr9 := fr 9
  have fr10 := fr 10
  have HO := hide (own8.boxed11 st8.res (.int .i64 B.id) (.string B.name) (.slice a3 n c3) (.slice fa3 fn fc3) (.slice ra3 rn rc3) (.slice oa3 on oc3) (.int .i64 B.ticks) (.int .i64 B.parse) (.int .i64 B.word) (.int .i64 B.drops) (.int .i64 B.vers))
  have HB := hide (below_set11 st8.below st8.hR (.int .i64 B.id) (.string B.name) (.slice a3 n c3) (.slice fa3 fn fc3) (.slice ra3 rn rc3) (.slice oa3 on oc3) (.int .i64 B.ticks) (.int .i64 B.parse) (.int .i64 B.word) (.int .i64 B.drops) (.int .i64 B.vers))
  clear fr st8 own8
  go_wp2
  exact bodyPost_ret (v := .agg #[.int .i64 B.id, .string B.name, .slice a3 n c3, .slice fa3 fn fc3, .slice ra3 rn rc3, .slice oa3 on oc3, .int .i64 B.ticks, .int .i64 B.parse, .int .i64 B.word, .int .i64 B.drops, .int .i64 B.vers]) (by simp [results, Tryz.results105, go_sem, *]) rfl ⟨a3, n, c3, fa3, fn, fc3, ra3, rn, rc3, oa3, on, oc3, (by rw [HT.out]), (by rw [HT.out]; exact HO.out), HB.out⟩
 have htb : thereB B port = true := by rw [htb0, hok, hhas]; rfl
 obtain ⟨k, rfl, hk1, x, hx⟩ := there_at h.ports.size htb
 obtain ⟨hb6, hv0, hv1, ht0, ht1⟩ := ok_bounds hok
 rw [hpl.out] at hb6
 have hTT : hearB B (k : Int) v = if (x.up && okVd v) = true then turned { B with ports := B.ports.set k ⟨x.up, x.k, true, v⟩ } else B := by unfold hearB; rw [htb, Int.toNat_natCast, hx]; rfl
 have HTT := hide hTT
 clear htb hTT hok htb0 hhas
 go_wp2_with fail
 refine (implIsUp_yes a3 n c3 k B.ports x _ (grow_own (F := ptF) own5.ports) (by omega) hk1 hx).mono ?_
 rintro e w6 ⟨rfl, e6⟩
 obtain rfl := e6.symm
 clear y0 y1 y2 y3 y4 y5 y6 y7 y8 y9 y10 y11
 cases hup : x.up
 ·have hT : hearB B (k : Int) v = B := by rw [HTT.out, hup]; rfl
  clear hup
  have HT : Hid (hearB B (k : Int) v = B) := hide hT
  clear hT
  obtain ⟨y0, y1, y2, y3, y4, y5, y6, y7, y8, y9, y10, y11⟩ := cells12 st5.box
  go_wp2_with fail
  refine (implFace_any a3 n c3 fa3 fn fc3 ra3 rn rc3 oa3 on oc3 B _).mono ?_
  rintro e w8 ⟨rfl, hb8⟩
  have st8 := st5.later hb8
  have own8 := own5.below hb8
  clear y0 y1 y2 y3 y4 y5 y6 y7 y8 y9 y10 y11 hb8 st5 own5
  obtain ⟨u0, u1, u2, u3, u4, u5, u6, u7, u8, u9, u10⟩ := cells11 st8.res
  have fr := frozen8 st8.res
  have fr0 := fr 0
  have fr1 := fr 1
  have fr2 := fr 2
  have fr3 := fr 3
  have fr4 := fr 4
  have fr5 := fr 5
  have fr6 := fr 6
  have fr7 := fr 7
  have fr8 := fr 8
  have fr9 := fr 9
  have fr10 := fr 10
  have HO := hide (own8.boxed11 st8.res (.int .i64 B.id) (.string B.name) (.slice a3 n c3) (.slice fa3 fn fc3) (.slice ra3 rn rc3) (.slice oa3 on oc3) (.int .i64 B.ticks) (.int .i64 B.parse) (.int .i64 B.word) (.int .i64 B.drops) (.int .i64 B.vers))
  have HB := hide (below_set11 st8.below st8.hR (.int .i64 B.id) (.string B.name) (.slice a3 n c3) (.slice fa3 fn fc3) (.slice ra3 rn rc3) (.slice oa3 on oc3) (.int .i64 B.ticks) (.int .i64 B.parse) (.int .i64 B.word) (.int .i64 B.drops) (.int .i64 B.vers))
  clear fr st8 own8
  go_wp2
  exact bodyPost_ret (v := .agg #[.int .i64 B.id, .string B.name, .slice a3 n c3, .slice fa3 fn fc3, .slice ra3 rn rc3, .slice oa3 on oc3, .int .i64 B.ticks, .int .i64 B.parse, .int .i64 B.word, .int .i64 B.drops, .int .i64 B.vers]) (by simp [results, Tryz.results105, go_sem, *]) rfl ⟨a3, n, c3, fa3, fn, fc3, ra3, rn, rc3, oa3, on, oc3, (by rw [HT.out]), (by rw [HT.out]; exact HO.out), HB.out⟩
 obtain ⟨⟨v0, v1, v2, v3, v4⟩, -⟩ := cells5 kV5
 go_wp2_with fail
 refine (implVecOk_any v.r v.c v.h v.b v.p _).mono ?_
 rintro e w5b ⟨rfl, hb5b⟩
 have st5 := st5.later hb5b
 have own5 := own5.below hb5b
 have kV5 := kept_block kV5 hb5b
 clear v0 v1 v2 v3 v4 hb5b
 cases hvk : okVc v.r v.c v.h v.b v.p
 ·have hT : hearB B (k : Int) v = B := by rw [HTT.out, show okVd v = false from hvk, Bool.and_false]; rfl
  clear hvk
  have HT : Hid (hearB B (k : Int) v = B) := hide hT
  clear hT
  obtain ⟨y0, y1, y2, y3, y4, y5, y6, y7, y8, y9, y10, y11⟩ := cells12 st5.box
  go_wp2_with fail
  refine (implFace_any a3 n c3 fa3 fn fc3 ra3 rn rc3 oa3 on oc3 B _).mono ?_
  rintro e w8 ⟨rfl, hb8⟩
  have st8 := st5.later hb8
  have own8 := own5.below hb8
  clear y0 y1 y2 y3 y4 y5 y6 y7 y8 y9 y10 y11 hb8 st5 own5
  obtain ⟨u0, u1, u2, u3, u4, u5, u6, u7, u8, u9, u10⟩ := cells11 st8.res
  have fr := frozen8 st8.res
  have fr0 := fr 0
  have fr1 := fr 1
  have fr2 := fr 2
  have fr3 := fr 3
  have fr4 := fr 4
  have fr5 := fr 5
  have fr6 := fr 6
  have fr7 := fr 7
  have fr8 := fr 8
  have fr9 := fr 9
  have fr10 := fr 10
  have HO := hide (own8.boxed11 st8.res (.int .i64 B.id) (.string B.name) (.slice a3 n c3) (.slice fa3 fn fc3) (.slice ra3 rn rc3) (.slice oa3 on oc3) (.int .i64 B.ticks) (.int .i64 B.parse) (.int .i64 B.word) (.int .i64 B.drops) (.int .i64 B.vers))
  have HB := hide (below_set11 st8.below st8.hR (.int .i64 B.id) (.string B.name) (.slice a3 n c3) (.slice fa3 fn fc3) (.slice ra3 rn rc3) (.slice oa3 on oc3) (.int .i64 B.ticks) (.int .i64 B.parse) (.int .i64 B.word) (.int .i64 B.drops) (.int .i64 B.vers))
  clear fr st8 own8
  go_wp2
  exact bodyPost_ret (v := .agg #[.int .i64 B.id, .string B.name, .slice a3 n c3, .slice fa3 fn fc3, .slice ra3 rn rc3, .slice oa3 on oc3, .int .i64 B.ticks, .int .i64 B.parse, .int .i64 B.word, .int .i64 B.drops, .int .i64 B.vers]) (by simp [results, Tryz.results105, go_sem, *]) rfl ⟨a3, n, c3, fa3, fn, fc3, ra3, rn, rc3, oa3, on, oc3, (by rw [HT.out]), (by rw [HT.out]; exact HO.out), HB.out⟩
 have hT : hearB B (k : Int) v = turned { B with ports := B.ports.set k ⟨x.up, x.k, true, v⟩ } := by rw [HTT.out, show okVd v = true from hvk, hup]; rfl
 have HTB := hide hT
 have HUP := hide hup
 clear hT hvk hup
 obtain ⟨w5, hw5e⟩ : ∃ y, y = w5b := ⟨_, rfl⟩
 subst hw5e
 obtain ⟨g, hga⟩ := own_some own5.ports (show 0 < n by omega)
 cases hga
 have hgw : w.heap.size ≤ g := (own5.ports.lt g rfl).1
 obtain ⟨y0, y1, y2, y3, y4, y5, y6, y7, y8, y9, y10, y11⟩ := cells12 st5.box
 obtain ⟨⟨v0, v1, v2, v3, v4⟩, -⟩ := cells5 kV5
 go_wp2_with fail
 refine (implHear_at w.heap.size g n c3 k B.ports x v _ own5.ports hx hk1).mono ?_
 rintro e w6 ⟨rfl, hp6, hg6⟩
 have b56 : Below w.heap.size w5 w6 := (Below.refl _ w5).grown hg6 st5.below.size (fun i e => by cases e; exact hgw)
 have st6 := st5.grown own5.ports (by decide) (by decide) hg6 b56
 have own6 := own5.newPorts hg6 hp6
 clear y0 y1 y2 y3 y4 y5 y6 y7 y8 y9 y10 y11 hp6 hg6 b56 st5 own5 kV5 v0 v1 v2 v3 v4
 have hT := HTB.out
 have hvb : 0 ≤ B.vers ∧ B.vers ≤ 1000000 := ⟨hv0, hv1⟩
 have hrf := hRf
 obtain ⟨B2, hB2⟩ : ∃ B2 : BR, B2 = { B with ports := B.ports.set k ⟨x.up, x.k, true, v⟩ } := ⟨_, rfl⟩
 rw [← hB2] at own6
 have HT : Hid (hearB B (k : Int) v = turned B2) := hide (by rw [hB2]; exact hT)
 have HVB : Hid (0 ≤ B2.vers ∧ B2.vers ≤ 1000000) := hide (by rw [hB2]; exact hvb)
 have HRF : Hid (∀ x ∈ B2.f, x.Rng) := hide (by rw [hB2]; exact hrf)
 have ecs : #[.slice (some ⟨g, 0, none⟩) n c3, .int .i64 B.id, .string B.name, .slice none 0 0, .slice fa3 fn fc3, .slice ra3 rn rc3, .slice oa3 on oc3, .int .i64 B.ticks, .int .i64 B.parse, .int .i64 B.word, .int .i64 B.drops, .int .i64 B.vers] = (#[.slice (some ⟨g, 0, none⟩) n c3, .int .i64 B2.id, .string B2.name, .slice none 0 0, .slice fa3 fn fc3, .slice ra3 rn rc3, .slice oa3 on oc3, .int .i64 B2.ticks, .int .i64 B2.parse, .int .i64 B2.word, .int .i64 B2.drops, .int .i64 B2.vers] : Array Value) := by rw [hB2]
 rw [ecs] at st6
 clear hB2 ecs hT hvb hrf
 obtain ⟨y0, y1, y2, y3, y4, y5, y6, y7, y8, y9, y10, y11⟩ := cells12 st6.box
 go_wp2_with fail
 refine (implTurned_made w.heap.size (some ⟨g, 0, none⟩) n c3 fa3 fn fc3 ra3 rn rc3 oa3 on oc3 B2 _ own6 st6.below.size (by omega) (by omega) HVB.out HRF.out).mono ?_
 rintro e w9 ⟨fa9, fn9, fc9, rfl, o9, hb9⟩
 have st9 := st6.later hb9
 clear y0 y1 y2 y3 y4 y5 y6 y7 y8 y9 y10 y11 hb9
 obtain ⟨u0, u1, u2, u3, u4, u5, u6, u7, u8, u9, u10⟩ := cells11 st9.res
 have fr := frozen8 st9.res
 have fr0 := fr 0
 have fr1 := fr 1
 have fr2 := fr 2
 have fr3 := fr 3
 have fr4 := fr 4
 have fr5 := fr 5
 have fr6 := fr 6
 have fr7 := fr 7
 have fr8 := fr 8
 have fr9 := fr 9
 have fr10 := fr 10
 have HO := hide (o9.boxed11 st9.res (.int .i64 B2.id) (.string B2.name) (.slice (some ⟨g, 0, none⟩) n c3) (.slice fa9 fn9 fc9) (.slice ra3 rn rc3) (.slice oa3 on oc3) (.int .i64 B2.ticks) (.int .i64 B2.parse) (.int .i64 B2.word) (.int .i64 B2.drops) (.int .i64 (oneMore B2.vers)))
 have HB := hide (below_set11 st9.below st9.hR (.int .i64 B2.id) (.string B2.name) (.slice (some ⟨g, 0, none⟩) n c3) (.slice fa9 fn9 fc9) (.slice ra3 rn rc3) (.slice oa3 on oc3) (.int .i64 B2.ticks) (.int .i64 B2.parse) (.int .i64 B2.word) (.int .i64 B2.drops) (.int .i64 (oneMore B2.vers)))
 clear fr st9 o9 st6 own6
 go_wp2
 exact bodyPost_ret (v := .agg #[.int .i64 B2.id, .string B2.name, .slice (some ⟨g, 0, none⟩) n c3, .slice fa9 fn9 fc9, .slice ra3 rn rc3, .slice oa3 on oc3, .int .i64 B2.ticks, .int .i64 B2.parse, .int .i64 B2.word, .int .i64 B2.drops, .int .i64 (oneMore B2.vers)]) (by simp [results, Tryz.results105, go_sem, *]) rfl ⟨_, _, _, fa9, fn9, fc9, ra3, rn, rc3, oa3, on, oc3, (by rw [HT.out]; rfl), (by rw [HT.out]; exact HO.out), HB.out⟩

end Go.Proofs.YtpgdahenmpkcnaaGreat
