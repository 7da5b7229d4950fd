/-
  A bridge behind a vector that is heard, a link that is set, a tick, the program's own.
-/
import Derived.Test.YtdmplbmfkliiiaaGreatPNBrOkI
import Derived.Test.YtdmplbmfkliiiaaGreatPNBrWithin
import Derived.Test.YtdmplbmfkliiiaaGreatPNK01
import Derived.Test.YtdmplbmfkliiiaaGreatPNK10
import Derived.Test.YtdmplbmfkliiiaaGreatPNK26
namespace Go.Proofs.YtdmplbmfkliiiaaGreat
open Go.RowKit

set_option maxRecDepth 100000 in
set_option maxHeartbeats 8000000 in
theorem implLink_made (a : Option Addr) (n c : Nat) (fa : Option Addr) (fn fc : Nat) (ra : Option Addr) (rn rc : Nat) (oa : Option Addr) (on oc : Nat) (B : BR) (port : Int) (up : Bool) (w : World) (h : BrRow w a n c fa fn fc ra rn rc oa on oc B) (hn : n ≤ 1048576) (hfn : fn ≤ 1048576) (hrn : rn ≤ 1048576) (hon : on ≤ 1048576) (hRf : ∀ x ∈ B.f, x.Rng) (hRv : ∀ r ∈ B.v.rows, r.Rng) :
  Calls Tryz.prog 69 #[.agg #[.int .i64 B.id, .string B.name, .slice a n c, .slice fa fn fc, .slice ra rn rc, .slice oa on oc, .int .i64 B.ticks, .int .i64 B.parse, .int .i64 B.word, .int .i64 B.drops, .int .i64 B.vers], .int .i64 port, .bool up] w fun e w' => ∃ (a2 : Option Addr) (n2 c2 : Nat) (fa2 : Option Addr) (fn2 fc2 : Nat) (ra2 : Option Addr) (rn2 rc2 : Nat) (oa2 : Option Addr) (on2 oc2 : Nat), e = .returned (.agg #[.int .i64 (linkB B port up).id, .string (linkB B port up).name, .slice a2 n2 c2, .slice fa2 fn2 fc2, .slice ra2 rn2 rc2, .slice oa2 on2 oc2, .int .i64 (linkB B port up).ticks, .int .i64 (linkB B port up).parse, .int .i64 (linkB B port up).word, .int .i64 (linkB B port up).drops, .int .i64 (linkB B port up).vers]) ∧ BrOwn w' w.heap.size a2 n2 c2 fa2 fn2 fc2 ra2 rn2 rc2 oa2 on2 oc2 (linkB B port up) ∧ Below w.heap.size w w' := by
 have hpl := hide h.ports.size
 have htb0 : thereB B port = (bridgeOk B && (decide (0 ≤ port) && decide (port ≤ (n : Int) - 1))) := by unfold thereB; rw [h.ports.size]
 generalize hw1 : w.alloc (Obj.cells #[.int .i64 B.id, .string B.name, .slice a n c, .slice fa fn fc, .slice ra rn rc, .slice oa on oc, .int .i64 B.ticks, .int .i64 B.parse, .int .i64 B.word, .int .i64 B.drops, .int .i64 B.vers] 71) = w1
 have b01 : Below w.heap.size w w1 := by rw [← hw1]; exact below_one _ _
 have z1 : w.heap.size < w1.heap.size := by rw [← hw1]; simp
 generalize hw2 : w1.alloc (Obj.cells #[.int .i64 0, .string ⟨#[]⟩, .slice none 0 0, .slice none 0 0, .slice none 0 0, .slice none 0 0, .int .i64 0, .int .i64 0, .int .i64 0, .int .i64 0, .int .i64 0] 71) = w2
 have b12 : Below w1.heap.size w1 w2 := by rw [← hw2]; exact below_one _ _
 have z2 : w1.heap.size < w2.heap.size := by rw [← hw2]; simp
 have b02 := gr_trans b01 b12
 have kR2 : w2.heap[w1.heap.size]? = some (.cells #[.int .i64 0, .string ⟨#[]⟩, .slice none 0 0, .slice none 0 0, .slice none 0 0, .slice none 0 0, .int .i64 0, .int .i64 0, .int .i64 0, .int .i64 0, .int .i64 0] 71) := by rw [← hw2]; exact block_last _ _
 have kA2 : w2.heap[w.heap.size]? = some (.cells #[.int .i64 B.id, .string B.name, .slice a n c, .slice fa fn fc, .slice ra rn rc, .slice oa on oc, .int .i64 B.ticks, .int .i64 B.parse, .int .i64 B.word, .int .i64 B.drops, .int .i64 B.vers] 71) := kept_block (by rw [← hw1]; exact block_last _ _) b12
 obtain ⟨x0, x1, x2, x3, x4, x5, x6, x7, x8, x9, x10⟩ := cells11 kA2
 go_enter Tryz.func69, Tryz.ntmps69
 go_wp2_with fail
 refine (implInner_made a n c fa fn fc ra rn rc oa on oc B _ (h.below b02) (by omega) (by omega) (by omega) (by omega)).mono ?_
 rintro e w3 ⟨a3, c3, fa3, fc3, ra3, rc3, oa3, oc3, rfl, o3, hb3⟩
 generalize hw4 : w3.alloc (Obj.cells #[.slice a3 n c3, .int .i64 B.id, .string B.name, .slice none 0 0, .slice fa3 fn fc3, .slice ra3 rn rc3, .slice oa3 on oc3, .int .i64 B.ticks, .int .i64 B.parse, .int .i64 B.word, .int .i64 B.drops, .int .i64 B.vers] 137) = w4
 have b34 : Below w3.heap.size w3 w4 := by rw [← hw4]; exact below_one _ _
 have d24 := gr_trans hb3 b34
 have hs23 := hb3.size
 have st4 : IbSt w w4 w1.heap.size w3.heap.size #[.int .i64 0, .string ⟨#[]⟩, .slice none 0 0, .slice none 0 0, .slice none 0 0, .slice none 0 0, .int .i64 0, .int .i64 0, .int .i64 0, .int .i64 0, .int .i64 0] #[.slice a3 n c3, .int .i64 B.id, .string B.name, .slice none 0 0, .slice fa3 fn fc3, .slice ra3 rn rc3, .slice oa3 on oc3, .int .i64 B.ticks, .int .i64 B.parse, .int .i64 B.word, .int .i64 B.drops, .int .i64 B.vers] 71 137 := ⟨by rw [← hw4]; exact block_last _ _, kept_block kR2 d24, gr_trans b02 d24, by omega, by omega, by omega⟩
 have kA4 := kept_block kA2 d24
 have own4 := (o3.lt (base' := w.heap.size) b02.size).below b34
 have nAX : ¬ w.heap.size = w3.heap.size := by omega
 have nXA : ¬ w3.heap.size = w.heap.size := by omega
 have nAR : ¬ w.heap.size = w1.heap.size := by omega
 go_upto_region 2 with fail
 try rw [hw4]
 clear x0 x1 x2 x3 x4 x5 x6 x7 x8 x9 x10 hw4 hw2 hw1  hb3 b34 o3 d24 hs23 b02 b12 b01 z1 z2 kA2 kR2 
 generalize hX : w3.heap.size = X at *
 generalize hR : w1.heap.size = R at *
 clear hX hR 
 obtain ⟨x0, x1, x2, x3, x4, x5, x6, x7, x8, x9, x10⟩ := cells11 kA4
 go_wp2_with fail
 refine (implBridgeOk_any a n c fa fn fc ra rn rc oa on oc B _ (h.below st4.below) (by omega) hRv).mono ?_
 rintro e w5 ⟨rfl, hb5⟩
 have st5 := st4.later hb5
 have own5 := own4.below hb5
 clear x0 x1 x2 x3 x4 x5 x6 x7 x8 x9 x10 hb5 st4 own4 kA4 
 cases hok : bridgeOk B
 ·have hT : linkB B port up = B := by unfold linkB; rw [htb0, hok]; rfl
  clear hok htb0
  have HT : Hid (linkB B port up = B) := hide hT
  clear hT
  obtain ⟨y0, y1, y2, y3, y4, y5, y6, y7, y8, y9, y10, y11⟩ := cells12 st5.box
  go_wp2_with fail
  refine (implFace_any a3 n c3 fa3 fn fc3 ra3 rn rc3 oa3 on oc3 B _).mono ?_
  rintro e w8 ⟨rfl, hb8⟩
  have st8 := st5.later hb8
  have own8 := own5.below hb8
  clear y0 y1 y2 y3 y4 y5 y6 y7 y8 y9 y10 y11 hb8 st5 own5
  obtain ⟨u0, u1, u2, u3, u4, u5, u6, u7, u8, u9, u10⟩ := cells11 st8.res
  have fr := frozen8 st8.res
  have fr0 := fr 0
  have fr1 := fr 1
  have fr2 := fr 2
  have fr3 := fr 3
  have fr4 := fr 4
  have fr5 := fr 5
  have fr6 := fr 6
  have fr7 := fr 7
  have fr8 := fr 8
  have fr9 := fr 9
  have fr10 := fr 10
  have HO := hide (own8.boxed11 st8.res (.int .i64 B.id) (.string B.name) (.slice a3 n c3) (.slice fa3 fn fc3) (.slice ra3 rn rc3) (.slice oa3 on oc3) (.int .i64 B.ticks) (.int .i64 B.parse) (.int .i64 B.word) (.int .i64 B.drops) (.int .i64 B.vers))
  have HB := hide (below_set11 st8.below st8.hR (.int .i64 B.id) (.string B.name) (.slice a3 n c3) (.slice fa3 fn fc3) (.slice ra3 rn rc3) (.slice oa3 on oc3) (.int .i64 B.ticks) (.int .i64 B.parse) (.int .i64 B.word) (.int .i64 B.drops) (.int .i64 B.vers))
  clear fr st8 own8
  go_wp2
  exact bodyPost_ret (v := .agg #[.int .i64 B.id, .string B.name, .slice a3 n c3, .slice fa3 fn fc3, .slice ra3 rn rc3, .slice oa3 on oc3, .int .i64 B.ticks, .int .i64 B.parse, .int .i64 B.word, .int .i64 B.drops, .int .i64 B.vers]) (by simp [results, Tryz.results69, go_sem, *]) rfl ⟨a3, n, c3, fa3, fn, fc3, ra3, rn, rc3, oa3, on, oc3, (by rw [HT.out]), (by rw [HT.out]; exact HO.out), HB.out⟩
 obtain ⟨y0, y1, y2, y3, y4, y5, y6, y7, y8, y9, y10, y11⟩ := cells12 st5.box
 cases hhas : (decide (0 ≤ port) && decide (port ≤ (n : Int) - 1))
 ·have hT : linkB B port up = B := by unfold linkB; rw [htb0, hok, hhas]; rfl
  have HH := hide hhas
  clear hok htb0 hhas
  go_wp2_with fail
  refine (implHas_any a3 n c3 port _ (by omega)).mono ?_
  rintro e w6 ⟨rfl, e6⟩
  obtain rfl := e6.symm
  rw [HH.out]
  clear y0 y1 y2 y3 y4 y5 y6 y7 y8 y9 y10 y11
  have HT : Hid (linkB B port up = B) := hide hT
  clear hT
  obtain ⟨y0, y1, y2, y3, y4, y5, y6, y7, y8, y9, y10, y11⟩ := cells12 st5.box
  go_wp2_with fail
  refine (implFace_any a3 n c3 fa3 fn fc3 ra3 rn rc3 oa3 on oc3 B _).mono ?_
  rintro e w8 ⟨rfl, hb8⟩
  have st8 := st5.later hb8
  have own8 := own5.below hb8
  clear y0 y1 y2 y3 y4 y5 y6 y7 y8 y9 y10 y11 hb8 st5 own5
  obtain ⟨u0, u1, u2, u3, u4, u5, u6, u7, u8, u9, u10⟩ := cells11 st8.res
  have fr := frozen8 st8.res
  have fr0 := fr 0
  have fr1 := fr 1
  have fr2 := fr 2
  have fr3 := fr 3
  have fr4 := fr 4
  have fr5 := fr 5
  have fr6 := fr 6
  have fr7 := fr 7
  have fr8 := fr 8
  have fr9 := fr 9
  have fr10 := fr 10
  have HO := hide (own8.boxed11 st8.res (.int .i64 B.id) (.string B.name) (.slice a3 n c3) (.slice fa3 fn fc3) (.slice ra3 rn rc3) (.slice oa3 on oc3) (.int .i64 B.ticks) (.int .i64 B.parse) (.int .i64 B.word) (.int .i64 B.drops) (.int .i64 B.vers))
  have HB := hide (below_set11 st8.below st8.hR (.int .i64 B.id) (.string B.name) (.slice a3 n c3) (.slice fa3 fn fc3) (.slice ra3 rn rc3) (.slice oa3 on oc3) (.int .i64 B.ticks) (.int .i64 B.parse) (.int .i64 B.word) (.int .i64 B.drops) (.int .i64 B.vers))
  clear fr st8 own8
  go_wp2
  exact bodyPost_ret (v := .agg #[.int .i64 B.id, .string B.name, .slice a3 n c3, .slice fa3 fn fc3, .slice ra3 rn rc3, .slice oa3 on oc3, .int .i64 B.ticks, .int .i64 B.parse, .int .i64 B.word, .int .i64 B.drops, .int .i64 B.vers]) (by simp [results, Tryz.results69, go_sem, *]) rfl ⟨a3, n, c3, fa3, fn, fc3, ra3, rn, rc3, oa3, on, oc3, (by rw [HT.out]), (by rw [HT.out]; exact HO.out), HB.out⟩
 have htb : thereB B port = true := by rw [htb0, hok, hhas]; rfl
 obtain ⟨k, rfl, hk1, x, hx⟩ := there_at h.ports.size htb
 obtain ⟨hb6, hv0, hv1, ht0, ht1⟩ := ok_bounds hok
 rw [hpl.out] at hb6
 have hT : linkB B (k : Int) up = turned { B with ports := B.ports.set k ⟨up, x.k, false, ⟨0, 0, 0, 0, 0⟩⟩ } := by unfold linkB; rw [htb, Int.toNat_natCast, hx]; rfl
 have HTB := hide hT
 have HH := hide hhas
 clear htb hT hok htb0 hhas
 go_wp2_with fail
 refine (implHas_any a3 n c3 (k : Int) _ (by omega)).mono ?_
 rintro e w6 ⟨rfl, e6⟩
 obtain rfl := e6.symm
 rw [HH.out]
 clear y0 y1 y2 y3 y4 y5 y6 y7 y8 y9 y10 y11
 obtain ⟨g, hga⟩ := own_some own5.ports (show 0 < n by omega)
 cases hga
 have hgw : w.heap.size ≤ g := (own5.ports.lt g rfl).1
 obtain ⟨y0, y1, y2, y3, y4, y5, y6, y7, y8, y9, y10, y11⟩ := cells12 st5.box
 go_wp2_with fail
 refine (implLink_at w.heap.size g n c3 k B.ports x up _ own5.ports hx hk1).mono ?_
 rintro e w6 ⟨rfl, hp6, hg6⟩
 have b56 : Below w.heap.size w5 w6 := (Below.refl _ w5).grown hg6 st5.below.size (fun i e => by cases e; exact hgw)
 have st6 := st5.grown own5.ports (by decide) (by decide) hg6 b56
 have own6 := own5.newPorts hg6 hp6
 clear y0 y1 y2 y3 y4 y5 y6 y7 y8 y9 y10 y11 hp6 hg6 b56 st5 own5 
 have hT := HTB.out
 have hvb : 0 ≤ B.vers ∧ B.vers ≤ 1000000 := ⟨hv0, hv1⟩
 have hrf := hRf
 obtain ⟨B2, hB2⟩ : ∃ B2 : BR, B2 = { B with ports := B.ports.set k ⟨up, x.k, false, ⟨0, 0, 0, 0, 0⟩⟩ } := ⟨_, rfl⟩
 rw [← hB2] at own6
 have HT : Hid (linkB B (k : Int) up = turned B2) := hide (by rw [hB2]; exact hT)
 have HVB : Hid (0 ≤ B2.vers ∧ B2.vers ≤ 1000000) := hide (by rw [hB2]; exact hvb)
 have HRF : Hid (∀ x ∈ B2.f, x.Rng) := hide (by rw [hB2]; exact hrf)
 have ecs : #[.slice (some ⟨g, 0, none⟩) n c3, .int .i64 B.id, .string B.name, .slice none 0 0, .slice fa3 fn fc3, .slice ra3 rn rc3, .slice oa3 on oc3, .int .i64 B.ticks, .int .i64 B.parse, .int .i64 B.word, .int .i64 B.drops, .int .i64 B.vers] = (#[.slice (some ⟨g, 0, none⟩) n c3, .int .i64 B2.id, .string B2.name, .slice none 0 0, .slice fa3 fn fc3, .slice ra3 rn rc3, .slice oa3 on oc3, .int .i64 B2.ticks, .int .i64 B2.parse, .int .i64 B2.word, .int .i64 B2.drops, .int .i64 B2.vers] : Array Value) := by rw [hB2]
 rw [ecs] at st6
 clear hB2 ecs hT hvb hrf
 obtain ⟨y0, y1, y2, y3, y4, y5, y6, y7, y8, y9, y10, y11⟩ := cells12 st6.box
 go_wp2_with fail
 refine (implTurned_made w.heap.size (some ⟨g, 0, none⟩) n c3 fa3 fn fc3 ra3 rn rc3 oa3 on oc3 B2 _ own6 st6.below.size (by omega) (by omega) HVB.out HRF.out).mono ?_
 rintro e w9 ⟨fa9, fn9, fc9, rfl, o9, hb9⟩
 have st9 := st6.later hb9
 clear y0 y1 y2 y3 y4 y5 y6 y7 y8 y9 y10 y11 hb9
 obtain ⟨u0, u1, u2, u3, u4, u5, u6, u7, u8, u9, u10⟩ := cells11 st9.res
 have fr := frozen8 st9.res
 have fr0 := fr 0
 have fr1 := fr 1
 have fr2 := fr 2
 have fr3 := fr 3
 have fr4 := fr 4
 have fr5 := fr 5
 have fr6 := fr 6
 have fr7 := fr 7
 have fr8 := fr 8
 have fr9 := fr 9
 have fr10 := fr 10
 have HO := hide (o9.boxed11 st9.res (.int .i64 B2.id) (.string B2.name) (.slice (some ⟨g, 0, none⟩) n c3) (.slice fa9 fn9 fc9) (.slice ra3 rn rc3) (.slice oa3 on oc3) (.int .i64 B2.ticks) (.int .i64 B2.parse) (.int .i64 B2.word) (.int .i64 B2.drops) (.int .i64 (oneMore B2.vers)))
 have HB := hide (below_set11 st9.below st9.hR (.int .i64 B2.id) (.string B2.name) (.slice (some ⟨g, 0, none⟩) n c3) (.slice fa9 fn9 fc9) (.slice ra3 rn rc3) (.slice oa3 on oc3) (.int .i64 B2.ticks) (.int .i64 B2.parse) (.int .i64 B2.word) (.int .i64 B2.drops) (.int .i64 (oneMore B2.vers)))
 clear fr st9 o9 st6 own6
 go_wp2
 exact bodyPost_ret (v := .agg #[.int .i64 B2.id, .string B2.name, .slice (some ⟨g, 0, none⟩) n c3, .slice fa9 fn9 fc9, .slice ra3 rn rc3, .slice oa3 on oc3, .int .i64 B2.ticks, .int .i64 B2.parse, .int .i64 B2.word, .int .i64 B2.drops, .int .i64 (oneMore B2.vers)]) (by simp [results, Tryz.results69, go_sem, *]) rfl ⟨_, _, _, fa9, fn9, fc9, ra3, rn, rc3, oa3, on, oc3, (by rw [HT.out]; rfl), (by rw [HT.out]; exact HO.out), HB.out⟩

end Go.Proofs.YtdmplbmfkliiiaaGreat
