/-
  A bridge behind a vector that is heard, a link that is set, a tick, the program's own.
-/
import Derived.Test.YtfefhilolhdonabGreatPTBrInner3
import Derived.Test.YtfefhilolhdonabGreatPTBrOkI
import Derived.Test.YtfefhilolhdonabGreatPTBrWithin
import Derived.Test.YtfefhilolhdonabGreatPTK01
import Derived.Test.YtfefhilolhdonabGreatPTK11
namespace Go.Proofs.YtfefhilolhdonabGreat
open Go.RowKit

theorem age_rng {l : List FE} (h : ∀ x ∈ l, x.Rng) : ∀ x ∈ ageF l, x.Rng := by
 intro x hx
 unfold ageF at hx
 obtain ⟨y, hy, hyx⟩ := List.mem_filterMap.1 hx
 obtain ⟨e1, e2, e3, -, e5⟩ := ageE_some hyx
 have hr := h y hy
 unfold FE.Rng at hr ⊢
 rcases e5 with ⟨-, e6⟩ | ⟨-, e6, e7⟩
 ·rw [e1, e2, e3, e6]
  exact hr
 ·rw [e1, e2, e3, e7]
  omega

set_option maxRecDepth 100000 in
set_option maxHeartbeats 8000000 in
theorem implTick_made (a : Option Addr) (n c : Nat) (fa : Option Addr) (fn fc : Nat) (ra : Option Addr) (rn rc : Nat) (oa : Option Addr) (on oc : Nat) (B : BR) (w : World) (h : BrRow w a n c fa fn fc ra rn rc oa on oc B) (hn : n ≤ 1048576) (hfn : fn ≤ 1048576) (hrn : rn ≤ 1048576) (hon : on ≤ 1048576) (hRf : ∀ x ∈ B.f, x.Rng) (hRv : ∀ r ∈ B.v.rows, r.Rng) :
  Calls Tryz.prog 7 #[.agg #[.int .i64 B.id, .string B.name, .slice a n c, .slice fa fn fc, .slice ra rn rc, .slice oa on oc, .int .i64 B.ticks, .int .i64 B.parse, .int .i64 B.word, .int .i64 B.drops, .int .i64 B.vers]] w fun e w' => ∃ (a2 : Option Addr) (n2 c2 : Nat) (fa2 : Option Addr) (fn2 fc2 : Nat) (ra2 : Option Addr) (rn2 rc2 : Nat) (oa2 : Option Addr) (on2 oc2 : Nat), e = .returned (.agg #[.int .i64 (tickB B).id, .string (tickB B).name, .slice a2 n2 c2, .slice fa2 fn2 fc2, .slice ra2 rn2 rc2, .slice oa2 on2 oc2, .int .i64 (tickB B).ticks, .int .i64 (tickB B).parse, .int .i64 (tickB B).word, .int .i64 (tickB B).drops, .int .i64 (tickB B).vers]) ∧ BrOwn w' w.heap.size a2 n2 c2 fa2 fn2 fc2 ra2 rn2 rc2 oa2 on2 oc2 (tickB B) ∧ Below w.heap.size w w' := by
 have hpl := hide h.ports.size
 generalize hw1 : w.alloc (Obj.cells #[.int .i64 B.id, .string B.name, .slice a n c, .slice fa fn fc, .slice ra rn rc, .slice oa on oc, .int .i64 B.ticks, .int .i64 B.parse, .int .i64 B.word, .int .i64 B.drops, .int .i64 B.vers] 37) = w1
 have b01 : Below w.heap.size w w1 := by rw [← hw1]; exact below_one _ _
 have z1 : w.heap.size < w1.heap.size := by rw [← hw1]; simp
 generalize hw2 : w1.alloc (Obj.cells #[.int .i64 0, .string ⟨#[]⟩, .slice none 0 0, .slice none 0 0, .slice none 0 0, .slice none 0 0, .int .i64 0, .int .i64 0, .int .i64 0, .int .i64 0, .int .i64 0] 37) = w2
 have b12 : Below w1.heap.size w1 w2 := by rw [← hw2]; exact below_one _ _
 have z2 : w1.heap.size < w2.heap.size := by rw [← hw2]; simp
 have b02 := gr_trans b01 b12
 have kR2 : w2.heap[w1.heap.size]? = some (.cells #[.int .i64 0, .string ⟨#[]⟩, .slice none 0 0, .slice none 0 0, .slice none 0 0, .slice none 0 0, .int .i64 0, .int .i64 0, .int .i64 0, .int .i64 0, .int .i64 0] 37) := by rw [← hw2]; exact block_last _ _
 have kA2 : w2.heap[w.heap.size]? = some (.cells #[.int .i64 B.id, .string B.name, .slice a n c, .slice fa fn fc, .slice ra rn rc, .slice oa on oc, .int .i64 B.ticks, .int .i64 B.parse, .int .i64 B.word, .int .i64 B.drops, .int .i64 B.vers] 37) := kept_block (by rw [← hw1]; exact block_last _ _) b12
 obtain ⟨x0, x1, x2, x3, x4, x5, x6, x7, x8, x9, x10⟩ := cells11 kA2
 go_enter Tryz.func7, Tryz.ntmps7
 go_wp2_with fail
 refine (implInner_made a n c fa fn fc ra rn rc oa on oc B _ (h.below b02) (by omega) (by omega) (by omega) (by omega)).mono ?_
 rintro e w3 ⟨a3, c3, fa3, fc3, ra3, rc3, oa3, oc3, rfl, o3, hb3⟩
 generalize hw4 : w3.alloc (Obj.cells #[.slice a3 n c3, .int .i64 B.id, .string B.name, .slice none 0 0, .slice fa3 fn fc3, .slice ra3 rn rc3, .slice oa3 on oc3, .int .i64 B.ticks, .int .i64 B.parse, .int .i64 B.word, .int .i64 B.drops, .int .i64 B.vers] 54) = w4
 have b34 : Below w3.heap.size w3 w4 := by rw [← hw4]; exact below_one _ _
 have d24 := gr_trans hb3 b34
 have hs23 := hb3.size
 have st4 : IbSt w w4 w1.heap.size w3.heap.size #[.int .i64 0, .string ⟨#[]⟩, .slice none 0 0, .slice none 0 0, .slice none 0 0, .slice none 0 0, .int .i64 0, .int .i64 0, .int .i64 0, .int .i64 0, .int .i64 0] #[.slice a3 n c3, .int .i64 B.id, .string B.name, .slice none 0 0, .slice fa3 fn fc3, .slice ra3 rn rc3, .slice oa3 on oc3, .int .i64 B.ticks, .int .i64 B.parse, .int .i64 B.word, .int .i64 B.drops, .int .i64 B.vers] 37 54 := ⟨by rw [← hw4]; exact block_last _ _, kept_block kR2 d24, gr_trans b02 d24, by omega, by omega, by omega⟩
 have kA4 := kept_block kA2 d24
 have own4 := (o3.lt (base' := w.heap.size) b02.size).below b34
 have nAX : ¬ w.heap.size = w3.heap.size := by omega
 have nXA : ¬ w3.heap.size = w.heap.size := by omega
 have nAR : ¬ w.heap.size = w1.heap.size := by omega
 go_upto_region 2 with fail
 try rw [hw4]
 clear x0 x1 x2 x3 x4 x5 x6 x7 x8 x9 x10 hw4 hw2 hw1  hb3 b34 o3 d24 hs23 b02 b12 b01 z1 z2 kA2 kR2 
 generalize hX : w3.heap.size = X at *
 generalize hR : w1.heap.size = R at *
 clear hX hR 
 obtain ⟨x0, x1, x2, x3, x4, x5, x6, x7, x8, x9, x10⟩ := cells11 kA4
 go_wp2_with fail
 refine (implBridgeOk_any a n c fa fn fc ra rn rc oa on oc B _ (h.below st4.below) (by omega) hRv).mono ?_
 rintro e w5 ⟨rfl, hb5⟩
 have st5 := st4.later hb5
 have own5 := own4.below hb5
 clear x0 x1 x2 x3 x4 x5 x6 x7 x8 x9 x10 hb5 st4 own4 kA4 
 cases hok : bridgeOk B
 ·have hT : tickB B = B := by unfold tickB; rw [hok]; rfl
  clear hok
  have HT : Hid (tickB B = B) := hide hT
  clear hT
  obtain ⟨y0, y1, y2, y3, y4, y5, y6, y7, y8, y9, y10, y11⟩ := cells12 st5.box
  go_wp2_with fail
  refine (implFace_any a3 n c3 fa3 fn fc3 ra3 rn rc3 oa3 on oc3 B _).mono ?_
  rintro e w8 ⟨rfl, hb8⟩
  have st8 := st5.later hb8
  have own8 := own5.below hb8
  clear y0 y1 y2 y3 y4 y5 y6 y7 y8 y9 y10 y11 hb8 st5 own5
  obtain ⟨u0, u1, u2, u3, u4, u5, u6, u7, u8, u9, u10⟩ := cells11 st8.res
  have fr := frozen8 st8.res
  have fr0 := fr 0
  have fr1 := fr 1
  have fr2 := fr 2
  have fr3 := fr 3
  have fr4 := fr 4
  have fr5 := fr 5
  have fr6 := fr 6
  have fr7 := fr 7
  have fr8 := fr 8
  have fr9 := fr 9
  have fr10 := fr 10
  have HO := hide (own8.boxed11 st8.res (.int .i64 B.id) (.string B.name) (.slice a3 n c3) (.slice fa3 fn fc3) (.slice ra3 rn rc3) (.slice oa3 on oc3) (.int .i64 B.ticks) (.int .i64 B.parse) (.int .i64 B.word) (.int .i64 B.drops) (.int .i64 B.vers))
  have HB := hide (below_set11 st8.below st8.hR (.int .i64 B.id) (.string B.name) (.slice a3 n c3) (.slice fa3 fn fc3) (.slice ra3 rn rc3) (.slice oa3 on oc3) (.int .i64 B.ticks) (.int .i64 B.parse) (.int .i64 B.word) (.int .i64 B.drops) (.int .i64 B.vers))
  clear fr st8 own8
  go_wp2
  exact bodyPost_ret (v := .agg #[.int .i64 B.id, .string B.name, .slice a3 n c3, .slice fa3 fn fc3, .slice ra3 rn rc3, .slice oa3 on oc3, .int .i64 B.ticks, .int .i64 B.parse, .int .i64 B.word, .int .i64 B.drops, .int .i64 B.vers]) (by simp [results, Tryz.results7, go_sem, *]) rfl ⟨a3, n, c3, fa3, fn, fc3, ra3, rn, rc3, oa3, on, oc3, (by rw [HT.out]), (by rw [HT.out]; exact HO.out), HB.out⟩
 ·obtain ⟨hb6, hv0, hv1, ht0, ht1⟩ := ok_bounds hok
  rw [hpl.out] at hb6
  have hT : tickB B = turned { B with ticks := oneMore B.ticks, f := ageF B.f } := by unfold tickB; rw [hok]; rfl
  have HTB := hide hT
  clear hok hT
  obtain ⟨y0, y1, y2, y3, y4, y5, y6, y7, y8, y9, y10, y11⟩ := cells12 st5.box
  have f7 := frozen8 st5.box 7
  obtain ⟨V1, hV1⟩ : ∃ V, V = oneMore B.ticks := ⟨_, rfl⟩
  go_wp2_with fail
  refine (implOne_any B.ticks _ (by omega) (by omega)).mono ?_
  rintro e w6 ⟨rfl, e6⟩
  obtain rfl := e6.symm
  rw [← hV1]
  have HV1 := hide hV1
  clear hV1
  have st6 := st5.put 7 (.int .i64 V1) (cs' := #[.slice a3 n c3, .int .i64 B.id, .string B.name, .slice none 0 0, .slice fa3 fn fc3, .slice ra3 rn rc3, .slice oa3 on oc3, .int .i64 V1, .int .i64 B.parse, .int .i64 B.word, .int .i64 B.drops, .int .i64 B.vers]) rfl
  have own6 := own5.other st5.box (by decide) (by decide) (by decide) (by decide) 7 (.int .i64 V1)
  generalize hw6 : w5.setCell ⟨X, 7, none⟩ (.int .i64 V1) = wq at st6 own6
  go_upto_region 5 with fail
  try rw [hw6]
  clear y0 y1 y2 y3 y4 y5 y6 y7 y8 y9 y10 y11 f7 hw6 st5 own5
  obtain ⟨y0, y1, y2, y3, y4, y5, y6, y7, y8, y9, y10, y11⟩ := cells12 st6.box
  go_wp2_with fail
  refine (implAge_made fa3 fn fc3 B.f _ (grow_own (F := fentF) own6.f) (by omega) hRf).mono ?_
  rintro e w7 ⟨fa7, fc7, rfl, oF, -, hb7⟩
  have st7 := st6.later hb7
  have own7 := (own6.below hb7).putF (Below.refl _ _) (gown_lt oF (base' := w.heap.size) st6.below.size)
  have HLA : Hid ((ageF B.f).length ≤ fn) := hide (by have := age_lenB B.f; have := h.f.size; omega)
  clear y0 y1 y2 y3 y4 y5 y6 y7 y8 y9 y10 y11 hb7 st6 own6 oF
  generalize hL : (ageF B.f).length = L at *
  clear hL
  have st8 := st7.put 4 (.slice fa7 L fc7) (cs' := #[.slice a3 n c3, .int .i64 B.id, .string B.name, .slice none 0 0, .slice fa7 L fc7, .slice ra3 rn rc3, .slice oa3 on oc3, .int .i64 V1, .int .i64 B.parse, .int .i64 B.word, .int .i64 B.drops, .int .i64 B.vers]) rfl
  have own8 := own7.other st7.box (by decide) (by decide) (by decide) (by decide) 4 (.slice fa7 L fc7)
  obtain ⟨y0, y1, y2, y3, y4, y5, y6, y7, y8, y9, y10, y11⟩ := cells12 st7.box
  have f4 := frozen8 st7.box 4
  generalize hw8 : w7.setCell ⟨X, 4, none⟩ (.slice fa7 L fc7) = w8 at st8 own8
  go_upto_region 6 with fail
  try rw [hw8]
  clear y0 y1 y2 y3 y4 y5 y6 y7 y8 y9 y10 y11 f4 hw8 st7 own7
  have hLf : L ≤ fn := HLA.out
  have hT := HTB.out
  have hvb : 0 ≤ B.vers ∧ B.vers ≤ 1000000 := ⟨hv0, hv1⟩
  have hrf : ∀ x ∈ ageF B.f, x.Rng := age_rng hRf
  rw [← HV1.out] at hT
  have own8 : BrOwn w8 w.heap.size a3 n c3 fa7 L fc7 ra3 rn rc3 oa3 on oc3 { B with ticks := V1, f := ageF B.f } := ⟨own8.ports, own8.f, own8.v⟩
  obtain ⟨B2, hB2⟩ : ∃ B2 : BR, B2 = { B with ticks := V1, f := ageF B.f } := ⟨_, rfl⟩
  rw [← hB2] at own8
  have HT : Hid (tickB B = turned B2) := hide (by rw [hB2]; exact hT)
  have HVB : Hid (0 ≤ B2.vers ∧ B2.vers ≤ 1000000) := hide (by rw [hB2]; exact hvb)
  have HRF : Hid (∀ x ∈ B2.f, x.Rng) := hide (by rw [hB2]; exact hrf)
  have ecs : #[.slice a3 n c3, .int .i64 B.id, .string B.name, .slice none 0 0, .slice fa7 L fc7, .slice ra3 rn rc3, .slice oa3 on oc3, .int .i64 V1, .int .i64 B.parse, .int .i64 B.word, .int .i64 B.drops, .int .i64 B.vers] = (#[.slice a3 n c3, .int .i64 B2.id, .string B2.name, .slice none 0 0, .slice fa7 L fc7, .slice ra3 rn rc3, .slice oa3 on oc3, .int .i64 B2.ticks, .int .i64 B2.parse, .int .i64 B2.word, .int .i64 B2.drops, .int .i64 B2.vers] : Array Value) := by rw [hB2]
  rw [ecs] at st8
  clear hB2 ecs hT hvb hrf
  obtain ⟨y0, y1, y2, y3, y4, y5, y6, y7, y8, y9, y10, y11⟩ := cells12 st8.box
  go_wp2_with fail
  refine (implTurned_made w.heap.size a3 n c3 fa7 L fc7 ra3 rn rc3 oa3 on oc3 B2 _ own8 st8.below.size (by omega) (by omega) HVB.out HRF.out).mono ?_
  rintro e w9 ⟨fa9, fn9, fc9, rfl, o9, hb9⟩
  have st9 := st8.later hb9
  clear y0 y1 y2 y3 y4 y5 y6 y7 y8 y9 y10 y11 hb9
  obtain ⟨u0, u1, u2, u3, u4, u5, u6, u7, u8, u9, u10⟩ := cells11 st9.res
  have fr := frozen8 st9.res
  have fr0 := fr 0
  have fr1 := fr 1
  have fr2 := fr 2
  have fr3 := fr 3
  have fr4 := fr 4
  have fr5 := fr 5
  have fr6 := fr 6
  have fr7 := fr 7
  have fr8 := fr 8
  have fr9 := fr 9
  have fr10 := fr 10
  have HO := hide (o9.boxed11 st9.res (.int .i64 B2.id) (.string B2.name) (.slice a3 n c3) (.slice fa9 fn9 fc9) (.slice ra3 rn rc3) (.slice oa3 on oc3) (.int .i64 B2.ticks) (.int .i64 B2.parse) (.int .i64 B2.word) (.int .i64 B2.drops) (.int .i64 (oneMore B2.vers)))
  have HB := hide (below_set11 st9.below st9.hR (.int .i64 B2.id) (.string B2.name) (.slice a3 n c3) (.slice fa9 fn9 fc9) (.slice ra3 rn rc3) (.slice oa3 on oc3) (.int .i64 B2.ticks) (.int .i64 B2.parse) (.int .i64 B2.word) (.int .i64 B2.drops) (.int .i64 (oneMore B2.vers)))
  clear fr st9 o9 st8 own8
  go_wp2
  exact bodyPost_ret (v := .agg #[.int .i64 B2.id, .string B2.name, .slice a3 n c3, .slice fa9 fn9 fc9, .slice ra3 rn rc3, .slice oa3 on oc3, .int .i64 B2.ticks, .int .i64 B2.parse, .int .i64 B2.word, .int .i64 B2.drops, .int .i64 (oneMore B2.vers)]) (by simp [results, Tryz.results7, go_sem, *]) rfl ⟨_, _, _, fa9, fn9, fc9, ra3, rn, rc3, oa3, on, oc3, (by rw [HT.out]; rfl), (by rw [HT.out]; exact HO.out), HB.out⟩

end Go.Proofs.YtfefhilolhdonabGreat
