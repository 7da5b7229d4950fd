/-
  What comes of a frame, the program's own function by its contract.
-/
import Derived.Test.YtddalpglihhipaaGreatPSKW
import Derived.Test.YtddalpglihhipaaGreatPSBrOkI
import Derived.Test.YtddalpglihhipaaGreatPSBrWithin
import Derived.Test.YtddalpglihhipaaGreatPSK01
import Derived.Test.YtddalpglihhipaaGreatPSK06
import Derived.Test.YtddalpglihhipaaGreatPSK17
import Derived.Test.YtddalpglihhipaaGreatPSK18
import Derived.Test.YtddalpglihhipaaGreatPSK19
import Derived.Test.YtddalpglihhipaaGreatPSK23
import Derived.Test.YtddalpglihhipaaGreatPSK30
namespace Go.Proofs.YtddalpglihhipaaGreat
open Go.RowKit

theorem vrows_small {v : VT} {p : Int} (h : vtabOk v p = true) : ∀ r ∈ v.rows, 0 ≤ r.b ∧ r.b ≤ 63 := by
 intro r hr
 have hp := vtab_own6 h
 unfold vtabOk at h
 simp only [Bool.and_eq_true] at h
 have hv := List.all_eq_true.1 h.1.1.2 r hr
 unfold vrowOk in3 at hv
 simp only [Bool.and_eq_true, decide_eq_true_eq] at hv
 have hm : allOf p.toNat ≤ 63 := by
  obtain ⟨m, hm⟩ : ∃ m : Nat, p = (m : Int) := ⟨p.toNat, by omega⟩
  subst hm
  rw [Int.toNat_natCast]
  rcases (show m = 1 ∨ m = 2 ∨ m = 3 ∨ m = 4 ∨ m = 5 ∨ m = 6 by omega) with rfl | rfl | rfl | rfl | rfl | rfl <;> decide
 omega

set_option maxRecDepth 100000 in
set_option maxHeartbeats 16000000 in
theorem implForward_made (a : Option Addr) (n c : Nat) (fa : Option Addr) (fn fc : Nat) (ra : Option Addr) (rn rc : Nat) (oa : Option Addr) (on oc : Nat) (B : BR) (port : Int) (fd fs ft : Int) (a1 : Option Addr) (l1 c1 : Nat) (z1 : List Int) (w : World) (h : BrRow w a n c fa fn fc ra rn rc oa on oc B) (h1 : Row w a1 l1 c1 z1) (hn : n ≤ 1048576) (hfn : fn ≤ 1048576) (hrn : rn ≤ 1048576) (hon : on ≤ 1048576) (hl1 : l1 ≤ 1048576) (hRf : ∀ x ∈ B.f, x.Rng) (hRv : ∀ r ∈ B.v.rows, r.Rng) :
  Calls Tryz.prog 8 #[.agg #[.int .i64 B.id, .string B.name, .slice a n c, .slice fa fn fc, .slice ra rn rc, .slice oa on oc, .int .i64 B.ticks, .int .i64 B.parse, .int .i64 B.word, .int .i64 B.drops, .int .i64 B.vers], .int .i64 port, .agg #[.int .i64 fd, .int .i64 fs, .int .i64 ft, .slice a1 l1 c1]] w fun e w' => ∃ (a2 : Option Addr) (n2 c2 : Nat) (fa2 : Option Addr) (fn2 fc2 : Nat) (ra2 : Option Addr) (rn2 rc2 : Nat) (oa2 : Option Addr) (on2 oc2 : Nat) (ao : Option Addr) (cp : Nat) (L : List OI), e = .returned (.tuple #[.agg #[.int .i64 (fwdB B port fd fs ft l1).id, .string (fwdB B port fd fs ft l1).name, .slice a2 n2 c2, .slice fa2 fn2 fc2, .slice ra2 rn2 rc2, .slice oa2 on2 oc2, .int .i64 (fwdB B port fd fs ft l1).ticks, .int .i64 (fwdB B port fd fs ft l1).parse, .int .i64 (fwdB B port fd fs ft l1).word, .int .i64 (fwdB B port fd fs ft l1).drops, .int .i64 (fwdB B port fd fs ft l1).vers], .slice ao L.length cp]) ∧ BrOwn w' w.heap.size a2 n2 c2 fa2 fn2 fc2 ra2 rn2 rc2 oa2 on2 oc2 (fwdB B port fd fs ft l1) ∧ OOwns w' w.heap.size ao L.length cp L ∧ L.map OI.v = fwdO B port fd fs ft l1 z1 ∧ Below w.heap.size w w' := by
 generalize hw1 : w.alloc (Obj.cells #[.int .i64 B.id, .string B.name, .slice a n c, .slice fa fn fc, .slice ra rn rc, .slice oa on oc, .int .i64 B.ticks, .int .i64 B.parse, .int .i64 B.word, .int .i64 B.drops, .int .i64 B.vers] 31) = w1
 have b01 : Below w.heap.size w w1 := by rw [← hw1]; exact below_one _ _
 have z1' : w.heap.size < w1.heap.size := by rw [← hw1]; simp
 generalize hwv : w1.alloc (Obj.cells #[.int .i64 fd, .int .i64 fs, .int .i64 ft, .slice a1 l1 c1] 33) = wv
 have b1v : Below w1.heap.size w1 wv := by rw [← hwv]; exact below_one _ _
 have zv : w1.heap.size < wv.heap.size := by rw [← hwv]; simp
 have b01v := gr_trans b01 b1v
 generalize hw2 : wv.alloc (Obj.cells #[.int .i64 0, .string ⟨#[]⟩, .slice none 0 0, .slice none 0 0, .slice none 0 0, .slice none 0 0, .int .i64 0, .int .i64 0, .int .i64 0, .int .i64 0, .int .i64 0] 31) = w2
 have b12 : Below wv.heap.size wv w2 := by rw [← hw2]; exact below_one _ _
 have z2 : wv.heap.size < w2.heap.size := by rw [← hw2]; simp
 have b02 := gr_trans b01v b12
 have kR2 : w2.heap[wv.heap.size]? = some (.cells #[.int .i64 0, .string ⟨#[]⟩, .slice none 0 0, .slice none 0 0, .slice none 0 0, .slice none 0 0, .int .i64 0, .int .i64 0, .int .i64 0, .int .i64 0, .int .i64 0] 31) := by rw [← hw2]; exact block_last _ _
 have kA2 : w2.heap[w.heap.size]? = some (.cells #[.int .i64 B.id, .string B.name, .slice a n c, .slice fa fn fc, .slice ra rn rc, .slice oa on oc, .int .i64 B.ticks, .int .i64 B.parse, .int .i64 B.word, .int .i64 B.drops, .int .i64 B.vers] 31) := kept_block (kept_block (by rw [← hw1]; exact block_last _ _) b1v) b12
 have kV2 : w2.heap[w1.heap.size]? = some (Obj.cells #[.int .i64 fd, .int .i64 fs, .int .i64 ft, .slice a1 l1 c1] 33) := kept_block (by rw [← hwv]; exact block_last _ _) b12
 obtain ⟨x0, x1, x2, x3, x4, x5, x6, x7, x8, x9, x10⟩ := cells11 kA2
 go_enter Tryz.func8, Tryz.ntmps8
 go_wp2_with fail
 refine (implInner_made a n c fa fn fc ra rn rc oa on oc B _ (h.below b02) (by omega) (by omega) (by omega) (by omega)).mono ?_
 rintro e w3 ⟨a3, c3, fa3, fc3, ra3, rc3, oa3, oc3, rfl, o3, hb3⟩
 generalize hw4 : w3.alloc (Obj.cells #[.slice a3 n c3, .int .i64 B.id, .string B.name, .slice none 0 0, .slice fa3 fn fc3, .slice ra3 rn rc3, .slice oa3 on oc3, .int .i64 B.ticks, .int .i64 B.parse, .int .i64 B.word, .int .i64 B.drops, .int .i64 B.vers] 78) = w4
 have b34 : Below w3.heap.size w3 w4 := by rw [← hw4]; exact below_one _ _
 have d24 := gr_trans hb3 b34
 have hs23 := hb3.size
 have st4 : IbSt w w4 wv.heap.size w3.heap.size #[.int .i64 0, .string ⟨#[]⟩, .slice none 0 0, .slice none 0 0, .slice none 0 0, .slice none 0 0, .int .i64 0, .int .i64 0, .int .i64 0, .int .i64 0, .int .i64 0] #[.slice a3 n c3, .int .i64 B.id, .string B.name, .slice none 0 0, .slice fa3 fn fc3, .slice ra3 rn rc3, .slice oa3 on oc3, .int .i64 B.ticks, .int .i64 B.parse, .int .i64 B.word, .int .i64 B.drops, .int .i64 B.vers] 31 78 := ⟨by rw [← hw4]; exact block_last _ _, kept_block kR2 d24, gr_trans b02 d24, by omega, by omega, by omega⟩
 have kA4 := kept_block kA2 d24
 have kV4 := kept_block kV2 d24
 have own4 := (o3.lt (base' := w.heap.size) b02.size).below b34
 have nAX : ¬ w.heap.size = w3.heap.size := by omega
 have nXA : ¬ w3.heap.size = w.heap.size := by omega
 have nAR : ¬ w.heap.size = wv.heap.size := by omega
 have nVX : ¬ w1.heap.size = w3.heap.size := by omega
 have nVR : ¬ w1.heap.size = wv.heap.size := by omega
 go_upto_region 2 with fail
 try rw [hw4]
 clear x0 x1 x2 x3 x4 x5 x6 x7 x8 x9 x10 hw4 hw2 hw1 hwv hb3 b34 o3 d24 hs23 b02 b12 b01 z1' z2 kA2 kR2 kV2 zv b1v b01v
 generalize hX : w3.heap.size = X at *
 generalize hR : wv.heap.size = R at *
 generalize hVb : w1.heap.size = Vb at *
 clear hX hR hVb
 obtain ⟨x0, x1, x2, x3, x4, x5, x6, x7, x8, x9, x10⟩ := cells11 kA4
 go_wp2_with fail
 refine (implBridgeOk_any a n c fa fn fc ra rn rc oa on oc B _ (h.below st4.below) (by omega) hRv).mono ?_
 rintro e w5 ⟨rfl, hb5⟩
 have st5 := st4.later hb5
 have own5 := own4.below hb5
 have kA5 := kept_block kA4 hb5
 have kV5 := kept_block kV4 hb5
 clear x0 x1 x2 x3 x4 x5 x6 x7 x8 x9 x10 hb5 st4 own4 kA4 kV4
 have htb0 : thereB B port = (bridgeOk B && (decide (0 ≤ port) && decide (port ≤ (n : Int) - 1))) := by unfold thereB; rw [h.ports.size]
 cases hok : bridgeOk B
 ·have hT : fwdB B port fd fs ft l1 = B := by unfold fwdB; rw [htb0, hok]; rfl
  have hTO : fwdO B port fd fs ft l1 z1 = [] := by unfold fwdO; rw [htb0, hok]; rfl
  clear hok htb0
  have HT := hide hT
  have HTO := hide hTO
  clear hT hTO
  obtain ⟨y0, y1, y2, y3, y4, y5, y6, y7, y8, y9, y10, y11⟩ := cells12 st5.box
  go_wp2_with fail
  refine (implFace_any a3 n c3 fa3 fn fc3 ra3 rn rc3 oa3 on oc3 B _).mono ?_
  rintro e w8 ⟨rfl, hb8⟩
  have st8 := st5.later hb8
  have own8 := own5.below hb8
  clear y0 y1 y2 y3 y4 y5 y6 y7 y8 y9 y10 y11 hb8 st5 own5
  obtain ⟨u0, u1, u2, u3, u4, u5, u6, u7, u8, u9, u10⟩ := cells11 st8.res
  have fr := frozen8 st8.res
  have fr0 := fr 0
  have fr1 := fr 1
  have fr2 := fr 2
  have fr3 := fr 3
  have fr4 := fr 4
  have fr5 := fr 5
  have fr6 := fr 6
  have fr7 := fr 7
  have fr8 := fr 8
  have fr9 := fr 9
  have fr10 := fr 10
  have HO := hide (own8.boxed11 st8.res (.int .i64 B.id) (.string B.name) (.slice a3 n c3) (.slice fa3 fn fc3) (.slice ra3 rn rc3) (.slice oa3 on oc3) (.int .i64 B.ticks) (.int .i64 B.parse) (.int .i64 B.word) (.int .i64 B.drops) (.int .i64 B.vers))
  have HB := hide (below_set11 st8.below st8.hR (.int .i64 B.id) (.string B.name) (.slice a3 n c3) (.slice fa3 fn fc3) (.slice ra3 rn rc3) (.slice oa3 on oc3) (.int .i64 B.ticks) (.int .i64 B.parse) (.int .i64 B.word) (.int .i64 B.drops) (.int .i64 B.vers))
  clear fr st8 own8
  go_wp2
  exact bodyPost_ret (v := .tuple #[.agg #[.int .i64 B.id, .string B.name, .slice a3 n c3, .slice fa3 fn fc3, .slice ra3 rn rc3, .slice oa3 on oc3, .int .i64 B.ticks, .int .i64 B.parse, .int .i64 B.word, .int .i64 B.drops, .int .i64 B.vers], .slice none 0 0]) (by simp [results, Tryz.results8, go_sem, *]) rfl ⟨a3, n, c3, fa3, fn, fc3, ra3, rn, rc3, oa3, on, oc3, none, 0, [], (by rw [HT.out]; rfl), (by rw [HT.out]; exact HO.out), oowns_nil _ _, (by rw [HTO.out]; rfl), HB.out⟩
 ·obtain ⟨y0, y1, y2, y3, y4, y5, y6, y7, y8, y9, y10, y11⟩ := cells12 st5.box
  cases hhas : (decide (0 ≤ port) && decide (port ≤ (n : Int) - 1))
  ·have hT : fwdB B port fd fs ft l1 = B := by unfold fwdB; rw [htb0, hok, hhas]; rfl
   have hTO : fwdO B port fd fs ft l1 z1 = [] := by unfold fwdO; rw [htb0, hok, hhas]; rfl
   have HH := hide hhas
   clear hok htb0 hhas
   go_wp2_with fail
   refine (implHas_any a3 n c3 port _ (by omega)).mono ?_
   rintro e w6 ⟨rfl, e6⟩
   obtain rfl := e6.symm
   rw [HH.out]
   clear y0 y1 y2 y3 y4 y5 y6 y7 y8 y9 y10 y11
   have HT := hide hT
   have HTO := hide hTO
   clear hT hTO
   obtain ⟨y0, y1, y2, y3, y4, y5, y6, y7, y8, y9, y10, y11⟩ := cells12 st5.box
   go_wp2_with fail
   refine (implFace_any a3 n c3 fa3 fn fc3 ra3 rn rc3 oa3 on oc3 B _).mono ?_
   rintro e w8 ⟨rfl, hb8⟩
   have st8 := st5.later hb8
   have own8 := own5.below hb8
   clear y0 y1 y2 y3 y4 y5 y6 y7 y8 y9 y10 y11 hb8 st5 own5
   obtain ⟨u0, u1, u2, u3, u4, u5, u6, u7, u8, u9, u10⟩ := cells11 st8.res
   have fr := frozen8 st8.res
   have fr0 := fr 0
   have fr1 := fr 1
   have fr2 := fr 2
   have fr3 := fr 3
   have fr4 := fr 4
   have fr5 := fr 5
   have fr6 := fr 6
   have fr7 := fr 7
   have fr8 := fr 8
   have fr9 := fr 9
   have fr10 := fr 10
   have HO := hide (own8.boxed11 st8.res (.int .i64 B.id) (.string B.name) (.slice a3 n c3) (.slice fa3 fn fc3) (.slice ra3 rn rc3) (.slice oa3 on oc3) (.int .i64 B.ticks) (.int .i64 B.parse) (.int .i64 B.word) (.int .i64 B.drops) (.int .i64 B.vers))
   have HB := hide (below_set11 st8.below st8.hR (.int .i64 B.id) (.string B.name) (.slice a3 n c3) (.slice fa3 fn fc3) (.slice ra3 rn rc3) (.slice oa3 on oc3) (.int .i64 B.ticks) (.int .i64 B.parse) (.int .i64 B.word) (.int .i64 B.drops) (.int .i64 B.vers))
   clear fr st8 own8
   go_wp2
   exact bodyPost_ret (v := .tuple #[.agg #[.int .i64 B.id, .string B.name, .slice a3 n c3, .slice fa3 fn fc3, .slice ra3 rn rc3, .slice oa3 on oc3, .int .i64 B.ticks, .int .i64 B.parse, .int .i64 B.word, .int .i64 B.drops, .int .i64 B.vers], .slice none 0 0]) (by simp [results, Tryz.results8, go_sem, *]) rfl ⟨a3, n, c3, fa3, fn, fc3, ra3, rn, rc3, oa3, on, oc3, none, 0, [], (by rw [HT.out]; rfl), (by rw [HT.out]; exact HO.out), oowns_nil _ _, (by rw [HTO.out]; rfl), HB.out⟩
  ·have htb : thereB B port = true := by rw [htb0, hok, hhas]; rfl
   obtain ⟨k, rfl, hk1, x, hx⟩ := there_at h.ports.size htb
   obtain ⟨hb6', hv0, hv1, ht0, ht1⟩ := ok_bounds hok
   have hpl := h.ports.size
   have hdr := (in1m_iff B.drops).1 (bridgeOk_parts hok).2.2.2.2.2.2.2.2.2.1
   have hon8 : on ≤ 8 := by have h1 := vtab_own6 (bridgeOk_parts hok).2.2.2.2.2.1; have h2 := h.v.own.size; omega
   have HTH := hide htb
   have HOK := hide hok
   have HH := hide hhas
   clear htb hx x hok htb0 hhas
   obtain ⟨⟨v0, v1, v2, v3⟩, -⟩ := cells4 kV5
   go_wp2_with fail
   refine (implHas_any a3 n c3 (k : Int) _ (by omega)).mono ?_
   rintro e w6 ⟨rfl, e6⟩
   obtain rfl := e6.symm
   rw [HH.out]
   clear y0 y1 y2 y3 y4 y5 y6 y7 y8 y9 y10 y11
   go_wp2_with fail
   refine (implFrameOk_any fd fs ft a1 l1 c1 z1 _ (h1.below st5.below)).mono ?_
   rintro e w6 ⟨rfl, hb6⟩
   clear v0 v1 v2 v3
   have st6 := st5.later hb6
   have own6 := own5.below hb6
   have kA6 := kept_block kA5 hb6
   have kV6 := kept_block kV5 hb6
   clear hb6 st5 own5 kA5 kV5
   cases hfk : okF fd fs ft l1
   ·have hT : fwdB B (k : Int) fd fs ft l1 = B := by unfold fwdB; rw [HTH.out, hfk]; rfl
    have hTO : fwdO B (k : Int) fd fs ft l1 z1 = [] := by unfold fwdO; rw [HTH.out, hfk]; rfl
    clear hfk
    have HT := hide hT
    have HTO := hide hTO
    clear hT hTO
    obtain ⟨y0, y1, y2, y3, y4, y5, y6, y7, y8, y9, y10, y11⟩ := cells12 st6.box
    go_wp2_with fail
    refine (implFace_any a3 n c3 fa3 fn fc3 ra3 rn rc3 oa3 on oc3 B _).mono ?_
    rintro e w8 ⟨rfl, hb8⟩
    have st8 := st6.later hb8
    have own8 := own6.below hb8
    clear y0 y1 y2 y3 y4 y5 y6 y7 y8 y9 y10 y11 hb8 st6 own6
    obtain ⟨u0, u1, u2, u3, u4, u5, u6, u7, u8, u9, u10⟩ := cells11 st8.res
    have fr := frozen8 st8.res
    have fr0 := fr 0
    have fr1 := fr 1
    have fr2 := fr 2
    have fr3 := fr 3
    have fr4 := fr 4
    have fr5 := fr 5
    have fr6 := fr 6
    have fr7 := fr 7
    have fr8 := fr 8
    have fr9 := fr 9
    have fr10 := fr 10
    have HO := hide (own8.boxed11 st8.res (.int .i64 B.id) (.string B.name) (.slice a3 n c3) (.slice fa3 fn fc3) (.slice ra3 rn rc3) (.slice oa3 on oc3) (.int .i64 B.ticks) (.int .i64 B.parse) (.int .i64 B.word) (.int .i64 B.drops) (.int .i64 B.vers))
    have HB := hide (below_set11 st8.below st8.hR (.int .i64 B.id) (.string B.name) (.slice a3 n c3) (.slice fa3 fn fc3) (.slice ra3 rn rc3) (.slice oa3 on oc3) (.int .i64 B.ticks) (.int .i64 B.parse) (.int .i64 B.word) (.int .i64 B.drops) (.int .i64 B.vers))
    clear fr st8 own8
    go_wp2
    exact bodyPost_ret (v := .tuple #[.agg #[.int .i64 B.id, .string B.name, .slice a3 n c3, .slice fa3 fn fc3, .slice ra3 rn rc3, .slice oa3 on oc3, .int .i64 B.ticks, .int .i64 B.parse, .int .i64 B.word, .int .i64 B.drops, .int .i64 B.vers], .slice none 0 0]) (by simp [results, Tryz.results8, go_sem, *]) rfl ⟨a3, n, c3, fa3, fn, fc3, ra3, rn, rc3, oa3, on, oc3, none, 0, [], (by rw [HT.out]; rfl), (by rw [HT.out]; exact HO.out), oowns_nil _ _, (by rw [HTO.out]; rfl), HB.out⟩
   ·have HFK := hide hfk
    clear hfk
    obtain ⟨x0, x1, x2, x3, x4, x5, x6, x7, x8, x9, x10⟩ := cells11 kA6
    obtain ⟨⟨v0, v1, v2, v3⟩, -⟩ := cells4 kV6
    go_wp2_with fail
    refine (implLet_any a n c fa fn fc ra rn rc oa on oc B k ft _ (h.below st6.below) hRv hon8 (by omega)).mono ?_
    rintro e w6b ⟨rfl, hb6⟩
    clear x0 x1 x2 x3 x4 x5 x6 x7 x8 x9 x10 v0 v1 v2 v3
    have st6 := st6.later hb6
    have own6 := own6.below hb6
    have kA6 := kept_block kA6 hb6
    have kV6 := kept_block kV6 hb6
    clear hb6
    obtain ⟨w6, hw6⟩ : ∃ x, x = w6b := ⟨_, rfl⟩
    subst hw6
    generalize hci : (classOf B.v (k : Int) ft).1 = id
    have HCI := hide hci
    clear hci
    cases hlet : letB B (k : Int) ft
    ·have hT : fwdB B (k : Int) fd fs ft l1 = { B with drops := oneMore B.drops } := by unfold fwdB; rw [HTH.out, HFK.out, hlet]; rfl
     have hTO : fwdO B (k : Int) fd fs ft l1 z1 = [] := by unfold fwdO; rw [HTH.out, HFK.out, hlet]; rfl
     clear hlet
     obtain ⟨V1, hV1⟩ : ∃ V, V = oneMore B.drops := ⟨_, rfl⟩
     rw [← hV1] at hT
     have HTd := hide hT
     have HTOd := hide hTO
     clear hT hTO
     obtain ⟨y0, y1, y2, y3, y4, y5, y6, y7, y8, y9, y10, y11⟩ := cells12 st6.box
     go_wp2_with fail
     refine (implOne_any B.drops _ (by omega) (by omega)).mono ?_
     rintro e w7 ⟨rfl, e7⟩
     obtain rfl := e7.symm
     rw [← hV1]
     clear hV1 y0 y1 y2 y3 y4 y5 y6 y7 y8 y9 y10 y11
     have st7 := st6.put 10 (.int .i64 V1) (cs' := #[.slice a3 n c3, .int .i64 B.id, .string B.name, .slice none 0 0, .slice fa3 fn fc3, .slice ra3 rn rc3, .slice oa3 on oc3, .int .i64 B.ticks, .int .i64 B.parse, .int .i64 B.word, .int .i64 V1, .int .i64 B.vers]) rfl
     have own7 := own6.other st6.box (by decide) (by decide) (by decide) (by decide) 10 (.int .i64 V1)
     have kA7 := kept_set (b := X) (j := 10) (u := (.int .i64 V1)) kA6 nAX
     have kV7 := kept_set (b := X) (j := 10) (u := (.int .i64 V1)) kV6 nVX
     obtain ⟨y0, y1, y2, y3, y4, y5, y6, y7, y8, y9, y10, y11⟩ := cells12 st6.box
     have fj := frozen8 st6.box 10
     generalize hwp : w6.setCell ⟨X, 10, none⟩ (.int .i64 V1) = wp7 at st7 own7 kA7 kV7
     go_upto_region 7 with fail
     try rw [hwp]
     clear y0 y1 y2 y3 y4 y5 y6 y7 y8 y9 y10 y11 fj hwp st6 own6 kA6 kV6
     obtain ⟨B2, hB2⟩ : ∃ B2 : BR, B2 = { B with drops := V1 } := ⟨_, rfl⟩
     have own7 : BrOwn wp7 w.heap.size a3 n c3 fa3 fn fc3 ra3 rn rc3 oa3 on oc3 B2 := by rw [hB2]; exact ⟨own7.ports, own7.f, own7.v⟩
     have ecs : #[.slice a3 n c3, .int .i64 B.id, .string B.name, .slice none 0 0, .slice fa3 fn fc3, .slice ra3 rn rc3, .slice oa3 on oc3, .int .i64 B.ticks, .int .i64 B.parse, .int .i64 B.word, .int .i64 V1, .int .i64 B.vers] = (#[.slice a3 n c3, .int .i64 B2.id, .string B2.name, .slice none 0 0, .slice fa3 fn fc3, .slice ra3 rn rc3, .slice oa3 on oc3, .int .i64 B2.ticks, .int .i64 B2.parse, .int .i64 B2.word, .int .i64 B2.drops, .int .i64 B2.vers] : Array Value) := by rw [hB2]
     rw [ecs] at st7
     clear ecs
     have hT : fwdB B (k : Int) fd fs ft l1 = B2 := by rw [hB2]; exact HTd.out
     have hTO := HTOd.out
     clear hB2
     have HT := hide hT
     have HTO := hide hTO
     clear hT hTO
     obtain ⟨y0, y1, y2, y3, y4, y5, y6, y7, y8, y9, y10, y11⟩ := cells12 st7.box
     go_wp2_with fail
     refine (implFace_any a3 n c3 fa3 fn fc3 ra3 rn rc3 oa3 on oc3 B2 _).mono ?_
     rintro e w8 ⟨rfl, hb8⟩
     have st8 := st7.later hb8
     have own8 := own7.below hb8
     clear y0 y1 y2 y3 y4 y5 y6 y7 y8 y9 y10 y11 hb8 st7 own7
     obtain ⟨u0, u1, u2, u3, u4, u5, u6, u7, u8, u9, u10⟩ := cells11 st8.res
     have fr := frozen8 st8.res
     have fr0 := fr 0
     have fr1 := fr 1
     have fr2 := fr 2
     have fr3 := fr 3
     have fr4 := fr 4
     have fr5 := fr 5
     have fr6 := fr 6
     have fr7 := fr 7
     have fr8 := fr 8
     have fr9 := fr 9
     have fr10 := fr 10
     have HO := hide (own8.boxed11 st8.res (.int .i64 B2.id) (.string B2.name) (.slice a3 n c3) (.slice fa3 fn fc3) (.slice ra3 rn rc3) (.slice oa3 on oc3) (.int .i64 B2.ticks) (.int .i64 B2.parse) (.int .i64 B2.word) (.int .i64 B2.drops) (.int .i64 B2.vers))
     have HB := hide (below_set11 st8.below st8.hR (.int .i64 B2.id) (.string B2.name) (.slice a3 n c3) (.slice fa3 fn fc3) (.slice ra3 rn rc3) (.slice oa3 on oc3) (.int .i64 B2.ticks) (.int .i64 B2.parse) (.int .i64 B2.word) (.int .i64 B2.drops) (.int .i64 B2.vers))
     clear fr st8 own8
     go_wp2
     exact bodyPost_ret (v := .tuple #[.agg #[.int .i64 B2.id, .string B2.name, .slice a3 n c3, .slice fa3 fn fc3, .slice ra3 rn rc3, .slice oa3 on oc3, .int .i64 B2.ticks, .int .i64 B2.parse, .int .i64 B2.word, .int .i64 B2.drops, .int .i64 B2.vers], .slice none 0 0]) (by simp [results, Tryz.results8, go_sem, *]) rfl ⟨a3, n, c3, fa3, fn, fc3, ra3, rn, rc3, oa3, on, oc3, none, 0, [], (by rw [HT.out]; rfl), (by rw [HT.out]; exact HO.out), oowns_nil _ _, (by rw [HTO.out]; rfl), HB.out⟩
    ·have hT : fwdB B (k : Int) fd fs ft l1 = { B with f := learnF B.f id fs (k : Int), vers := oneMore B.vers } := by unfold fwdB; rw [HTH.out, HFK.out, hlet, HCI.out]; rfl
     have hTO : fwdO B (k : Int) fd fs ft l1 z1 = outTo B.v id (waysB B k id fd (learnF B.f id fs (k : Int))) fd fs z1 n := by unfold fwdO; rw [HTH.out, HFK.out, hlet, HCI.out, Int.toNat_natCast, hpl]; rfl
     clear hlet
     obtain ⟨V2, hV2⟩ : ∃ V, V = oneMore B.vers := ⟨_, rfl⟩
     rw [← hV2] at hT
     obtain ⟨y0, y1, y2, y3, y4, y5, y6, y7, y8, y9, y10, y11⟩ := cells12 st6.box
     obtain ⟨⟨v0, v1, v2, v3⟩, -⟩ := cells4 kV6
     go_wp2_with fail
     refine (implLearn_made fa3 fn fc3 B.f id fs (k : Int) _ (grow_own (F := fentF) own6.f) (by omega) hRf).mono ?_
     rintro e w7 ⟨fa7, fc7, rfl, oF, -, hb7⟩
     have oF := gown_lt oF (base' := w.heap.size) st6.below.size
     have hFok : fdbOk (learnF B.f id fs (k : Int)) = true := learn_ok (bridgeOk_parts HOK.out).2.2.2.2.1 _ _ _
     clear y0 y1 y2 y3 y4 y5 y6 y7 y8 y9 y10 y11 v0 v1 v2 v3
     have hsix := out_six { B with f := learnF B.f id fs (k : Int), vers := V2 } k id fd fs z1 (learnF B.f id fs (k : Int)) hFok (by omega) (egress_rng hRv id) (by show B.ports.length ≤ 6; omega)
     have hsix2 : outTo B.v id (waysB { B with f := learnF B.f id fs (k : Int), vers := V2 } k id fd (learnF B.f id fs (k : Int))) fd fs z1 6 = fwdO B (k : Int) fd fs ft l1 z1 := by rw [hTO, ← hpl]; exact hsix
     clear hsix hTO
     generalize hFL : learnF B.f id fs (k : Int) = FL at *
     have HLQ : Hid (FL.length ≤ 16777216) := hide (by rw [← hFL]; have := learn_len B.f id fs (k : Int); have := h.f.size; omega)
     clear hFL
     generalize hq7 : FL.length = q7 at *
     have hq7' : q7 ≤ 16777216 := HLQ.out
     clear hq7
     have HTL0 := hide hT
     have HSX := hide hsix2
     have HFO := hide hFok
     clear hT hsix2 hFok
     have st7 := st6.later hb7
     have own7 := (own6.below hb7).putF (Below.refl _ _) oF
     have kA7 := kept_block kA6 hb7
     have kV7 := kept_block kV6 hb7
     clear hb7 st6 own6 kA6 kV6 oF
     have st8 := st7.put 4 (.slice fa7 q7 fc7) (cs' := #[.slice a3 n c3, .int .i64 B.id, .string B.name, .slice none 0 0, .slice fa7 q7 fc7, .slice ra3 rn rc3, .slice oa3 on oc3, .int .i64 B.ticks, .int .i64 B.parse, .int .i64 B.word, .int .i64 B.drops, .int .i64 B.vers]) rfl
     have own8 := own7.other st7.box (by decide) (by decide) (by decide) (by decide) 4 (.slice fa7 q7 fc7)
     have kA8 := kept_set (b := X) (j := 4) (u := (.slice fa7 q7 fc7)) kA7 nAX
     have kV8 := kept_set (b := X) (j := 4) (u := (.slice fa7 q7 fc7)) kV7 nVX
     obtain ⟨y0, y1, y2, y3, y4, y5, y6, y7, y8, y9, y10, y11⟩ := cells12 st7.box
     have fj := frozen8 st7.box 4
     generalize hwp : w7.setCell ⟨X, 4, none⟩ (.slice fa7 q7 fc7) = wp8 at st8 own8 kA8 kV8
     go_upto_region 9 with fail
     try rw [hwp]
     clear y0 y1 y2 y3 y4 y5 y6 y7 y8 y9 y10 y11 fj hwp st7 own7 kA7 kV7
     obtain ⟨y0, y1, y2, y3, y4, y5, y6, y7, y8, y9, y10, y11⟩ := cells12 st8.box
     go_wp2_with fail
     refine (implOne_any B.vers _ (by omega) (by omega)).mono ?_
     rintro e w9 ⟨rfl, e9⟩
     obtain rfl := e9.symm
     rw [← hV2]
     clear hV2 y0 y1 y2 y3 y4 y5 y6 y7 y8 y9 y10 y11
     have st9 := st8.put 11 (.int .i64 V2) (cs' := #[.slice a3 n c3, .int .i64 B.id, .string B.name, .slice none 0 0, .slice fa7 q7 fc7, .slice ra3 rn rc3, .slice oa3 on oc3, .int .i64 B.ticks, .int .i64 B.parse, .int .i64 B.word, .int .i64 B.drops, .int .i64 V2]) rfl
     have own9 := own8.other st8.box (by decide) (by decide) (by decide) (by decide) 11 (.int .i64 V2)
     have kA9 := kept_set (b := X) (j := 11) (u := (.int .i64 V2)) kA8 nAX
     have kV9 := kept_set (b := X) (j := 11) (u := (.int .i64 V2)) kV8 nVX
     obtain ⟨y0, y1, y2, y3, y4, y5, y6, y7, y8, y9, y10, y11⟩ := cells12 st8.box
     have fj := frozen8 st8.box 11
     generalize hwp : wp8.setCell ⟨X, 11, none⟩ (.int .i64 V2) = wp9 at st9 own9 kA9 kV9
     go_upto_region 10 with fail
     try rw [hwp]
     clear y0 y1 y2 y3 y4 y5 y6 y7 y8 y9 y10 y11 fj hwp st8 own8 kA8 kV8
     obtain ⟨B2, hB2⟩ : ∃ B2 : BR, B2 = { B with f := FL, vers := V2 } := ⟨_, rfl⟩
     have own9 : BrOwn wp9 w.heap.size a3 n c3 fa7 q7 fc7 ra3 rn rc3 oa3 on oc3 B2 := by rw [hB2]; exact ⟨own9.ports, own9.f, own9.v⟩
     have ecs : #[.slice a3 n c3, .int .i64 B.id, .string B.name, .slice none 0 0, .slice fa7 q7 fc7, .slice ra3 rn rc3, .slice oa3 on oc3, .int .i64 B.ticks, .int .i64 B.parse, .int .i64 B.word, .int .i64 B.drops, .int .i64 V2] = (#[.slice a3 n c3, .int .i64 B2.id, .string B2.name, .slice none 0 0, .slice fa7 q7 fc7, .slice ra3 rn rc3, .slice oa3 on oc3, .int .i64 B2.ticks, .int .i64 B2.parse, .int .i64 B2.word, .int .i64 B2.drops, .int .i64 B2.vers] : Array Value) := by rw [hB2]
     rw [ecs] at st9
     clear ecs
     have HTL : Hid (fwdB B (k : Int) fd fs ft l1 = B2) := hide (by rw [hB2]; exact HTL0.out)
     have HSIX : Hid (outTo B2.v id (waysB B2 k id fd B2.f) fd fs z1 6 = fwdO B (k : Int) fd fs ft l1 z1) := hide (by rw [hB2]; exact HSX.out)
     have hF2 : fdbOk B2.f = true := by rw [hB2]; exact HFO.out
     have hRb : ∀ r ∈ B2.v.rows, r.Rng ∧ 0 ≤ r.b ∧ r.b ≤ 63 := by rw [hB2]; exact fun r hr => ⟨hRv r hr, vrows_small (bridgeOk_parts HOK.out).2.2.2.2.2.1 r hr⟩
     clear hB2
     obtain ⟨y0, y1, y2, y3, y4, y5, y6, y7, y8, y9, y10, y11⟩ := cells12 st9.box
     go_wp2_with fail
     refine (implFace_any a3 n c3 fa7 q7 fc7 ra3 rn rc3 oa3 on oc3 B2 _).mono ?_
     rintro e w10 ⟨rfl, hb10⟩
     have st9 := st9.later hb10
     have own9 := own9.below hb10
     have kV9 := kept_block kV9 hb10
     clear hb10 y0 y1 y2 y3 y4 y5 y6 y7 y8 y9 y10 y11 kA9
     generalize hw11 : w10.alloc (Obj.cells #[.int .i64 B2.id, .string B2.name, .slice a3 n c3, .slice fa7 q7 fc7, .slice ra3 rn rc3, .slice oa3 on oc3, .int .i64 B2.ticks, .int .i64 B2.parse, .int .i64 B2.word, .int .i64 B2.drops, .int .i64 B2.vers] 31) = w11
     have b11 : Below w10.heap.size w10 w11 := by rw [← hw11]; exact below_one _ _
     have kY : w11.heap[w10.heap.size]? = some (.cells #[.int .i64 B2.id, .string B2.name, .slice a3 n c3, .slice fa7 q7 fc7, .slice ra3 rn rc3, .slice oa3 on oc3, .int .i64 B2.ticks, .int .i64 B2.parse, .int .i64 B2.word, .int .i64 B2.drops, .int .i64 B2.vers] 31) := by rw [← hw11]; exact block_last _ _
     have nYR : ¬ w10.heap.size = R := by have := (Array.getElem?_eq_some_iff.1 st9.res).1; omega
     have hR0 := st9.hR
     have kR := kept_block st9.res b11
     have kV := kept_block kV9 b11
     have own := own9.below b11
     have vv0 := gr_trans st9.below b11
     go_upto_region 11 with fail
     try rw [hw11]
     clear hw11 b11 st9 own9 kV9
     generalize hYb : w10.heap.size = Yb at *
     clear hYb
     have vv : Below w.heap.size w w11.drew := gr_drew vv0
     have kY : w11.drew.heap[Yb]? = _ := kY
     have kR : w11.drew.heap[R]? = _ := kR
     have kV : w11.drew.heap[Vb]? = _ := kV
     have own := own.below (gr_drew (Below.refl _ _))
     clear vv0
     go_wp2_with fail
     refine wp_region_held_drew (S := (fun W => (W.cell? ⟨Yb, 0, none⟩ = some (.int .i64 B2.id) ∧ W.cell? ⟨Yb, 1, none⟩ = some (.string B2.name) ∧ W.cell? ⟨Yb, 2, none⟩ = some (.slice a3 n c3) ∧ W.cell? ⟨Yb, 3, none⟩ = some (.slice fa7 q7 fc7) ∧ W.cell? ⟨Yb, 4, none⟩ = some (.slice ra3 rn rc3) ∧ W.cell? ⟨Yb, 5, none⟩ = some (.slice oa3 on oc3) ∧ W.cell? ⟨Yb, 6, none⟩ = some (.int .i64 B2.ticks) ∧ W.cell? ⟨Yb, 7, none⟩ = some (.int .i64 B2.parse) ∧ W.cell? ⟨Yb, 8, none⟩ = some (.int .i64 B2.word) ∧ W.cell? ⟨Yb, 9, none⟩ = some (.int .i64 B2.drops) ∧ W.cell? ⟨Yb, 10, none⟩ = some (.int .i64 B2.vers)) ∧ (W.cell? ⟨Vb, 0, none⟩ = some (.int .i64 fd) ∧ W.cell? ⟨Vb, 1, none⟩ = some (.int .i64 fs) ∧ W.cell? ⟨Vb, 2, none⟩ = some (.int .i64 ft) ∧ W.cell? ⟨Vb, 3, none⟩ = some (.slice a1 l1 c1)))) (by kernel_rfl) (⟨cells11 kY, (cells4 kV).1⟩) (fun hHeld => ?_)
     refine kK 0 ⟨some 67, .load 31 (.tmp 11), 31, "l12_forward.go:23", #[], none⟩ ?_
     refine kK 1 ⟨some 68, .load 31 (.tmp 11), 31, "l12_forward.go:23", #[], none⟩ ?_
     refine kK 2 ⟨some 69, .load 31 (.tmp 11), 31, "l12_forward.go:23", #[], none⟩ ?_
     refine kK 3 ⟨some 70, .move (.tmp 1), 3, "l12_forward.go:23", #[], none⟩ ?_
     refine kK 4 ⟨some 71, .move (.tmp 9), 3, "l12_forward.go:23", #[], none⟩ ?_
     refine kK 5 ⟨some 72, .fieldAddr 33 (.tmp 5) 0, 0, "l12_forward.go:23", #[], none⟩ ?_
     refine kK 6 ⟨some 73, .load 3 (.tmp 72), 3, "l12_forward.go:23", #[⟨5, .data⟩], none⟩ ?_
     refine kK 8 ⟨some 75, .move (.tmp 9), 3, "l12_forward.go:23", #[], none⟩ ?_
     refine kK 9 ⟨some 76, .load 33 (.tmp 5), 33, "l12_forward.go:23", #[], none⟩ ?_
     refine tR [7] ?_
     refine AllReadyH.cons (o := ⟨some 74, .call ⟨.value (.func 47), #[.tmp 69, .tmp 70, .tmp 71, .tmp 73], #[31, 3, 3, 3]⟩, 3, "l12_forward.go:23", #[⟨2, .data⟩, ⟨3, .data⟩, ⟨4, .data⟩, ⟨6, .data⟩], none⟩) rfl (fun K hK => ?_) ?_
     ·go_simp
      refine (implWays_any a3 n c3 fa7 q7 fc7 ra3 rn rc3 oa3 on oc3 B2 k id fd _ own.row hF2 (by omega) (by omega)).mono ?_
      rintro e wt ⟨rfl, hbt⟩
      have kV := kept_block kV hbt
      have kY := kept_block kY hbt
      have kR := kept_block kR hbt
      have own := own.below hbt
      have vv := gr_trans vv hbt
      clear hbt
      go_wp2_with fail
      refine hK.out _ _ (⟨cells11 kY, (cells4 kV).1⟩) (fun hHeld => ?_)
      clear hK K
      try simp only [Act.put, lA, lB, lC]
      refine tR [10] ?_
      refine AllReadyH.cons (o := ⟨some 77, .call ⟨.value (.func 46), #[.tmp 68, .tmp 74, .tmp 75, .tmp 76], #[31, 3, 3, 33]⟩, 36, "l12_forward.go:23", #[⟨1, .data⟩, ⟨7, .data⟩, ⟨8, .data⟩, ⟨9, .data⟩, ⟨7, .chain⟩], none⟩) rfl (fun K hK => ?_) ?_
      ·go_simp
       refine (implOuts_made a3 n c3 fa7 q7 fc7 ra3 rn rc3 oa3 on oc3 B2 id (waysB B2 k id fd B2.f) fd fs ft a1 l1 c1 z1 _ own.row (h1.below vv) (by omega) (ways_i64 _ _ _ _ _) hRb).mono ?_
       rintro e wt ⟨ao9, cp9, L9, rfl, oL, hM, hbt⟩
       have oL := oL.lt (base' := w.heap.size) vv.size
       have kV := kept_block kV hbt
       have kY := kept_block kY hbt
       have kR := kept_block kR hbt
       have own := own.below hbt
       have vv := gr_trans vv hbt
       clear hbt
       go_wp2_with fail
       refine hK.out _ _ (⟨cells11 kY, (cells4 kV).1⟩) (fun hHeld => ?_)
       clear hK K
       try simp only [Act.put, lA, lB, lC]
       refine tR [11] ?_
       refine AllReadyH.cons (o := ⟨none, .store 31 (.tmp 6) (.tmp 67), 0, "l12_forward.go:23", #[⟨0, .data⟩, ⟨10, .chain⟩, ⟨0, .phase⟩, { on := 1, ground := Ground.textOnly Departure.lateStores }, { on := 2, ground := Ground.textOnly Departure.lateStores }, { on := 3, ground := Ground.textOnly Departure.lateStores }, { on := 4, ground := Ground.textOnly Departure.lateStores }, { on := 5, ground := Ground.textOnly Departure.lateStores }, { on := 6, ground := Ground.textOnly Departure.lateStores }, { on := 7, ground := Ground.textOnly Departure.lateStoresUnsure }, { on := 8, ground := Ground.textOnly Departure.lateStores }, { on := 9, ground := Ground.textOnly Departure.lateStores }, { on := 10, ground := Ground.textOnly Departure.lateStoresUnsure }], none⟩) rfl (fun K hK => ?_) ?_
       ·obtain ⟨b0, b1, b2, b3, b4, b5, b6, b7, b8, b9, b10⟩ := cells11 kR
        have fr := frozen8 kR
        have fr0 := fr 0
        have fr1 := fr 1
        have fr2 := fr 2
        have fr3 := fr 3
        have fr4 := fr 4
        have fr5 := fr 5
        have fr6 := fr 6
        have fr7 := fr 7
        have fr8 := fr 8
        have fr9 := fr 9
        have fr10 := fr 10
        go_simp
        clear b0 b1 b2 b3 b4 b5 b6 b7 b8 b9 b10 fr0 fr1 fr2 fr3 fr4 fr5 fr6 fr7 fr8 fr9 fr10 fr
        have vv := below_set11 vv hR0 (.int .i64 B2.id) (.string B2.name) (.slice a3 n c3) (.slice fa7 q7 fc7) (.slice ra3 rn rc3) (.slice oa3 on oc3) (.int .i64 B2.ticks) (.int .i64 B2.parse) (.int .i64 B2.word) (.int .i64 B2.drops) (.int .i64 B2.vers)
        have own := own.boxed11 kR (.int .i64 B2.id) (.string B2.name) (.slice a3 n c3) (.slice fa7 q7 fc7) (.slice ra3 rn rc3) (.slice oa3 on oc3) (.int .i64 B2.ticks) (.int .i64 B2.parse) (.int .i64 B2.word) (.int .i64 B2.drops) (.int .i64 B2.vers)
        try have oL := oL.put11 kR (by decide) (by decide) (.int .i64 B2.id) (.string B2.name) (.slice a3 n c3) (.slice fa7 q7 fc7) (.slice ra3 rn rc3) (.slice oa3 on oc3) (.int .i64 B2.ticks) (.int .i64 B2.parse) (.int .i64 B2.word) (.int .i64 B2.drops) (.int .i64 B2.vers)
        have kV := kept_set11 kV nVR (.int .i64 B2.id) (.string B2.name) (.slice a3 n c3) (.slice fa7 q7 fc7) (.slice ra3 rn rc3) (.slice oa3 on oc3) (.int .i64 B2.ticks) (.int .i64 B2.parse) (.int .i64 B2.word) (.int .i64 B2.drops) (.int .i64 B2.vers)
        have kY := kept_set11 kY nYR (.int .i64 B2.id) (.string B2.name) (.slice a3 n c3) (.slice fa7 q7 fc7) (.slice ra3 rn rc3) (.slice oa3 on oc3) (.int .i64 B2.ticks) (.int .i64 B2.parse) (.int .i64 B2.word) (.int .i64 B2.drops) (.int .i64 B2.vers)
        have kR := set_box11B kR (.int .i64 B2.id) (.string B2.name) (.slice a3 n c3) (.slice fa7 q7 fc7) (.slice ra3 rn rc3) (.slice oa3 on oc3) (.int .i64 B2.ticks) (.int .i64 B2.parse) (.int .i64 B2.word) (.int .i64 B2.drops) (.int .i64 B2.vers)
        refine hK.out _ _ (⟨cells11 kY, (cells4 kV).1⟩) (fun hHeld => ?_)
        clear hK K
        try simp only [Act.put, lA, lB, lC]
        refine kK 12 ⟨some 7, .assign (.tmp 77), 36, "l12_forward.go:23", #[⟨10, .data⟩, ⟨11, .chain⟩, ⟨0, .phase⟩, ⟨1, .phase⟩, ⟨2, .phase⟩, ⟨3, .phase⟩, ⟨4, .phase⟩, ⟨5, .phase⟩, ⟨6, .phase⟩, ⟨7, .phase⟩, ⟨8, .phase⟩, ⟨9, .phase⟩, ⟨10, .phase⟩, ⟨11, .phase⟩], none⟩ ?_
        refine wpAnyH_done (by kernel_rfl) ?_ _
        clear hHeld
        obtain ⟨u0, u1, u2, u3, u4, u5, u6, u7, u8, u9, u10⟩ := cells11 kR
        have HO := hide own
        have HL := hide oL
        have HB := hide vv
        have HMM := hide hM
        clear own oL vv hM kV kY kR
        go_wp2
        exact bodyPost_ret (v := .tuple #[.agg #[.int .i64 B2.id, .string B2.name, .slice a3 n c3, .slice fa7 q7 fc7, .slice ra3 rn rc3, .slice oa3 on oc3, .int .i64 B2.ticks, .int .i64 B2.parse, .int .i64 B2.word, .int .i64 B2.drops, .int .i64 B2.vers], .slice ao9 L9.length cp9]) (by simp [results, Tryz.results8, go_sem, *]) rfl ⟨a3, n, c3, fa7, q7, fc7, ra3, rn, rc3, oa3, on, oc3, ao9, cp9, L9, (by rw [HTL.out]), (by rw [HTL.out]; exact HO.out), HL.out, (by rw [HMM.out, HSIX.out]), HB.out⟩
       exact AllReadyH.nil
      exact AllReadyH.nil
     exact AllReadyH.nil

end Go.Proofs.YtddalpglihhipaaGreat
