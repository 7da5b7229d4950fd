/-
  What comes of a frame, as the specification has it.
-/
import Derived.Test.YtddalpglihhipaaGreatPSKW
import Derived.Test.YtddalpglihhipaaGreatPSK01
import Derived.Test.YtddalpglihhipaaGreatPSK04
import Derived.Test.YtddalpglihhipaaGreatPSK11
import Derived.Test.YtddalpglihhipaaGreatPSK17
import Derived.Test.YtddalpglihhipaaGreatPSK18
import Derived.Deep.CutRange
namespace Go.Proofs.YtddalpglihhipaaGreat
open Go.RowKit

set_option maxRecDepth 100000 in
set_option maxHeartbeats 16000000 in
theorem specForward_made (a : Option Addr) (n c : Nat) (fa : Option Addr) (fn fc : Nat) (ra : Option Addr) (rn rc : Nat) (oa : Option Addr) (on oc : Nat) (B : BR) (port : Int) (fd fs ft : Int) (a1 : Option Addr) (l1 c1 : Nat) (z1 : List Int) (w : World) (h : BrRow w a n c fa fn fc ra rn rc oa on oc B) (h1 : Row w a1 l1 c1 z1) (hn : n ≤ 1048576) (hfn : fn ≤ 1048576) (hrn : rn ≤ 1048576) (hon : on ≤ 1048576) (hl1 : l1 ≤ 1048576) :
  Calls Tryz.prog 9 #[.agg #[.int .i64 B.id, .string B.name, .slice a n c, .slice fa fn fc, .slice ra rn rc, .slice oa on oc, .int .i64 B.ticks, .int .i64 B.parse, .int .i64 B.word, .int .i64 B.drops, .int .i64 B.vers], .int .i64 port, .agg #[.int .i64 fd, .int .i64 fs, .int .i64 ft, .slice a1 l1 c1]] w fun e w' => ∃ (a2 : Option Addr) (n2 c2 : Nat) (fa2 : Option Addr) (fn2 fc2 : Nat) (ra2 : Option Addr) (rn2 rc2 : Nat) (oa2 : Option Addr) (on2 oc2 : Nat) (ao : Option Addr) (cp : Nat) (L : List OI), e = .returned (.tuple #[.agg #[.int .i64 (fwdB B port fd fs ft l1).id, .string (fwdB B port fd fs ft l1).name, .slice a2 n2 c2, .slice fa2 fn2 fc2, .slice ra2 rn2 rc2, .slice oa2 on2 oc2, .int .i64 (fwdB B port fd fs ft l1).ticks, .int .i64 (fwdB B port fd fs ft l1).parse, .int .i64 (fwdB B port fd fs ft l1).word, .int .i64 (fwdB B port fd fs ft l1).drops, .int .i64 (fwdB B port fd fs ft l1).vers], .slice ao L.length cp]) ∧ BrOwn w' w.heap.size a2 n2 c2 fa2 fn2 fc2 ra2 rn2 rc2 oa2 on2 oc2 (fwdB B port fd fs ft l1) ∧ OOwns w' w.heap.size ao L.length cp L ∧ L.map OI.v = fwdO B port fd fs ft l1 z1 ∧ Below w.heap.size w w' := by
 generalize hw1 : w.alloc (Obj.cells #[.int .i64 B.id, .string B.name, .slice a n c, .slice fa fn fc, .slice ra rn rc, .slice oa on oc, .int .i64 B.ticks, .int .i64 B.parse, .int .i64 B.word, .int .i64 B.drops, .int .i64 B.vers] 31) = w1
 have b01 : Below w.heap.size w w1 := by rw [← hw1]; exact below_one _ _
 have z1' : w.heap.size < w1.heap.size := by rw [← hw1]; simp
 generalize hwv : w1.alloc (Obj.cells #[.int .i64 fd, .int .i64 fs, .int .i64 ft, .slice a1 l1 c1] 33) = wv
 have b1v : Below w1.heap.size w1 wv := by rw [← hwv]; exact below_one _ _
 have zv : w1.heap.size < wv.heap.size := by rw [← hwv]; simp
 have b01v := gr_trans b01 b1v
 generalize hw2 : wv.alloc (Obj.cells #[.int .i64 0, .string ⟨#[]⟩, .slice none 0 0, .slice none 0 0, .slice none 0 0, .slice none 0 0, .int .i64 0, .int .i64 0, .int .i64 0, .int .i64 0, .int .i64 0] 31) = w2
 have b12 : Below wv.heap.size wv w2 := by rw [← hw2]; exact below_one _ _
 have z2 : wv.heap.size < w2.heap.size := by rw [← hw2]; simp
 have b02 := gr_trans b01v b12
 have kR2 : w2.heap[wv.heap.size]? = some (.cells #[.int .i64 0, .string ⟨#[]⟩, .slice none 0 0, .slice none 0 0, .slice none 0 0, .slice none 0 0, .int .i64 0, .int .i64 0, .int .i64 0, .int .i64 0, .int .i64 0] 31) := by rw [← hw2]; exact block_last _ _
 have kA2 : w2.heap[w.heap.size]? = some (.cells #[.int .i64 B.id, .string B.name, .slice a n c, .slice fa fn fc, .slice ra rn rc, .slice oa on oc, .int .i64 B.ticks, .int .i64 B.parse, .int .i64 B.word, .int .i64 B.drops, .int .i64 B.vers] 31) := kept_block (kept_block (by rw [← hw1]; exact block_last _ _) b1v) b12
 have kV2 : w2.heap[w1.heap.size]? = some (Obj.cells #[.int .i64 fd, .int .i64 fs, .int .i64 ft, .slice a1 l1 c1] 33) := kept_block (by rw [← hwv]; exact block_last _ _) b12
 obtain ⟨x0, x1, x2, x3, x4, x5, x6, x7, x8, x9, x10⟩ := cells11 kA2
 go_enter Tryz.func9, Tryz.ntmps9
 go_wp2_with fail
 refine (specCopyB_made a n c fa fn fc ra rn rc oa on oc B _ (h.below b02) (by omega) (by omega) (by omega) (by omega)).mono ?_
 rintro e w3 ⟨a3, c3, fa3, fc3, ra3, rc3, oa3, oc3, rfl, o3, hb3⟩
 generalize hw4 : w3.alloc (Obj.cells #[.int .i64 B.id, .string B.name, .slice a3 n c3, .slice fa3 fn fc3, .slice ra3 rn rc3, .slice oa3 on oc3, .int .i64 B.ticks, .int .i64 B.parse, .int .i64 B.word, .int .i64 B.drops, .int .i64 B.vers] 31) = w4
 have b34 : Below w3.heap.size w3 w4 := by rw [← hw4]; exact below_one _ _
 have d24 := gr_trans hb3 b34
 have hs23 := hb3.size
 have st4 : BcSt w w4 wv.heap.size w3.heap.size #[.int .i64 B.id, .string B.name, .slice a3 n c3, .slice fa3 fn fc3, .slice ra3 rn rc3, .slice oa3 on oc3, .int .i64 B.ticks, .int .i64 B.parse, .int .i64 B.word, .int .i64 B.drops, .int .i64 B.vers] := ⟨by rw [← hw4]; exact block_last _ _, kept_block kR2 d24, gr_trans b02 d24, by omega, by omega, by omega⟩
 have kA4 := kept_block kA2 d24
 have kV4 := kept_block kV2 d24
 have own4 := (o3.lt (base' := w.heap.size) b02.size).below b34
 have nAX : ¬ w.heap.size = w3.heap.size := by omega
 have nXA : ¬ w3.heap.size = w.heap.size := by omega
 have nAR : ¬ w.heap.size = wv.heap.size := by omega
 have nVX : ¬ w1.heap.size = w3.heap.size := by omega
 have nXV : ¬ w3.heap.size = w1.heap.size := by omega
 have nVR : ¬ w1.heap.size = wv.heap.size := by omega
 go_upto_region 2 with fail
 try rw [hw4]
 generalize hwN : w4.alloc (Obj.cells #[] 48) = wN
 have bN : Below w4.heap.size w4 wN := by rw [← hwN]; exact below_one _ _
 have st5 := st4.later bN
 have own5 := own4.below bN
 have kA5 := kept_block kA4 bN
 have kV5 := kept_block kV4 bN
 have oN : OOwns wN w.heap.size (some ⟨w4.heap.size, 0, none⟩) 0 0 [] := ⟨flat_nil outF w wN 48 w4.heap.size (by rw [← hwN]; exact block_last _ _) st4.below.size, (by intro x hx; cases hx), List.nodup_nil⟩
 clear x0 x1 x2 x3 x4 x5 x6 x7 x8 x9 x10
 go_upto_region 3 with fail
 try rw [hwN]
 clear hwN bN st4 own4 kA4 kV4 hw4 hw2 hw1 hwv hb3 b34 o3 d24 hs23 b02 b12 b01 z1' z2 kA2 kR2 kV2 zv b1v b01v
 generalize hNb : w4.heap.size = Nb at *
 generalize hX : w3.heap.size = X at *
 generalize hR : wv.heap.size = R at *
 generalize hVb : w1.heap.size = Vb at *
 clear hX hR hVb hNb
 obtain ⟨w5, hw5⟩ : ∃ x, x = wN := ⟨_, rfl⟩
 subst hw5
 cases htb : thereB B port
 ·have hT : fwdB B port fd fs ft l1 = B := by unfold fwdB; rw [htb]; rfl
  have hTO : fwdO B port fd fs ft l1 z1 = [] := by unfold fwdO; rw [htb]; rfl
  have HTH := hide htb
  clear htb
  obtain ⟨x0, x1, x2, x3, x4, x5, x6, x7, x8, x9, x10⟩ := cells11 kA5
  go_wp2_with fail
  refine (specThere_any a n c fa fn fc ra rn rc oa on oc B port _ (h.below st5.below)).mono ?_
  rintro e w6 ⟨rfl, hb6⟩
  rw [HTH.out]
  clear x0 x1 x2 x3 x4 x5 x6 x7 x8 x9 x10
  have st6 := st5.later hb6
  have own6 := own5.below hb6
  have kA6 := kept_block kA5 hb6
  have kV6 := kept_block kV5 hb6
  have oN := oN.below hb6
  clear hb6 st5 own5 kA5 kV5
  obtain ⟨y0, y1, y2, y3, y4, y5, y6, y7, y8, y9, y10⟩ := cells11 st6.box
  obtain ⟨u0, u1, u2, u3, u4, u5, u6, u7, u8, u9, u10⟩ := cells11 st6.res
  have fr := frozen8 st6.res
  have fr0 := fr 0
  have fr1 := fr 1
  have fr2 := fr 2
  have fr3 := fr 3
  have fr4 := fr 4
  have fr5 := fr 5
  have fr6 := fr 6
  have fr7 := fr 7
  have fr8 := fr 8
  have fr9 := fr 9
  have fr10 := fr 10
  have ne1 : ¬ X = R := fun e => st6.ne e.symm
  have ne2 : ¬ R = X := st6.ne
  obtain ⟨HO0, HB0⟩ := st6.out own6 (.int .i64 B.id) (.string B.name) (.slice a3 n c3) (.slice fa3 fn fc3) (.slice ra3 rn rc3) (.slice oa3 on oc3) (.int .i64 B.ticks) (.int .i64 B.parse) (.int .i64 B.word) (.int .i64 B.drops) (.int .i64 B.vers)
  have HO := hide HO0
  have HB := hide HB0
  have HN := hide (oN.put11 st6.res (by decide) (by decide) (.int .i64 B.id) (.string B.name) (.slice a3 n c3) (.slice fa3 fn fc3) (.slice ra3 rn rc3) (.slice oa3 on oc3) (.int .i64 B.ticks) (.int .i64 B.parse) (.int .i64 B.word) (.int .i64 B.drops) (.int .i64 B.vers))
  have HT := hide hT
  have HTO := hide hTO
  clear fr st6 own6 HO0 HB0 hT hTO oN
  go_wp2
  exact bodyPost_ret (v := .tuple #[.agg #[.int .i64 B.id, .string B.name, .slice a3 n c3, .slice fa3 fn fc3, .slice ra3 rn rc3, .slice oa3 on oc3, .int .i64 B.ticks, .int .i64 B.parse, .int .i64 B.word, .int .i64 B.drops, .int .i64 B.vers], .slice (some ⟨Nb, 0, none⟩) 0 0]) (by simp [results, Tryz.results9, go_sem, *]) rfl ⟨a3, n, c3, fa3, fn, fc3, ra3, rn, rc3, oa3, on, oc3, some ⟨Nb, 0, none⟩, 0, [], (by rw [HT.out]; rfl), (by rw [HT.out]; exact ⟨HO.out.ports, HO.out.f, HO.out.v⟩), HN.out, (by rw [HTO.out]; rfl), HB.out⟩
 ·obtain ⟨k, rfl, hk1, x, hx⟩ := there_at h.ports.size htb
  have hok := there_ok htb
  obtain ⟨hb6', hv0, hv1, ht0, ht1⟩ := ok_bounds hok
  have hpl := h.ports.size
  rw [hpl] at hb6'
  have hdr := (in1m_iff B.drops).1 (bridgeOk_parts hok).2.2.2.2.2.2.2.2.2.1
  have hon8 : on ≤ 8 := by have h1 := vtab_own6 (bridgeOk_parts hok).2.2.2.2.2.1; have h2 := h.v.own.size; omega
  have HTH := hide htb
  have HOK := hide hok
  clear htb hx x hok
  obtain ⟨x0, x1, x2, x3, x4, x5, x6, x7, x8, x9, x10⟩ := cells11 kA5
  obtain ⟨⟨v0, v1, v2, v3⟩, -⟩ := cells4 kV5
  go_wp2_with fail
  refine (specThere_any a n c fa fn fc ra rn rc oa on oc B (k : Int) _ (h.below st5.below)).mono ?_
  rintro e w6 ⟨rfl, hb6⟩
  rw [HTH.out]
  clear x0 x1 x2 x3 x4 x5 x6 x7 x8 x9 x10 v0 v1 v2 v3
  have st5 := st5.later hb6
  have own5 := own5.below hb6
  have kA5 := kept_block kA5 hb6
  have kV5 := kept_block kV5 hb6
  have oN := oN.below hb6
  clear hb6
  obtain ⟨⟨v0, v1, v2, v3⟩, -⟩ := cells4 kV5
  go_wp2_with fail
  refine (specFrameOk_any fd fs ft a1 l1 c1 z1 _ (h1.below st5.below)).mono ?_
  rintro e w6b ⟨rfl, hb6⟩
  clear v0 v1 v2 v3
  have st6 := st5.later hb6
  have own6 := own5.below hb6
  have kA6 := kept_block kA5 hb6
  have kV6 := kept_block kV5 hb6
  have oN := oN.below hb6
  clear hb6 st5 own5 kA5 kV5
  obtain ⟨w6, hw6⟩ : ∃ x, x = w6b := ⟨_, rfl⟩
  subst hw6
  cases hfk : okF fd fs ft l1
  ·have hT : fwdB B (k : Int) fd fs ft l1 = B := by unfold fwdB; rw [HTH.out, hfk]; rfl
   have hTO : fwdO B (k : Int) fd fs ft l1 z1 = [] := by unfold fwdO; rw [HTH.out, hfk]; rfl
   clear hfk
   obtain ⟨y0, y1, y2, y3, y4, y5, y6, y7, y8, y9, y10⟩ := cells11 st6.box
   obtain ⟨u0, u1, u2, u3, u4, u5, u6, u7, u8, u9, u10⟩ := cells11 st6.res
   have fr := frozen8 st6.res
   have fr0 := fr 0
   have fr1 := fr 1
   have fr2 := fr 2
   have fr3 := fr 3
   have fr4 := fr 4
   have fr5 := fr 5
   have fr6 := fr 6
   have fr7 := fr 7
   have fr8 := fr 8
   have fr9 := fr 9
   have fr10 := fr 10
   have ne1 : ¬ X = R := fun e => st6.ne e.symm
   have ne2 : ¬ R = X := st6.ne
   obtain ⟨HO0, HB0⟩ := st6.out own6 (.int .i64 B.id) (.string B.name) (.slice a3 n c3) (.slice fa3 fn fc3) (.slice ra3 rn rc3) (.slice oa3 on oc3) (.int .i64 B.ticks) (.int .i64 B.parse) (.int .i64 B.word) (.int .i64 B.drops) (.int .i64 B.vers)
   have HO := hide HO0
   have HB := hide HB0
   have HN := hide (oN.put11 st6.res (by decide) (by decide) (.int .i64 B.id) (.string B.name) (.slice a3 n c3) (.slice fa3 fn fc3) (.slice ra3 rn rc3) (.slice oa3 on oc3) (.int .i64 B.ticks) (.int .i64 B.parse) (.int .i64 B.word) (.int .i64 B.drops) (.int .i64 B.vers))
   have HT := hide hT
   have HTO := hide hTO
   clear fr st6 own6 HO0 HB0 hT hTO oN
   go_wp2
   exact bodyPost_ret (v := .tuple #[.agg #[.int .i64 B.id, .string B.name, .slice a3 n c3, .slice fa3 fn fc3, .slice ra3 rn rc3, .slice oa3 on oc3, .int .i64 B.ticks, .int .i64 B.parse, .int .i64 B.word, .int .i64 B.drops, .int .i64 B.vers], .slice (some ⟨Nb, 0, none⟩) 0 0]) (by simp [results, Tryz.results9, go_sem, *]) rfl ⟨a3, n, c3, fa3, fn, fc3, ra3, rn, rc3, oa3, on, oc3, some ⟨Nb, 0, none⟩, 0, [], (by rw [HT.out]; rfl), (by rw [HT.out]; exact ⟨HO.out.ports, HO.out.f, HO.out.v⟩), HN.out, (by rw [HTO.out]; rfl), HB.out⟩
  ·have HFK := hide hfk
   clear hfk
   obtain ⟨x0, x1, x2, x3, x4, x5, x6, x7, x8, x9, x10⟩ := cells11 kA6
   go_wp2_with fail
   refine (specSends_any B.id a n c B.ports _ (h.ports.below st6.below)).mono ?_
   rintro e w6b ⟨rfl, hb6⟩
   clear x0 x1 x2 x3 x4 x5 x6 x7 x8 x9 x10
   have st6 := st6.later hb6
   have own6 := own6.below hb6
   have kA6 := kept_block kA6 hb6
   have kV6 := kept_block kV6 hb6
   have oN := oN.below hb6
   clear hb6
   obtain ⟨x0, x1, x2, x3, x4, x5, x6, x7, x8, x9, x10⟩ := cells11 kA6
   obtain ⟨⟨v0, v1, v2, v3⟩, -⟩ := cells4 kV6
   go_wp2_with fail
   refine (specClassOf_any ra rn rc oa on oc B.v (k : Int) ft _ (h.v.below st6.below) hon8).mono ?_
   rintro e w6c ⟨rfl, hb6⟩
   clear x0 x1 x2 x3 x4 x5 x6 x7 x8 x9 x10 v0 v1 v2 v3
   have st6 := st6.later hb6
   have own6 := own6.below hb6
   have kA6 := kept_block kA6 hb6
   have kV6 := kept_block kV6 hb6
   have oN := oN.below hb6
   clear hb6
   obtain ⟨w6d, hw6d⟩ : ∃ x, x = w6c := ⟨_, rfl⟩
   subst hw6d
   generalize hci : (classOf B.v (k : Int) ft).1 = id
   have HCI := hide hci
   clear hci
   have HLT : Hid (letB B (k : Int) ft = (bitOf (sendsOf B.id B.ports) (k : Int) && (classOf B.v (k : Int) ft).2)) := hide rfl
   generalize hcq : (classOf B.v (k : Int) ft).2 = cq
   rw [hcq] at HLT
   clear hcq
   go_wp2_with fail
   refine (specBit_any (sendsOf B.id B.ports) (k : Int) _).mono ?_
   rintro e w6e ⟨rfl, e6⟩
   obtain rfl := e6.symm
   generalize hbq : bitOf (sendsOf B.id B.ports) (k : Int) = bq
   rw [hbq] at HLT
   clear hbq
   obtain ⟨x0, x1, x2, x3, x4, x5, x6, x7, x8, x9, x10⟩ := cells11 kA6
   obtain ⟨⟨v0, v1, v2, v3⟩, -⟩ := cells4 kV6
   obtain ⟨w6, hw6⟩ : ∃ x, x = w6d := ⟨_, rfl⟩
   subst hw6
   cases bq
   ·have hlet : letB B (k : Int) ft = false := by rw [HLT.out]; rfl
    clear v0 v1 v2 v3
    have hT : fwdB B (k : Int) fd fs ft l1 = { B with drops := oneMore B.drops } := by unfold fwdB; rw [HTH.out, HFK.out, hlet]; rfl
    have hTO : fwdO B (k : Int) fd fs ft l1 z1 = [] := by unfold fwdO; rw [HTH.out, HFK.out, hlet]; rfl
    clear hlet
    obtain ⟨V1, hV1⟩ : ∃ V, V = oneMore B.drops := ⟨_, rfl⟩
    rw [← hV1] at hT
    have HTd := hide hT
    have HTOd := hide hTO
    clear hT hTO
    go_wp2_with fail
    refine (specOne_any B.drops _ (by omega) (by omega)).mono ?_
    rintro e w7 ⟨rfl, e7⟩
    obtain rfl := e7.symm
    rw [← hV1]
    clear hV1 x0 x1 x2 x3 x4 x5 x6 x7 x8 x9 x10
    have st7 := st6.put 9 (.int .i64 V1) (cs' := #[.int .i64 B.id, .string B.name, .slice a3 n c3, .slice fa3 fn fc3, .slice ra3 rn rc3, .slice oa3 on oc3, .int .i64 B.ticks, .int .i64 B.parse, .int .i64 B.word, .int .i64 V1, .int .i64 B.vers]) rfl
    have own7 := own6.boxed st6.box 9 (.int .i64 V1)
    have oN7 := oN.put st6.box (by decide) (by decide) 9 (.int .i64 V1)
    have kA7 := kept_set (b := X) (j := 9) (u := (.int .i64 V1)) kA6 nAX
    have kV7 := kept_set (b := X) (j := 9) (u := (.int .i64 V1)) kV6 nVX
    obtain ⟨y0, y1, y2, y3, y4, y5, y6, y7, y8, y9, y10⟩ := cells11 st6.box
    have fj := frozen8 st6.box 9
    generalize hwp : w6.setCell ⟨X, 9, none⟩ (.int .i64 V1) = wp7 at st7 own7 oN7 kA7 kV7
    go_upto_region 9 with fail
    try rw [hwp]
    clear y0 y1 y2 y3 y4 y5 y6 y7 y8 y9 y10 fj hwp st6 own6 kA6 kV6 oN
    have oN := oN7
    clear oN7
    have hT := HTd.out
    have hTO := HTOd.out
    obtain ⟨y0, y1, y2, y3, y4, y5, y6, y7, y8, y9, y10⟩ := cells11 st7.box
    obtain ⟨u0, u1, u2, u3, u4, u5, u6, u7, u8, u9, u10⟩ := cells11 st7.res
    have fr := frozen8 st7.res
    have fr0 := fr 0
    have fr1 := fr 1
    have fr2 := fr 2
    have fr3 := fr 3
    have fr4 := fr 4
    have fr5 := fr 5
    have fr6 := fr 6
    have fr7 := fr 7
    have fr8 := fr 8
    have fr9 := fr 9
    have fr10 := fr 10
    have ne1 : ¬ X = R := fun e => st7.ne e.symm
    have ne2 : ¬ R = X := st7.ne
    obtain ⟨HO0, HB0⟩ := st7.out own7 (.int .i64 B.id) (.string B.name) (.slice a3 n c3) (.slice fa3 fn fc3) (.slice ra3 rn rc3) (.slice oa3 on oc3) (.int .i64 B.ticks) (.int .i64 B.parse) (.int .i64 B.word) (.int .i64 V1) (.int .i64 B.vers)
    have HO := hide HO0
    have HB := hide HB0
    have HN := hide (oN.put11 st7.res (by decide) (by decide) (.int .i64 B.id) (.string B.name) (.slice a3 n c3) (.slice fa3 fn fc3) (.slice ra3 rn rc3) (.slice oa3 on oc3) (.int .i64 B.ticks) (.int .i64 B.parse) (.int .i64 B.word) (.int .i64 V1) (.int .i64 B.vers))
    have HT := hide hT
    have HTO := hide hTO
    clear fr st7 own7 HO0 HB0 hT hTO oN
    go_wp2
    exact bodyPost_ret (v := .tuple #[.agg #[.int .i64 B.id, .string B.name, .slice a3 n c3, .slice fa3 fn fc3, .slice ra3 rn rc3, .slice oa3 on oc3, .int .i64 B.ticks, .int .i64 B.parse, .int .i64 B.word, .int .i64 V1, .int .i64 B.vers], .slice (some ⟨Nb, 0, none⟩) 0 0]) (by simp [results, Tryz.results9, go_sem, *]) rfl ⟨a3, n, c3, fa3, fn, fc3, ra3, rn, rc3, oa3, on, oc3, some ⟨Nb, 0, none⟩, 0, [], (by rw [HT.out]; rfl), (by rw [HT.out]; exact ⟨HO.out.ports, HO.out.f, HO.out.v⟩), HN.out, (by rw [HTO.out]; rfl), HB.out⟩
   ·cases cq
    ·have hlet : letB B (k : Int) ft = false := by rw [HLT.out]; rfl
     clear v0 v1 v2 v3
     have hT : fwdB B (k : Int) fd fs ft l1 = { B with drops := oneMore B.drops } := by unfold fwdB; rw [HTH.out, HFK.out, hlet]; rfl
     have hTO : fwdO B (k : Int) fd fs ft l1 z1 = [] := by unfold fwdO; rw [HTH.out, HFK.out, hlet]; rfl
     clear hlet
     obtain ⟨V1, hV1⟩ : ∃ V, V = oneMore B.drops := ⟨_, rfl⟩
     rw [← hV1] at hT
     have HTd := hide hT
     have HTOd := hide hTO
     clear hT hTO
     go_wp2_with fail
     refine (specOne_any B.drops _ (by omega) (by omega)).mono ?_
     rintro e w7 ⟨rfl, e7⟩
     obtain rfl := e7.symm
     rw [← hV1]
     clear hV1 x0 x1 x2 x3 x4 x5 x6 x7 x8 x9 x10
     have st7 := st6.put 9 (.int .i64 V1) (cs' := #[.int .i64 B.id, .string B.name, .slice a3 n c3, .slice fa3 fn fc3, .slice ra3 rn rc3, .slice oa3 on oc3, .int .i64 B.ticks, .int .i64 B.parse, .int .i64 B.word, .int .i64 V1, .int .i64 B.vers]) rfl
     have own7 := own6.boxed st6.box 9 (.int .i64 V1)
     have oN7 := oN.put st6.box (by decide) (by decide) 9 (.int .i64 V1)
     have kA7 := kept_set (b := X) (j := 9) (u := (.int .i64 V1)) kA6 nAX
     have kV7 := kept_set (b := X) (j := 9) (u := (.int .i64 V1)) kV6 nVX
     obtain ⟨y0, y1, y2, y3, y4, y5, y6, y7, y8, y9, y10⟩ := cells11 st6.box
     have fj := frozen8 st6.box 9
     generalize hwp : w6.setCell ⟨X, 9, none⟩ (.int .i64 V1) = wp7 at st7 own7 oN7 kA7 kV7
     go_upto_region 9 with fail
     try rw [hwp]
     clear y0 y1 y2 y3 y4 y5 y6 y7 y8 y9 y10 fj hwp st6 own6 kA6 kV6 oN
     have oN := oN7
     clear oN7
     have hT := HTd.out
     have hTO := HTOd.out
     obtain ⟨y0, y1, y2, y3, y4, y5, y6, y7, y8, y9, y10⟩ := cells11 st7.box
     obtain ⟨u0, u1, u2, u3, u4, u5, u6, u7, u8, u9, u10⟩ := cells11 st7.res
     have fr := frozen8 st7.res
     have fr0 := fr 0
     have fr1 := fr 1
     have fr2 := fr 2
     have fr3 := fr 3
     have fr4 := fr 4
     have fr5 := fr 5
     have fr6 := fr 6
     have fr7 := fr 7
     have fr8 := fr 8
     have fr9 := fr 9
     have fr10 := fr 10
     have ne1 : ¬ X = R := fun e => st7.ne e.symm
     have ne2 : ¬ R = X := st7.ne
     obtain ⟨HO0, HB0⟩ := st7.out own7 (.int .i64 B.id) (.string B.name) (.slice a3 n c3) (.slice fa3 fn fc3) (.slice ra3 rn rc3) (.slice oa3 on oc3) (.int .i64 B.ticks) (.int .i64 B.parse) (.int .i64 B.word) (.int .i64 V1) (.int .i64 B.vers)
     have HO := hide HO0
     have HB := hide HB0
     have HN := hide (oN.put11 st7.res (by decide) (by decide) (.int .i64 B.id) (.string B.name) (.slice a3 n c3) (.slice fa3 fn fc3) (.slice ra3 rn rc3) (.slice oa3 on oc3) (.int .i64 B.ticks) (.int .i64 B.parse) (.int .i64 B.word) (.int .i64 V1) (.int .i64 B.vers))
     have HT := hide hT
     have HTO := hide hTO
     clear fr st7 own7 HO0 HB0 hT hTO oN
     go_wp2
     exact bodyPost_ret (v := .tuple #[.agg #[.int .i64 B.id, .string B.name, .slice a3 n c3, .slice fa3 fn fc3, .slice ra3 rn rc3, .slice oa3 on oc3, .int .i64 B.ticks, .int .i64 B.parse, .int .i64 B.word, .int .i64 V1, .int .i64 B.vers], .slice (some ⟨Nb, 0, none⟩) 0 0]) (by simp [results, Tryz.results9, go_sem, *]) rfl ⟨a3, n, c3, fa3, fn, fc3, ra3, rn, rc3, oa3, on, oc3, some ⟨Nb, 0, none⟩, 0, [], (by rw [HT.out]; rfl), (by rw [HT.out]; exact ⟨HO.out.ports, HO.out.f, HO.out.v⟩), HN.out, (by rw [HTO.out]; rfl), HB.out⟩
    ·have hlet : letB B (k : Int) ft = true := by rw [HLT.out]; rfl
     have hT : fwdB B (k : Int) fd fs ft l1 = { B with f := learnF B.f id fs (k : Int), vers := oneMore B.vers } := by unfold fwdB; rw [HTH.out, HFK.out, hlet, HCI.out]; rfl
     have hTO : fwdO B (k : Int) fd fs ft l1 z1 = outTo B.v id (waysB B k id fd (learnF B.f id fs (k : Int))) fd fs z1 n := by unfold fwdO; rw [HTH.out, HFK.out, hlet, HCI.out, Int.toNat_natCast, hpl]; rfl
     clear hlet
     obtain ⟨V2, hV2⟩ : ∃ V, V = oneMore B.vers := ⟨_, rfl⟩
     rw [← hV2] at hT
     go_wp2_with fail
     refine (specLearn_any fa fn fc B.f id fs (k : Int) _ (h.f.below st6.below) (by omega)).mono ?_
     rintro e w7 ⟨fa7, fc7, rfl, oF, -, hb7⟩
     have oF := gown_lt oF (base' := w.heap.size) st6.below.size
     have hFok : fdbOk (learnF B.f id fs (k : Int)) = true := learn_ok (bridgeOk_parts HOK.out).2.2.2.2.1 _ _ _
     clear x0 x1 x2 x3 x4 x5 x6 x7 x8 x9 x10
     generalize hFL : learnF B.f id fs (k : Int) = FL at *
     have HLQ : Hid (FL.length ≤ 16777216) := hide (by rw [← hFL]; have := learn_len B.f id fs (k : Int); have := h.f.size; omega)
     clear hFL
     have HTL := hide hT
     have HTLO := hide hTO
     clear hT hTO
     generalize hq7 : FL.length = q7 at *
     have hq7' : q7 ≤ 16777216 := HLQ.out
     clear hq7
     have st7 := st6.later hb7
     have own7 := (own6.below hb7).putF (Below.refl _ _) oF
     have kA7 := kept_block kA6 hb7
     have kV7 := kept_block kV6 hb7
     have oN := oN.below hb7
     clear hb7 st6 own6 kA6 kV6 oF
     have st8 := st7.put 3 (.slice fa7 q7 fc7) (cs' := #[.int .i64 B.id, .string B.name, .slice a3 n c3, .slice fa7 q7 fc7, .slice ra3 rn rc3, .slice oa3 on oc3, .int .i64 B.ticks, .int .i64 B.parse, .int .i64 B.word, .int .i64 B.drops, .int .i64 B.vers]) rfl
     have own8 := own7.boxed st7.box 3 (.slice fa7 q7 fc7)
     have oN8 := oN.put st7.box (by decide) (by decide) 3 (.slice fa7 q7 fc7)
     have kA8 := kept_set (b := X) (j := 3) (u := (.slice fa7 q7 fc7)) kA7 nAX
     have kV8 := kept_set (b := X) (j := 3) (u := (.slice fa7 q7 fc7)) kV7 nVX
     obtain ⟨y0, y1, y2, y3, y4, y5, y6, y7, y8, y9, y10⟩ := cells11 st7.box
     have fj := frozen8 st7.box 3
     generalize hwp : w7.setCell ⟨X, 3, none⟩ (.slice fa7 q7 fc7) = wp8 at st8 own8 oN8 kA8 kV8
     go_upto_region 11 with fail
     try rw [hwp]
     clear y0 y1 y2 y3 y4 y5 y6 y7 y8 y9 y10 fj hwp st7 own7 kA7 kV7 oN
     have oN := oN8
     clear oN8
     obtain ⟨x0, x1, x2, x3, x4, x5, x6, x7, x8, x9, x10⟩ := cells11 kA8
     go_wp2_with fail
     refine (specOne_any B.vers _ (by omega) (by omega)).mono ?_
     rintro e w9 ⟨rfl, e9⟩
     obtain rfl := e9.symm
     rw [← hV2]
     clear hV2 x0 x1 x2 x3 x4 x5 x6 x7 x8 x9 x10
     have st9 := st8.put 10 (.int .i64 V2) (cs' := #[.int .i64 B.id, .string B.name, .slice a3 n c3, .slice fa7 q7 fc7, .slice ra3 rn rc3, .slice oa3 on oc3, .int .i64 B.ticks, .int .i64 B.parse, .int .i64 B.word, .int .i64 B.drops, .int .i64 V2]) rfl
     have own9 := own8.boxed st8.box 10 (.int .i64 V2)
     have oN9 := oN.put st8.box (by decide) (by decide) 10 (.int .i64 V2)
     have kA9 := kept_set (b := X) (j := 10) (u := (.int .i64 V2)) kA8 nAX
     have kV9 := kept_set (b := X) (j := 10) (u := (.int .i64 V2)) kV8 nVX
     obtain ⟨y0, y1, y2, y3, y4, y5, y6, y7, y8, y9, y10⟩ := cells11 st8.box
     have fj := frozen8 st8.box 10
     generalize hwp : wp8.setCell ⟨X, 10, none⟩ (.int .i64 V2) = wp9 at st9 own9 oN9 kA9 kV9
     go_upto_region 12 with fail
     try rw [hwp]
     clear y0 y1 y2 y3 y4 y5 y6 y7 y8 y9 y10 fj hwp st8 own8 kA8 kV8 oN
     have oN := oN9
     clear oN9
     clear oN
     obtain ⟨x0, x1, x2, x3, x4, x5, x6, x7, x8, x9, x10⟩ := cells11 kA9
     obtain ⟨⟨v0, v1, v2, v3⟩, -⟩ := cells4 kV9
     go_wp2_with fail
     refine (specEgress_any ra rn rc oa on oc B.v id _ (h.v.rows.below st9.below)).mono ?_
     rintro e w10 ⟨rfl, hb10⟩
     have st9 := st9.later hb10
     have own9 := own9.below hb10
     have kA9 := kept_block kA9 hb10
     have kV9 := kept_block kV9 hb10
     clear hb10 x0 x1 x2 x3 x4 x5 x6 x7 x8 x9 x10 v0 v1 v2 v3
     have HMY : Hid (bits .andNot .i64 (bits .and .i64 (sendsOf B.id B.ports) (egressOf B.v id)) (2 ^ k) = mayB B k id) := hide rfl
     have HW2 := hide (wrap_pow k (by omega))
     obtain ⟨⟨v0, v1, v2, v3⟩, -⟩ := cells4 kV9
     go_upto_if 81 with fail
     rw [HW2.out, HMY.out]
     generalize hMY : mayB B k id = MY at *
     have HMB := hide hMY
     clear hMY HMY
     go_cut [14] from 79 to 87 (fun s wx => s = .int .i64 (toB FL id fd) ∧ Below w10.heap.size w10 wx)
     case first =>
      obtain ⟨y0, y1, y2, y3, y4, y5, y6, y7, y8, y9, y10⟩ := cells11 st9.box
      by_cases hd : fd = 0
      ·have hd2 : (fd != 0) = false := by simp [hd]
       have HTT : Hid (toB FL id fd = -1) := hide (by unfold toB; rw [if_pos hd])
       clear hd
       go_wp2
       go_meet
       exact ⟨by rw [HTT.out], Below.refl _ _⟩
      ·have hd2 : (fd != 0) = true := by simp [hd]
       have HTT : Hid (toB FL id fd = lookUp FL id fd) := hide (by unfold toB; rw [if_neg hd])
       clear hd
       go_wp2_with fail
       refine (specLookUp_all fa7 q7 fc7 FL id fd _ (grow_own (F := fentF) own9.f) (by omega)).mono ?_
       rintro e w11 ⟨rfl, hb11⟩
       have HB := hide hb11
       clear hb11
       go_wp2
       go_meet
       exact ⟨by rw [HTT.out], HB.out⟩
     case rest =>
      obtain ⟨rfl, hb11⟩ := hcut
      obtain ⟨w11, hw11⟩ : ∃ x, x = wc := ⟨_, rfl⟩
      subst hw11
      have st9 := st9.later hb11
      have own9 := own9.below hb11
      have kA9 := kept_block kA9 hb11
      have kV9 := kept_block kV9 hb11
      clear hb11 v0 v1 v2 v3
      have htr := to_rng hFok id fd
      have HWD : Hid (waysB B k id fd FL = if 0 ≤ toB FL id fd then bits .and .i64 (mayB B k id) (2 ^ (toB FL id fd).toNat) else mayB B k id) := hide rfl
      generalize hWB : waysB B k id fd FL = WB at *
      rw [HMB.out] at HWD
      generalize toB FL id fd = TT at *
      clear hWB
      go_upto_if 89 with fail
      go_cut [13] from 88 to 94 (fun s wx => s = .int .i64 WB ∧ wx = w11)
      case first =>
       by_cases h0 : 0 ≤ TT
       ·obtain ⟨t, rfl⟩ : ∃ t : Nat, TT = (t : Int) := ⟨TT.toNat, by omega⟩
        have HE : Hid (WB = bits .and .i64 MY (2 ^ t)) := hide (by rw [HWD.out, if_pos h0, Int.toNat_natCast])
        have HW3 := hide (wrap_pow t (by omega))
        go_wp2
        go_meet
        exact ⟨by rw [HE.out, HW3.out], rfl⟩
       ·have HE : Hid (WB = MY) := hide (by rw [HWD.out, if_neg h0])
        go_wp2
        go_meet
        exact ⟨by rw [HE.out], rfl⟩
      case rest =>
       obtain ⟨rfl, e12⟩ := hcut
       obtain rfl := e12.symm
       have kX := st9.box
       have kR := st9.res
       have hR0 := st9.hR
       have nXR : ¬ X = R := fun e => st9.ne e.symm
       have kA := kA9
       have kV := kV9
       have own := own9
       have vv : Below w.heap.size w w11.drew := gr_drew st9.below
       have kX : w11.drew.heap[X]? = _ := kX
       have kR : w11.drew.heap[R]? = _ := kR
       have kA : w11.drew.heap[w.heap.size]? = _ := kA
       have kV : w11.drew.heap[Vb]? = _ := kV
       have own := own.below (gr_drew (Below.refl _ _))
       clear st9 own9 kA9 kV9
       go_wp2_with fail
       refine wp_region_held_drew (S := (fun W => (W.cell? ⟨w.heap.size, 0, none⟩ = some (.int .i64 B.id) ∧ W.cell? ⟨w.heap.size, 1, none⟩ = some (.string B.name) ∧ W.cell? ⟨w.heap.size, 2, none⟩ = some (.slice a n c) ∧ W.cell? ⟨w.heap.size, 3, none⟩ = some (.slice fa fn fc) ∧ W.cell? ⟨w.heap.size, 4, none⟩ = some (.slice ra rn rc) ∧ W.cell? ⟨w.heap.size, 5, none⟩ = some (.slice oa on oc) ∧ W.cell? ⟨w.heap.size, 6, none⟩ = some (.int .i64 B.ticks) ∧ W.cell? ⟨w.heap.size, 7, none⟩ = some (.int .i64 B.parse) ∧ W.cell? ⟨w.heap.size, 8, none⟩ = some (.int .i64 B.word) ∧ W.cell? ⟨w.heap.size, 9, none⟩ = some (.int .i64 B.drops) ∧ W.cell? ⟨w.heap.size, 10, none⟩ = some (.int .i64 B.vers)) ∧ (W.cell? ⟨X, 0, none⟩ = some (.int .i64 B.id) ∧ W.cell? ⟨X, 1, none⟩ = some (.string B.name) ∧ W.cell? ⟨X, 2, none⟩ = some (.slice a3 n c3) ∧ W.cell? ⟨X, 3, none⟩ = some (.slice fa7 q7 fc7) ∧ W.cell? ⟨X, 4, none⟩ = some (.slice ra3 rn rc3) ∧ W.cell? ⟨X, 5, none⟩ = some (.slice oa3 on oc3) ∧ W.cell? ⟨X, 6, none⟩ = some (.int .i64 B.ticks) ∧ W.cell? ⟨X, 7, none⟩ = some (.int .i64 B.parse) ∧ W.cell? ⟨X, 8, none⟩ = some (.int .i64 B.word) ∧ W.cell? ⟨X, 9, none⟩ = some (.int .i64 B.drops) ∧ W.cell? ⟨X, 10, none⟩ = some (.int .i64 V2)) ∧ (W.cell? ⟨Vb, 0, none⟩ = some (.int .i64 fd) ∧ W.cell? ⟨Vb, 1, none⟩ = some (.int .i64 fs) ∧ W.cell? ⟨Vb, 2, none⟩ = some (.int .i64 ft) ∧ W.cell? ⟨Vb, 3, none⟩ = some (.slice a1 l1 c1)))) (by kernel_rfl) (⟨cells11 kA, cells11 kX, (cells4 kV).1⟩) (fun hHeld => ?_)
       refine kK 0 ⟨some 95, .load 31 (.tmp 8), 31, "l12_forward.go:38", #[], none⟩ ?_
       refine kK 1 ⟨some 96, .load 31 (.tmp 3), 31, "l12_forward.go:38", #[], none⟩ ?_
       refine kK 2 ⟨some 97, .move (.tmp 11), 3, "l12_forward.go:38", #[], none⟩ ?_
       refine kK 3 ⟨some 98, .move (.tmp 13), 3, "l12_forward.go:38", #[], none⟩ ?_
       refine kK 4 ⟨some 99, .load 33 (.tmp 5), 33, "l12_forward.go:38", #[], none⟩ ?_
       refine tR [5] ?_
       refine AllReadyH.cons (o := ⟨some 100, .call ⟨.value (.func 58), #[.tmp 96, .tmp 97, .tmp 98, .tmp 99], #[31, 3, 3, 33]⟩, 36, "l12_forward.go:38", #[⟨1, .data⟩, ⟨2, .data⟩, ⟨3, .data⟩, ⟨4, .data⟩], none⟩) rfl (fun K hK => ?_) ?_
       ·go_simp
        refine (specOuts_made a n c fa fn fc ra rn rc oa on oc B id WB fd fs ft a1 l1 c1 z1 _ (h.below vv) (h1.below vv) (by omega) (by omega)).mono ?_
        rintro e wt ⟨ao9, cp9, L9, rfl, oL, hM, hbt⟩
        have oL := oL.lt (base' := w.heap.size) vv.size
        have kA := kept_block kA hbt
        have kV := kept_block kV hbt
        have kX := kept_block kX hbt
        have kR := kept_block kR hbt
        have own := own.below hbt
        have vv := gr_trans vv hbt
        clear hbt
        go_wp2_with fail
        refine hK.out _ _ (⟨cells11 kA, cells11 kX, (cells4 kV).1⟩) (fun hHeld => ?_)
        clear hK K
        try simp only [Act.put, lA, lB, lC]
        refine tR [6] ?_
        refine AllReadyH.cons (o := ⟨none, .store 31 (.tmp 6) (.tmp 95), 0, "l12_forward.go:38", #[⟨0, .data⟩, ⟨5, .chain⟩, ⟨0, .phase⟩, { on := 1, ground := Ground.textOnly Departure.lateStores }, { on := 2, ground := Ground.textOnly Departure.lateStores }, { on := 3, ground := Ground.textOnly Departure.lateStores }, { on := 4, ground := Ground.textOnly Departure.lateStores }, { on := 5, ground := Ground.textOnly Departure.lateStoresUnsure }], none⟩) rfl (fun K hK => ?_) ?_
        ·obtain ⟨b0, b1, b2, b3, b4, b5, b6, b7, b8, b9, b10⟩ := cells11 kR
         have fr := frozen8 kR
         have fr0 := fr 0
         have fr1 := fr 1
         have fr2 := fr 2
         have fr3 := fr 3
         have fr4 := fr 4
         have fr5 := fr 5
         have fr6 := fr 6
         have fr7 := fr 7
         have fr8 := fr 8
         have fr9 := fr 9
         have fr10 := fr 10
         go_simp
         clear b0 b1 b2 b3 b4 b5 b6 b7 b8 b9 b10 fr0 fr1 fr2 fr3 fr4 fr5 fr6 fr7 fr8 fr9 fr10 fr
         have vv := below_set11 vv hR0 (.int .i64 B.id) (.string B.name) (.slice a3 n c3) (.slice fa7 q7 fc7) (.slice ra3 rn rc3) (.slice oa3 on oc3) (.int .i64 B.ticks) (.int .i64 B.parse) (.int .i64 B.word) (.int .i64 B.drops) (.int .i64 V2)
         have own := own.boxed11 kR (.int .i64 B.id) (.string B.name) (.slice a3 n c3) (.slice fa7 q7 fc7) (.slice ra3 rn rc3) (.slice oa3 on oc3) (.int .i64 B.ticks) (.int .i64 B.parse) (.int .i64 B.word) (.int .i64 B.drops) (.int .i64 V2)
         try have oL := oL.put11 kR (by decide) (by decide) (.int .i64 B.id) (.string B.name) (.slice a3 n c3) (.slice fa7 q7 fc7) (.slice ra3 rn rc3) (.slice oa3 on oc3) (.int .i64 B.ticks) (.int .i64 B.parse) (.int .i64 B.word) (.int .i64 B.drops) (.int .i64 V2)
         have kA := kept_set11 kA nAR (.int .i64 B.id) (.string B.name) (.slice a3 n c3) (.slice fa7 q7 fc7) (.slice ra3 rn rc3) (.slice oa3 on oc3) (.int .i64 B.ticks) (.int .i64 B.parse) (.int .i64 B.word) (.int .i64 B.drops) (.int .i64 V2)
         have kV := kept_set11 kV nVR (.int .i64 B.id) (.string B.name) (.slice a3 n c3) (.slice fa7 q7 fc7) (.slice ra3 rn rc3) (.slice oa3 on oc3) (.int .i64 B.ticks) (.int .i64 B.parse) (.int .i64 B.word) (.int .i64 B.drops) (.int .i64 V2)
         have kX := kept_set11 kX nXR (.int .i64 B.id) (.string B.name) (.slice a3 n c3) (.slice fa7 q7 fc7) (.slice ra3 rn rc3) (.slice oa3 on oc3) (.int .i64 B.ticks) (.int .i64 B.parse) (.int .i64 B.word) (.int .i64 B.drops) (.int .i64 V2)
         have kR := set_box11B kR (.int .i64 B.id) (.string B.name) (.slice a3 n c3) (.slice fa7 q7 fc7) (.slice ra3 rn rc3) (.slice oa3 on oc3) (.int .i64 B.ticks) (.int .i64 B.parse) (.int .i64 B.word) (.int .i64 B.drops) (.int .i64 V2)
         refine hK.out _ _ (⟨cells11 kA, cells11 kX, (cells4 kV).1⟩) (fun hHeld => ?_)
         clear hK K
         try simp only [Act.put, lA, lB, lC]
         refine kK 7 ⟨some 7, .assign (.tmp 100), 36, "l12_forward.go:38", #[⟨5, .data⟩, ⟨6, .chain⟩, ⟨0, .phase⟩, ⟨1, .phase⟩, ⟨2, .phase⟩, ⟨3, .phase⟩, ⟨4, .phase⟩, ⟨5, .phase⟩, ⟨6, .phase⟩], none⟩ ?_
         refine wpAnyH_done (by kernel_rfl) ?_ _
         clear hHeld
         obtain ⟨u0, u1, u2, u3, u4, u5, u6, u7, u8, u9, u10⟩ := cells11 kR
         have HO := hide own
         have HL := hide oL
         have HB := hide vv
         have HMM := hide hM
         clear own oL vv hM kA kV kX kR
         go_wp2
         exact bodyPost_ret (v := .tuple #[.agg #[.int .i64 B.id, .string B.name, .slice a3 n c3, .slice fa7 q7 fc7, .slice ra3 rn rc3, .slice oa3 on oc3, .int .i64 B.ticks, .int .i64 B.parse, .int .i64 B.word, .int .i64 B.drops, .int .i64 V2], .slice ao9 L9.length cp9]) (by simp [results, Tryz.results9, go_sem, *]) rfl ⟨a3, n, c3, fa7, q7, fc7, ra3, rn, rc3, oa3, on, oc3, ao9, cp9, L9, (by rw [HTL.out]), (by rw [HTL.out]; exact ⟨HO.out.ports, HO.out.f, HO.out.v⟩), HL.out, (by rw [HMM.out, HTLO.out]), HB.out⟩
        exact AllReadyH.nil
       exact AllReadyH.nil

end Go.Proofs.YtddalpglihhipaaGreat
