/-
  Packed: FwdS FwdOutI VlanCopy FwdOwn LawBit.
-/
import Derived.Test.YtddalpglihhipaaGreatPSKW
import Derived.Test.YtddalpglihhipaaGreatPSFentHelp
import Derived.Test.YtddalpglihhipaaGreatPSK01
import Derived.Test.YtddalpglihhipaaGreatPSK02
import Derived.Test.YtddalpglihhipaaGreatPSK04
import Derived.Test.YtddalpglihhipaaGreatPSK07
import Derived.Test.YtddalpglihhipaaGreatPSK11
import Derived.Test.YtddalpglihhipaaGreatPSK17
import Derived.Test.YtddalpglihhipaaGreatPSK18
import Derived.Deep.CutRange
import Derived.Deep.RegionHeld3
namespace Go.Proofs.YtddalpglihhipaaGreat
open Go.RowKit

set_option maxRecDepth 100000 in
set_option maxHeartbeats 16000000 in
theorem specForward_made (a : Option Addr) (n c : Nat) (fa : Option Addr) (fn fc : Nat) (ra : Option Addr) (rn rc : Nat) (oa : Option Addr) (on oc : Nat) (B : BR) (port : Int) (fd fs ft : Int) (a1 : Option Addr) (l1 c1 : Nat) (z1 : List Int) (w : World) (h : BrRow w a n c fa fn fc ra rn rc oa on oc B) (h1 : Row w a1 l1 c1 z1) (hn : n ≤ 1048576) (hfn : fn ≤ 1048576) (hrn : rn ≤ 1048576) (hon : on ≤ 1048576) (hl1 : l1 ≤ 1048576) :
  Calls Tryz.prog 9 #[.agg #[.int .i64 B.id, .string B.name, .slice a n c, .slice fa fn fc, .slice ra rn rc, .slice oa on oc, .int .i64 B.ticks, .int .i64 B.parse, .int .i64 B.word, .int .i64 B.drops, .int .i64 B.vers], .int .i64 port, .agg #[.int .i64 fd, .int .i64 fs, .int .i64 ft, .slice a1 l1 c1]] w fun e w' => ∃ (a2 : Option Addr) (n2 c2 : Nat) (fa2 : Option Addr) (fn2 fc2 : Nat) (ra2 : Option Addr) (rn2 rc2 : Nat) (oa2 : Option Addr) (on2 oc2 : Nat) (ao : Option Addr) (cp : Nat) (L : List OI), e = .returned (.tuple #[.agg #[.int .i64 (fwdB B port fd fs ft l1).id, .string (fwdB B port fd fs ft l1).name, .slice a2 n2 c2, .slice fa2 fn2 fc2, .slice ra2 rn2 rc2, .slice oa2 on2 oc2, .int .i64 (fwdB B port fd fs ft l1).ticks, .int .i64 (fwdB B port fd fs ft l1).parse, .int .i64 (fwdB B port fd fs ft l1).word, .int .i64 (fwdB B port fd fs ft l1).drops, .int .i64 (fwdB B port fd fs ft l1).vers], .slice ao L.length cp]) ∧ BrOwn w' w.heap.size a2 n2 c2 fa2 fn2 fc2 ra2 rn2 rc2 oa2 on2 oc2 (fwdB B port fd fs ft l1) ∧ OOwns w' w.heap.size ao L.length cp L ∧ L.map OI.v = fwdO B port fd fs ft l1 z1 ∧ Below w.heap.size w w' := by
 generalize hw1 : w.alloc (Obj.cells #[.int .i64 B.id, .string B.name, .slice a n c, .slice fa fn fc, .slice ra rn rc, .slice oa on oc, .int .i64 B.ticks, .int .i64 B.parse, .int .i64 B.word, .int .i64 B.drops, .int .i64 B.vers] 31) = w1
 have b01 : Below w.heap.size w w1 := by rw [← hw1]; exact below_one _ _
 have z1' : w.heap.size < w1.heap.size := by rw [← hw1]; simp
 generalize hwv : w1.alloc (Obj.cells #[.int .i64 fd, .int .i64 fs, .int .i64 ft, .slice a1 l1 c1] 33) = wv
 have b1v : Below w1.heap.size w1 wv := by rw [← hwv]; exact below_one _ _
 have zv : w1.heap.size < wv.heap.size := by rw [← hwv]; simp
 have b01v := gr_trans b01 b1v
 generalize hw2 : wv.alloc (Obj.cells #[.int .i64 0, .string ⟨#[]⟩, .slice none 0 0, .slice none 0 0, .slice none 0 0, .slice none 0 0, .int .i64 0, .int .i64 0, .int .i64 0, .int .i64 0, .int .i64 0] 31) = w2
 have b12 : Below wv.heap.size wv w2 := by rw [← hw2]; exact below_one _ _
 have z2 : wv.heap.size < w2.heap.size := by rw [← hw2]; simp
 have b02 := gr_trans b01v b12
 have kR2 : w2.heap[wv.heap.size]? = some (.cells #[.int .i64 0, .string ⟨#[]⟩, .slice none 0 0, .slice none 0 0, .slice none 0 0, .slice none 0 0, .int .i64 0, .int .i64 0, .int .i64 0, .int .i64 0, .int .i64 0] 31) := by rw [← hw2]; exact block_last _ _
 have kA2 : w2.heap[w.heap.size]? = some (.cells #[.int .i64 B.id, .string B.name, .slice a n c, .slice fa fn fc, .slice ra rn rc, .slice oa on oc, .int .i64 B.ticks, .int .i64 B.parse, .int .i64 B.word, .int .i64 B.drops, .int .i64 B.vers] 31) := kept_block (kept_block (by rw [← hw1]; exact block_last _ _) b1v) b12
 have kV2 : w2.heap[w1.heap.size]? = some (Obj.cells #[.int .i64 fd, .int .i64 fs, .int .i64 ft, .slice a1 l1 c1] 33) := kept_block (by rw [← hwv]; exact block_last _ _) b12
 obtain ⟨x0, x1, x2, x3, x4, x5, x6, x7, x8, x9, x10⟩ := cells11 kA2
 go_enter Tryz.func9, Tryz.ntmps9
 go_wp2_with fail
 refine (specCopyB_made a n c fa fn fc ra rn rc oa on oc B _ (h.below b02) (by omega) (by omega) (by omega) (by omega)).mono ?_
 rintro e w3 ⟨a3, c3, fa3, fc3, ra3, rc3, oa3, oc3, rfl, o3, hb3⟩
 generalize hw4 : w3.alloc (Obj.cells #[.int .i64 B.id, .string B.name, .slice a3 n c3, .slice fa3 fn fc3, .slice ra3 rn rc3, .slice oa3 on oc3, .int .i64 B.ticks, .int .i64 B.parse, .int .i64 B.word, .int .i64 B.drops, .int .i64 B.vers] 31) = w4
 have b34 : Below w3.heap.size w3 w4 := by rw [← hw4]; exact below_one _ _
 have d24 := gr_trans hb3 b34
 have hs23 := hb3.size
 have st4 : BcSt w w4 wv.heap.size w3.heap.size #[.int .i64 B.id, .string B.name, .slice a3 n c3, .slice fa3 fn fc3, .slice ra3 rn rc3, .slice oa3 on oc3, .int .i64 B.ticks, .int .i64 B.parse, .int .i64 B.word, .int .i64 B.drops, .int .i64 B.vers] := ⟨by rw [← hw4]; exact block_last _ _, kept_block kR2 d24, gr_trans b02 d24, by omega, by omega, by omega⟩
 have kA4 := kept_block kA2 d24
 have kV4 := kept_block kV2 d24
 have own4 := (o3.lt (base' := w.heap.size) b02.size).below b34
 have nAX : ¬ w.heap.size = w3.heap.size := by omega
 have nXA : ¬ w3.heap.size = w.heap.size := by omega
 have nAR : ¬ w.heap.size = wv.heap.size := by omega
 have nVX : ¬ w1.heap.size = w3.heap.size := by omega
 have nXV : ¬ w3.heap.size = w1.heap.size := by omega
 have nVR : ¬ w1.heap.size = wv.heap.size := by omega
 go_upto_region 2 with fail
 try rw [hw4]
 generalize hwN : w4.alloc (Obj.cells #[] 48) = wN
 have bN : Below w4.heap.size w4 wN := by rw [← hwN]; exact below_one _ _
 have st5 := st4.later bN
 have own5 := own4.below bN
 have kA5 := kept_block kA4 bN
 have kV5 := kept_block kV4 bN
 have oN : OOwns wN w.heap.size (some ⟨w4.heap.size, 0, none⟩) 0 0 [] := ⟨flat_nil outF w wN 48 w4.heap.size (by rw [← hwN]; exact block_last _ _) st4.below.size, (by intro x hx; cases hx), List.nodup_nil⟩
 clear x0 x1 x2 x3 x4 x5 x6 x7 x8 x9 x10
 go_upto_region 3 with fail
 try rw [hwN]
 clear hwN bN st4 own4 kA4 kV4 hw4 hw2 hw1 hwv hb3 b34 o3 d24 hs23 b02 b12 b01 z1' z2 kA2 kR2 kV2 zv b1v b01v
 generalize hNb : w4.heap.size = Nb at *
 generalize hX : w3.heap.size = X at *
 generalize hR : wv.heap.size = R at *
 generalize hVb : w1.heap.size = Vb at *
 clear hX hR hVb hNb
 obtain ⟨w5, hw5⟩ : ∃ x, x = wN := ⟨_, rfl⟩
 subst hw5
 cases htb : thereB B port
 ·have hT : fwdB B port fd fs ft l1 = B := by unfold fwdB; rw [htb]; rfl
  have hTO : fwdO B port fd fs ft l1 z1 = [] := by unfold fwdO; rw [htb]; rfl
  have HTH := hide htb
  clear htb
  obtain ⟨x0, x1, x2, x3, x4, x5, x6, x7, x8, x9, x10⟩ := cells11 kA5
  go_wp2_with fail
  refine (specThere_any a n c fa fn fc ra rn rc oa on oc B port _ (h.below st5.below)).mono ?_
  rintro e w6 ⟨rfl, hb6⟩
  rw [HTH.out]
  clear x0 x1 x2 x3 x4 x5 x6 x7 x8 x9 x10
  have st6 := st5.later hb6
  have own6 := own5.below hb6
  have kA6 := kept_block kA5 hb6
  have kV6 := kept_block kV5 hb6
  have oN := oN.below hb6
  clear hb6 st5 own5 kA5 kV5
  obtain ⟨y0, y1, y2, y3, y4, y5, y6, y7, y8, y9, y10⟩ := cells11 st6.box
  obtain ⟨u0, u1, u2, u3, u4, u5, u6, u7, u8, u9, u10⟩ := cells11 st6.res
  have fr := frozen8 st6.res
  have fr0 := fr 0
  have fr1 := fr 1
  have fr2 := fr 2
  have fr3 := fr 3
  have fr4 := fr 4
  have fr5 := fr 5
  have fr6 := fr 6
  have fr7 := fr 7
  have fr8 := fr 8
  have fr9 := fr 9
  have fr10 := fr 10
  have ne1 : ¬ X = R := fun e => st6.ne e.symm
  have ne2 : ¬ R = X := st6.ne
  obtain ⟨HO0, HB0⟩ := st6.out own6 (.int .i64 B.id) (.string B.name) (.slice a3 n c3) (.slice fa3 fn fc3) (.slice ra3 rn rc3) (.slice oa3 on oc3) (.int .i64 B.ticks) (.int .i64 B.parse) (.int .i64 B.word) (.int .i64 B.drops) (.int .i64 B.vers)
  have HO := hide HO0
  have HB := hide HB0
  have HN := hide (oN.put11 st6.res (by decide) (by decide) (.int .i64 B.id) (.string B.name) (.slice a3 n c3) (.slice fa3 fn fc3) (.slice ra3 rn rc3) (.slice oa3 on oc3) (.int .i64 B.ticks) (.int .i64 B.parse) (.int .i64 B.word) (.int .i64 B.drops) (.int .i64 B.vers))
  have HT := hide hT
  have HTO := hide hTO
  clear fr st6 own6 HO0 HB0 hT hTO oN
  go_wp2
  exact bodyPost_ret (v := .tuple #[.agg #[.int .i64 B.id, .string B.name, .slice a3 n c3, .slice fa3 fn fc3, .slice ra3 rn rc3, .slice oa3 on oc3, .int .i64 B.ticks, .int .i64 B.parse, .int .i64 B.word, .int .i64 B.drops, .int .i64 B.vers], .slice (some ⟨Nb, 0, none⟩) 0 0]) (by simp [results, Tryz.results9, go_sem, *]) rfl ⟨a3, n, c3, fa3, fn, fc3, ra3, rn, rc3, oa3, on, oc3, some ⟨Nb, 0, none⟩, 0, [], (by rw [HT.out]; rfl), (by rw [HT.out]; exact ⟨HO.out.ports, HO.out.f, HO.out.v⟩), HN.out, (by rw [HTO.out]; rfl), HB.out⟩
 ·obtain ⟨k, rfl, hk1, x, hx⟩ := there_at h.ports.size htb
  have hok := there_ok htb
  obtain ⟨hb6', hv0, hv1, ht0, ht1⟩ := ok_bounds hok
  have hpl := h.ports.size
  rw [hpl] at hb6'
  have hdr := (in1m_iff B.drops).1 (bridgeOk_parts hok).2.2.2.2.2.2.2.2.2.1
  have hon8 : on ≤ 8 := by have h1 := vtab_own6 (bridgeOk_parts hok).2.2.2.2.2.1; have h2 := h.v.own.size; omega
  have HTH := hide htb
  have HOK := hide hok
  clear htb hx x hok
  obtain ⟨x0, x1, x2, x3, x4, x5, x6, x7, x8, x9, x10⟩ := cells11 kA5
  obtain ⟨⟨v0, v1, v2, v3⟩, -⟩ := cells4 kV5
  go_wp2_with fail
  refine (specThere_any a n c fa fn fc ra rn rc oa on oc B (k : Int) _ (h.below st5.below)).mono ?_
  rintro e w6 ⟨rfl, hb6⟩
  rw [HTH.out]
  clear x0 x1 x2 x3 x4 x5 x6 x7 x8 x9 x10 v0 v1 v2 v3
  have st5 := st5.later hb6
  have own5 := own5.below hb6
  have kA5 := kept_block kA5 hb6
  have kV5 := kept_block kV5 hb6
  have oN := oN.below hb6
  clear hb6
  obtain ⟨⟨v0, v1, v2, v3⟩, -⟩ := cells4 kV5
  go_wp2_with fail
  refine (specFrameOk_any fd fs ft a1 l1 c1 z1 _ (h1.below st5.below)).mono ?_
  rintro e w6b ⟨rfl, hb6⟩
  clear v0 v1 v2 v3
  have st6 := st5.later hb6
  have own6 := own5.below hb6
  have kA6 := kept_block kA5 hb6
  have kV6 := kept_block kV5 hb6
  have oN := oN.below hb6
  clear hb6 st5 own5 kA5 kV5
  obtain ⟨w6, hw6⟩ : ∃ x, x = w6b := ⟨_, rfl⟩
  subst hw6
  cases hfk : okF fd fs ft l1
  ·have hT : fwdB B (k : Int) fd fs ft l1 = B := by unfold fwdB; rw [HTH.out, hfk]; rfl
   have hTO : fwdO B (k : Int) fd fs ft l1 z1 = [] := by unfold fwdO; rw [HTH.out, hfk]; rfl
   clear hfk
   obtain ⟨y0, y1, y2, y3, y4, y5, y6, y7, y8, y9, y10⟩ := cells11 st6.box
   obtain ⟨u0, u1, u2, u3, u4, u5, u6, u7, u8, u9, u10⟩ := cells11 st6.res
   have fr := frozen8 st6.res
   have fr0 := fr 0
   have fr1 := fr 1
   have fr2 := fr 2
   have fr3 := fr 3
   have fr4 := fr 4
   have fr5 := fr 5
   have fr6 := fr 6
   have fr7 := fr 7
   have fr8 := fr 8
   have fr9 := fr 9
   have fr10 := fr 10
   have ne1 : ¬ X = R := fun e => st6.ne e.symm
   have ne2 : ¬ R = X := st6.ne
   obtain ⟨HO0, HB0⟩ := st6.out own6 (.int .i64 B.id) (.string B.name) (.slice a3 n c3) (.slice fa3 fn fc3) (.slice ra3 rn rc3) (.slice oa3 on oc3) (.int .i64 B.ticks) (.int .i64 B.parse) (.int .i64 B.word) (.int .i64 B.drops) (.int .i64 B.vers)
   have HO := hide HO0
   have HB := hide HB0
   have HN := hide (oN.put11 st6.res (by decide) (by decide) (.int .i64 B.id) (.string B.name) (.slice a3 n c3) (.slice fa3 fn fc3) (.slice ra3 rn rc3) (.slice oa3 on oc3) (.int .i64 B.ticks) (.int .i64 B.parse) (.int .i64 B.word) (.int .i64 B.drops) (.int .i64 B.vers))
   have HT := hide hT
   have HTO := hide hTO
   clear fr st6 own6 HO0 HB0 hT hTO oN
   go_wp2
   exact bodyPost_ret (v := .tuple #[.agg #[.int .i64 B.id, .string B.name, .slice a3 n c3, .slice fa3 fn fc3, .slice ra3 rn rc3, .slice oa3 on oc3, .int .i64 B.ticks, .int .i64 B.parse, .int .i64 B.word, .int .i64 B.drops, .int .i64 B.vers], .slice (some ⟨Nb, 0, none⟩) 0 0]) (by simp [results, Tryz.results9, go_sem, *]) rfl ⟨a3, n, c3, fa3, fn, fc3, ra3, rn, rc3, oa3, on, oc3, some ⟨Nb, 0, none⟩, 0, [], (by rw [HT.out]; rfl), (by rw [HT.out]; exact ⟨HO.out.ports, HO.out.f, HO.out.v⟩), HN.out, (by rw [HTO.out]; rfl), HB.out⟩
  ·have HFK := hide hfk
   clear hfk
   obtain ⟨x0, x1, x2, x3, x4, x5, x6, x7, x8, x9, x10⟩ := cells11 kA6
   go_wp2_with fail
   refine (specSends_any B.id a n c B.ports _ (h.ports.below st6.below)).mono ?_
   rintro e w6b ⟨rfl, hb6⟩
   clear x0 x1 x2 x3 x4 x5 x6 x7 x8 x9 x10
   have st6 := st6.later hb6
   have own6 := own6.below hb6
   have kA6 := kept_block kA6 hb6
   have kV6 := kept_block kV6 hb6
   have oN := oN.below hb6
   clear hb6
   obtain ⟨x0, x1, x2, x3, x4, x5, x6, x7, x8, x9, x10⟩ := cells11 kA6
   obtain ⟨⟨v0, v1, v2, v3⟩, -⟩ := cells4 kV6
   go_wp2_with fail
   refine (specClassOf_any ra rn rc oa on oc B.v (k : Int) ft _ (h.v.below st6.below) hon8).mono ?_
   rintro e w6c ⟨rfl, hb6⟩
   clear x0 x1 x2 x3 x4 x5 x6 x7 x8 x9 x10 v0 v1 v2 v3
   have st6 := st6.later hb6
   have own6 := own6.below hb6
   have kA6 := kept_block kA6 hb6
   have kV6 := kept_block kV6 hb6
   have oN := oN.below hb6
   clear hb6
   obtain ⟨w6d, hw6d⟩ : ∃ x, x = w6c := ⟨_, rfl⟩
   subst hw6d
   generalize hci : (classOf B.v (k : Int) ft).1 = id
   have HCI := hide hci
   clear hci
   have HLT : Hid (letB B (k : Int) ft = (bitOf (sendsOf B.id B.ports) (k : Int) && (classOf B.v (k : Int) ft).2)) := hide rfl
   generalize hcq : (classOf B.v (k : Int) ft).2 = cq
   rw [hcq] at HLT
   clear hcq
   go_wp2_with fail
   refine (specBit_any (sendsOf B.id B.ports) (k : Int) _).mono ?_
   rintro e w6e ⟨rfl, e6⟩
   obtain rfl := e6.symm
   generalize hbq : bitOf (sendsOf B.id B.ports) (k : Int) = bq
   rw [hbq] at HLT
   clear hbq
   obtain ⟨x0, x1, x2, x3, x4, x5, x6, x7, x8, x9, x10⟩ := cells11 kA6
   obtain ⟨⟨v0, v1, v2, v3⟩, -⟩ := cells4 kV6
   obtain ⟨w6, hw6⟩ : ∃ x, x = w6d := ⟨_, rfl⟩
   subst hw6
   cases bq
   ·have hlet : letB B (k : Int) ft = false := by rw [HLT.out]; rfl
    clear v0 v1 v2 v3
    have hT : fwdB B (k : Int) fd fs ft l1 = { B with drops := oneMore B.drops } := by unfold fwdB; rw [HTH.out, HFK.out, hlet]; rfl
    have hTO : fwdO B (k : Int) fd fs ft l1 z1 = [] := by unfold fwdO; rw [HTH.out, HFK.out, hlet]; rfl
    clear hlet
    obtain ⟨V1, hV1⟩ : ∃ V, V = oneMore B.drops := ⟨_, rfl⟩
    rw [← hV1] at hT
    have HTd := hide hT
    have HTOd := hide hTO
    clear hT hTO
    go_wp2_with fail
    refine (specOne_any B.drops _ (by omega) (by omega)).mono ?_
    rintro e w7 ⟨rfl, e7⟩
    obtain rfl := e7.symm
    rw [← hV1]
    clear hV1 x0 x1 x2 x3 x4 x5 x6 x7 x8 x9 x10
    have st7 := st6.put 9 (.int .i64 V1) (cs' := #[.int .i64 B.id, .string B.name, .slice a3 n c3, .slice fa3 fn fc3, .slice ra3 rn rc3, .slice oa3 on oc3, .int .i64 B.ticks, .int .i64 B.parse, .int .i64 B.word, .int .i64 V1, .int .i64 B.vers]) rfl
    have own7 := own6.boxed st6.box 9 (.int .i64 V1)
    have oN7 := oN.put st6.box (by decide) (by decide) 9 (.int .i64 V1)
    have kA7 := kept_set (b := X) (j := 9) (u := (.int .i64 V1)) kA6 nAX
    have kV7 := kept_set (b := X) (j := 9) (u := (.int .i64 V1)) kV6 nVX
    obtain ⟨y0, y1, y2, y3, y4, y5, y6, y7, y8, y9, y10⟩ := cells11 st6.box
    have fj := frozen8 st6.box 9
    generalize hwp : w6.setCell ⟨X, 9, none⟩ (.int .i64 V1) = wp7 at st7 own7 oN7 kA7 kV7
    go_upto_region 9 with fail
    try rw [hwp]
    clear y0 y1 y2 y3 y4 y5 y6 y7 y8 y9 y10 fj hwp st6 own6 kA6 kV6 oN
    have oN := oN7
    clear oN7
    have hT := HTd.out
    have hTO := HTOd.out
    obtain ⟨y0, y1, y2, y3, y4, y5, y6, y7, y8, y9, y10⟩ := cells11 st7.box
    obtain ⟨u0, u1, u2, u3, u4, u5, u6, u7, u8, u9, u10⟩ := cells11 st7.res
    have fr := frozen8 st7.res
    have fr0 := fr 0
    have fr1 := fr 1
    have fr2 := fr 2
    have fr3 := fr 3
    have fr4 := fr 4
    have fr5 := fr 5
    have fr6 := fr 6
    have fr7 := fr 7
    have fr8 := fr 8
    have fr9 := fr 9
    have fr10 := fr 10
    have ne1 : ¬ X = R := fun e => st7.ne e.symm
    have ne2 : ¬ R = X := st7.ne
    obtain ⟨HO0, HB0⟩ := st7.out own7 (.int .i64 B.id) (.string B.name) (.slice a3 n c3) (.slice fa3 fn fc3) (.slice ra3 rn rc3) (.slice oa3 on oc3) (.int .i64 B.ticks) (.int .i64 B.parse) (.int .i64 B.word) (.int .i64 V1) (.int .i64 B.vers)
    have HO := hide HO0
    have HB := hide HB0
    have HN := hide (oN.put11 st7.res (by decide) (by decide) (.int .i64 B.id) (.string B.name) (.slice a3 n c3) (.slice fa3 fn fc3) (.slice ra3 rn rc3) (.slice oa3 on oc3) (.int .i64 B.ticks) (.int .i64 B.parse) (.int .i64 B.word) (.int .i64 V1) (.int .i64 B.vers))
    have HT := hide hT
    have HTO := hide hTO
    clear fr st7 own7 HO0 HB0 hT hTO oN
    go_wp2
    exact bodyPost_ret (v := .tuple #[.agg #[.int .i64 B.id, .string B.name, .slice a3 n c3, .slice fa3 fn fc3, .slice ra3 rn rc3, .slice oa3 on oc3, .int .i64 B.ticks, .int .i64 B.parse, .int .i64 B.word, .int .i64 V1, .int .i64 B.vers], .slice (some ⟨Nb, 0, none⟩) 0 0]) (by simp [results, Tryz.results9, go_sem, *]) rfl ⟨a3, n, c3, fa3, fn, fc3, ra3, rn, rc3, oa3, on, oc3, some ⟨Nb, 0, none⟩, 0, [], (by rw [HT.out]; rfl), (by rw [HT.out]; exact ⟨HO.out.ports, HO.out.f, HO.out.v⟩), HN.out, (by rw [HTO.out]; rfl), HB.out⟩
   ·cases cq
    ·have hlet : letB B (k : Int) ft = false := by rw [HLT.out]; rfl
     clear v0 v1 v2 v3
     have hT : fwdB B (k : Int) fd fs ft l1 = { B with drops := oneMore B.drops } := by unfold fwdB; rw [HTH.out, HFK.out, hlet]; rfl
     have hTO : fwdO B (k : Int) fd fs ft l1 z1 = [] := by unfold fwdO; rw [HTH.out, HFK.out, hlet]; rfl
     clear hlet
     obtain ⟨V1, hV1⟩ : ∃ V, V = oneMore B.drops := ⟨_, rfl⟩
     rw [← hV1] at hT
     have HTd := hide hT
     have HTOd := hide hTO
     clear hT hTO
     go_wp2_with fail
     refine (specOne_any B.drops _ (by omega) (by omega)).mono ?_
     rintro e w7 ⟨rfl, e7⟩
     obtain rfl := e7.symm
     rw [← hV1]
     clear hV1 x0 x1 x2 x3 x4 x5 x6 x7 x8 x9 x10
     have st7 := st6.put 9 (.int .i64 V1) (cs' := #[.int .i64 B.id, .string B.name, .slice a3 n c3, .slice fa3 fn fc3, .slice ra3 rn rc3, .slice oa3 on oc3, .int .i64 B.ticks, .int .i64 B.parse, .int .i64 B.word, .int .i64 V1, .int .i64 B.vers]) rfl
     have own7 := own6.boxed st6.box 9 (.int .i64 V1)
     have oN7 := oN.put st6.box (by decide) (by decide) 9 (.int .i64 V1)
     have kA7 := kept_set (b := X) (j := 9) (u := (.int .i64 V1)) kA6 nAX
     have kV7 := kept_set (b := X) (j := 9) (u := (.int .i64 V1)) kV6 nVX
     obtain ⟨y0, y1, y2, y3, y4, y5, y6, y7, y8, y9, y10⟩ := cells11 st6.box
     have fj := frozen8 st6.box 9
     generalize hwp : w6.setCell ⟨X, 9, none⟩ (.int .i64 V1) = wp7 at st7 own7 oN7 kA7 kV7
     go_upto_region 9 with fail
     try rw [hwp]
     clear y0 y1 y2 y3 y4 y5 y6 y7 y8 y9 y10 fj hwp st6 own6 kA6 kV6 oN
     have oN := oN7
     clear oN7
     have hT := HTd.out
     have hTO := HTOd.out
     obtain ⟨y0, y1, y2, y3, y4, y5, y6, y7, y8, y9, y10⟩ := cells11 st7.box
     obtain ⟨u0, u1, u2, u3, u4, u5, u6, u7, u8, u9, u10⟩ := cells11 st7.res
     have fr := frozen8 st7.res
     have fr0 := fr 0
     have fr1 := fr 1
     have fr2 := fr 2
     have fr3 := fr 3
     have fr4 := fr 4
     have fr5 := fr 5
     have fr6 := fr 6
     have fr7 := fr 7
     have fr8 := fr 8
     have fr9 := fr 9
     have fr10 := fr 10
     have ne1 : ¬ X = R := fun e => st7.ne e.symm
     have ne2 : ¬ R = X := st7.ne
     obtain ⟨HO0, HB0⟩ := st7.out own7 (.int .i64 B.id) (.string B.name) (.slice a3 n c3) (.slice fa3 fn fc3) (.slice ra3 rn rc3) (.slice oa3 on oc3) (.int .i64 B.ticks) (.int .i64 B.parse) (.int .i64 B.word) (.int .i64 V1) (.int .i64 B.vers)
     have HO := hide HO0
     have HB := hide HB0
     have HN := hide (oN.put11 st7.res (by decide) (by decide) (.int .i64 B.id) (.string B.name) (.slice a3 n c3) (.slice fa3 fn fc3) (.slice ra3 rn rc3) (.slice oa3 on oc3) (.int .i64 B.ticks) (.int .i64 B.parse) (.int .i64 B.word) (.int .i64 V1) (.int .i64 B.vers))
     have HT := hide hT
     have HTO := hide hTO
     clear fr st7 own7 HO0 HB0 hT hTO oN
     go_wp2
     exact bodyPost_ret (v := .tuple #[.agg #[.int .i64 B.id, .string B.name, .slice a3 n c3, .slice fa3 fn fc3, .slice ra3 rn rc3, .slice oa3 on oc3, .int .i64 B.ticks, .int .i64 B.parse, .int .i64 B.word, .int .i64 V1, .int .i64 B.vers], .slice (some ⟨Nb, 0, none⟩) 0 0]) (by simp [results, Tryz.results9, go_sem, *]) rfl ⟨a3, n, c3, fa3, fn, fc3, ra3, rn, rc3, oa3, on, oc3, some ⟨Nb, 0, none⟩, 0, [], (by rw [HT.out]; rfl), (by rw [HT.out]; exact ⟨HO.out.ports, HO.out.f, HO.out.v⟩), HN.out, (by rw [HTO.out]; rfl), HB.out⟩
    ·have hlet : letB B (k : Int) ft = true := by rw [HLT.out]; rfl
     have hT : fwdB B (k : Int) fd fs ft l1 = { B with f := learnF B.f id fs (k : Int), vers := oneMore B.vers } := by unfold fwdB; rw [HTH.out, HFK.out, hlet, HCI.out]; rfl
     have hTO : fwdO B (k : Int) fd fs ft l1 z1 = outTo B.v id (waysB B k id fd (learnF B.f id fs (k : Int))) fd fs z1 n := by unfold fwdO; rw [HTH.out, HFK.out, hlet, HCI.out, Int.toNat_natCast, hpl]; rfl
     clear hlet
     obtain ⟨V2, hV2⟩ : ∃ V, V = oneMore B.vers := ⟨_, rfl⟩
     rw [← hV2] at hT
     go_wp2_with fail
     refine (specLearn_any fa fn fc B.f id fs (k : Int) _ (h.f.below st6.below) (by omega)).mono ?_
     rintro e w7 ⟨fa7, fc7, rfl, oF, -, hb7⟩
     have oF := gown_lt oF (base' := w.heap.size) st6.below.size
     have hFok : fdbOk (learnF B.f id fs (k : Int)) = true := learn_ok (bridgeOk_parts HOK.out).2.2.2.2.1 _ _ _
     clear x0 x1 x2 x3 x4 x5 x6 x7 x8 x9 x10
     generalize hFL : learnF B.f id fs (k : Int) = FL at *
     have HLQ : Hid (FL.length ≤ 16777216) := hide (by rw [← hFL]; have := learn_len B.f id fs (k : Int); have := h.f.size; omega)
     clear hFL
     have HTL := hide hT
     have HTLO := hide hTO
     clear hT hTO
     generalize hq7 : FL.length = q7 at *
     have hq7' : q7 ≤ 16777216 := HLQ.out
     clear hq7
     have st7 := st6.later hb7
     have own7 := (own6.below hb7).putF (Below.refl _ _) oF
     have kA7 := kept_block kA6 hb7
     have kV7 := kept_block kV6 hb7
     have oN := oN.below hb7
     clear hb7 st6 own6 kA6 kV6 oF
     have st8 := st7.put 3 (.slice fa7 q7 fc7) (cs' := #[.int .i64 B.id, .string B.name, .slice a3 n c3, .slice fa7 q7 fc7, .slice ra3 rn rc3, .slice oa3 on oc3, .int .i64 B.ticks, .int .i64 B.parse, .int .i64 B.word, .int .i64 B.drops, .int .i64 B.vers]) rfl
     have own8 := own7.boxed st7.box 3 (.slice fa7 q7 fc7)
     have oN8 := oN.put st7.box (by decide) (by decide) 3 (.slice fa7 q7 fc7)
     have kA8 := kept_set (b := X) (j := 3) (u := (.slice fa7 q7 fc7)) kA7 nAX
     have kV8 := kept_set (b := X) (j := 3) (u := (.slice fa7 q7 fc7)) kV7 nVX
     obtain ⟨y0, y1, y2, y3, y4, y5, y6, y7, y8, y9, y10⟩ := cells11 st7.box
     have fj := frozen8 st7.box 3
     generalize hwp : w7.setCell ⟨X, 3, none⟩ (.slice fa7 q7 fc7) = wp8 at st8 own8 oN8 kA8 kV8
     go_upto_region 11 with fail
     try rw [hwp]
     clear y0 y1 y2 y3 y4 y5 y6 y7 y8 y9 y10 fj hwp st7 own7 kA7 kV7 oN
     have oN := oN8
     clear oN8
     obtain ⟨x0, x1, x2, x3, x4, x5, x6, x7, x8, x9, x10⟩ := cells11 kA8
     go_wp2_with fail
     refine (specOne_any B.vers _ (by omega) (by omega)).mono ?_
     rintro e w9 ⟨rfl, e9⟩
     obtain rfl := e9.symm
     rw [← hV2]
     clear hV2 x0 x1 x2 x3 x4 x5 x6 x7 x8 x9 x10
     have st9 := st8.put 10 (.int .i64 V2) (cs' := #[.int .i64 B.id, .string B.name, .slice a3 n c3, .slice fa7 q7 fc7, .slice ra3 rn rc3, .slice oa3 on oc3, .int .i64 B.ticks, .int .i64 B.parse, .int .i64 B.word, .int .i64 B.drops, .int .i64 V2]) rfl
     have own9 := own8.boxed st8.box 10 (.int .i64 V2)
     have oN9 := oN.put st8.box (by decide) (by decide) 10 (.int .i64 V2)
     have kA9 := kept_set (b := X) (j := 10) (u := (.int .i64 V2)) kA8 nAX
     have kV9 := kept_set (b := X) (j := 10) (u := (.int .i64 V2)) kV8 nVX
     obtain ⟨y0, y1, y2, y3, y4, y5, y6, y7, y8, y9, y10⟩ := cells11 st8.box
     have fj := frozen8 st8.box 10
     generalize hwp : wp8.setCell ⟨X, 10, none⟩ (.int .i64 V2) = wp9 at st9 own9 oN9 kA9 kV9
     go_upto_region 12 with fail
     try rw [hwp]
     clear y0 y1 y2 y3 y4 y5 y6 y7 y8 y9 y10 fj hwp st8 own8 kA8 kV8 oN
     have oN := oN9
     clear oN9
     clear oN
     obtain ⟨x0, x1, x2, x3, x4, x5, x6, x7, x8, x9, x10⟩ := cells11 kA9
     obtain ⟨⟨v0, v1, v2, v3⟩, -⟩ := cells4 kV9
     go_wp2_with fail
     refine (specEgress_any ra rn rc oa on oc B.v id _ (h.v.rows.below st9.below)).mono ?_
     rintro e w10 ⟨rfl, hb10⟩
     have st9 := st9.later hb10
     have own9 := own9.below hb10
     have kA9 := kept_block kA9 hb10
     have kV9 := kept_block kV9 hb10
     clear hb10 x0 x1 x2 x3 x4 x5 x6 x7 x8 x9 x10 v0 v1 v2 v3
     have HMY : Hid (bits .andNot .i64 (bits .and .i64 (sendsOf B.id B.ports) (egressOf B.v id)) (2 ^ k) = mayB B k id) := hide rfl
     have HW2 := hide (wrap_pow k (by omega))
     obtain ⟨⟨v0, v1, v2, v3⟩, -⟩ := cells4 kV9
     go_upto_if 81 with fail
     rw [HW2.out, HMY.out]
     generalize hMY : mayB B k id = MY at *
     have HMB := hide hMY
     clear hMY HMY
     go_cut [14] from 79 to 87 (fun s wx => s = .int .i64 (toB FL id fd) ∧ Below w10.heap.size w10 wx)
     case first =>
      obtain ⟨y0, y1, y2, y3, y4, y5, y6, y7, y8, y9, y10⟩ := cells11 st9.box
      by_cases hd : fd = 0
      ·have hd2 : (fd != 0) = false := by simp [hd]
       have HTT : Hid (toB FL id fd = -1) := hide (by unfold toB; rw [if_pos hd])
       clear hd
       go_wp2
       go_meet
       exact ⟨by rw [HTT.out], Below.refl _ _⟩
      ·have hd2 : (fd != 0) = true := by simp [hd]
       have HTT : Hid (toB FL id fd = lookUp FL id fd) := hide (by unfold toB; rw [if_neg hd])
       clear hd
       go_wp2_with fail
       refine (specLookUp_all fa7 q7 fc7 FL id fd _ (grow_own (F := fentF) own9.f) (by omega)).mono ?_
       rintro e w11 ⟨rfl, hb11⟩
       have HB := hide hb11
       clear hb11
       go_wp2
       go_meet
       exact ⟨by rw [HTT.out], HB.out⟩
     case rest =>
      obtain ⟨rfl, hb11⟩ := hcut
      obtain ⟨w11, hw11⟩ : ∃ x, x = wc := ⟨_, rfl⟩
      subst hw11
      have st9 := st9.later hb11
      have own9 := own9.below hb11
      have kA9 := kept_block kA9 hb11
      have kV9 := kept_block kV9 hb11
      clear hb11 v0 v1 v2 v3
      have htr := to_rng hFok id fd
      have HWD : Hid (waysB B k id fd FL = if 0 ≤ toB FL id fd then bits .and .i64 (mayB B k id) (2 ^ (toB FL id fd).toNat) else mayB B k id) := hide rfl
      generalize hWB : waysB B k id fd FL = WB at *
      rw [HMB.out] at HWD
      generalize toB FL id fd = TT at *
      clear hWB
      go_upto_if 89 with fail
      go_cut [13] from 88 to 94 (fun s wx => s = .int .i64 WB ∧ wx = w11)
      case first =>
       by_cases h0 : 0 ≤ TT
       ·obtain ⟨t, rfl⟩ : ∃ t : Nat, TT = (t : Int) := ⟨TT.toNat, by omega⟩
        have HE : Hid (WB = bits .and .i64 MY (2 ^ t)) := hide (by rw [HWD.out, if_pos h0, Int.toNat_natCast])
        have HW3 := hide (wrap_pow t (by omega))
        go_wp2
        go_meet
        exact ⟨by rw [HE.out, HW3.out], rfl⟩
       ·have HE : Hid (WB = MY) := hide (by rw [HWD.out, if_neg h0])
        go_wp2
        go_meet
        exact ⟨by rw [HE.out], rfl⟩
      case rest =>
       obtain ⟨rfl, e12⟩ := hcut
       obtain rfl := e12.symm
       have kX := st9.box
       have kR := st9.res
       have hR0 := st9.hR
       have nXR : ¬ X = R := fun e => st9.ne e.symm
       have kA := kA9
       have kV := kV9
       have own := own9
       have vv : Below w.heap.size w w11.drew := gr_drew st9.below
       have kX : w11.drew.heap[X]? = _ := kX
       have kR : w11.drew.heap[R]? = _ := kR
       have kA : w11.drew.heap[w.heap.size]? = _ := kA
       have kV : w11.drew.heap[Vb]? = _ := kV
       have own := own.below (gr_drew (Below.refl _ _))
       clear st9 own9 kA9 kV9
       go_wp2_with fail
       refine wp_region_held_drew (S := (fun W => (W.cell? ⟨w.heap.size, 0, none⟩ = some (.int .i64 B.id) ∧ W.cell? ⟨w.heap.size, 1, none⟩ = some (.string B.name) ∧ W.cell? ⟨w.heap.size, 2, none⟩ = some (.slice a n c) ∧ W.cell? ⟨w.heap.size, 3, none⟩ = some (.slice fa fn fc) ∧ W.cell? ⟨w.heap.size, 4, none⟩ = some (.slice ra rn rc) ∧ W.cell? ⟨w.heap.size, 5, none⟩ = some (.slice oa on oc) ∧ W.cell? ⟨w.heap.size, 6, none⟩ = some (.int .i64 B.ticks) ∧ W.cell? ⟨w.heap.size, 7, none⟩ = some (.int .i64 B.parse) ∧ W.cell? ⟨w.heap.size, 8, none⟩ = some (.int .i64 B.word) ∧ W.cell? ⟨w.heap.size, 9, none⟩ = some (.int .i64 B.drops) ∧ W.cell? ⟨w.heap.size, 10, none⟩ = some (.int .i64 B.vers)) ∧ (W.cell? ⟨X, 0, none⟩ = some (.int .i64 B.id) ∧ W.cell? ⟨X, 1, none⟩ = some (.string B.name) ∧ W.cell? ⟨X, 2, none⟩ = some (.slice a3 n c3) ∧ W.cell? ⟨X, 3, none⟩ = some (.slice fa7 q7 fc7) ∧ W.cell? ⟨X, 4, none⟩ = some (.slice ra3 rn rc3) ∧ W.cell? ⟨X, 5, none⟩ = some (.slice oa3 on oc3) ∧ W.cell? ⟨X, 6, none⟩ = some (.int .i64 B.ticks) ∧ W.cell? ⟨X, 7, none⟩ = some (.int .i64 B.parse) ∧ W.cell? ⟨X, 8, none⟩ = some (.int .i64 B.word) ∧ W.cell? ⟨X, 9, none⟩ = some (.int .i64 B.drops) ∧ W.cell? ⟨X, 10, none⟩ = some (.int .i64 V2)) ∧ (W.cell? ⟨Vb, 0, none⟩ = some (.int .i64 fd) ∧ W.cell? ⟨Vb, 1, none⟩ = some (.int .i64 fs) ∧ W.cell? ⟨Vb, 2, none⟩ = some (.int .i64 ft) ∧ W.cell? ⟨Vb, 3, none⟩ = some (.slice a1 l1 c1)))) (by kernel_rfl) (⟨cells11 kA, cells11 kX, (cells4 kV).1⟩) (fun hHeld => ?_)
       refine kK 0 ⟨some 95, .load 31 (.tmp 8), 31, "l12_forward.go:38", #[], none⟩ ?_
       refine kK 1 ⟨some 96, .load 31 (.tmp 3), 31, "l12_forward.go:38", #[], none⟩ ?_
       refine kK 2 ⟨some 97, .move (.tmp 11), 3, "l12_forward.go:38", #[], none⟩ ?_
       refine kK 3 ⟨some 98, .move (.tmp 13), 3, "l12_forward.go:38", #[], none⟩ ?_
       refine kK 4 ⟨some 99, .load 33 (.tmp 5), 33, "l12_forward.go:38", #[], none⟩ ?_
       refine tR [5] ?_
       refine AllReadyH.cons (o := ⟨some 100, .call ⟨.value (.func 58), #[.tmp 96, .tmp 97, .tmp 98, .tmp 99], #[31, 3, 3, 33]⟩, 36, "l12_forward.go:38", #[⟨1, .data⟩, ⟨2, .data⟩, ⟨3, .data⟩, ⟨4, .data⟩], none⟩) rfl (fun K hK => ?_) ?_
       ·go_simp
        refine (specOuts_made a n c fa fn fc ra rn rc oa on oc B id WB fd fs ft a1 l1 c1 z1 _ (h.below vv) (h1.below vv) (by omega) (by omega)).mono ?_
        rintro e wt ⟨ao9, cp9, L9, rfl, oL, hM, hbt⟩
        have oL := oL.lt (base' := w.heap.size) vv.size
        have kA := kept_block kA hbt
        have kV := kept_block kV hbt
        have kX := kept_block kX hbt
        have kR := kept_block kR hbt
        have own := own.below hbt
        have vv := gr_trans vv hbt
        clear hbt
        go_wp2_with fail
        refine hK.out _ _ (⟨cells11 kA, cells11 kX, (cells4 kV).1⟩) (fun hHeld => ?_)
        clear hK K
        try simp only [Act.put, lA, lB, lC]
        refine tR [6] ?_
        refine AllReadyH.cons (o := ⟨none, .store 31 (.tmp 6) (.tmp 95), 0, "l12_forward.go:38", #[⟨0, .data⟩, ⟨5, .chain⟩, ⟨0, .phase⟩, { on := 1, ground := Ground.textOnly Departure.lateStores }, { on := 2, ground := Ground.textOnly Departure.lateStores }, { on := 3, ground := Ground.textOnly Departure.lateStores }, { on := 4, ground := Ground.textOnly Departure.lateStores }, { on := 5, ground := Ground.textOnly Departure.lateStoresUnsure }], none⟩) rfl (fun K hK => ?_) ?_
        ·obtain ⟨b0, b1, b2, b3, b4, b5, b6, b7, b8, b9, b10⟩ := cells11 kR
         have fr := frozen8 kR
         have fr0 := fr 0
         have fr1 := fr 1
         have fr2 := fr 2
         have fr3 := fr 3
         have fr4 := fr 4
         have fr5 := fr 5
         have fr6 := fr 6
         have fr7 := fr 7
         have fr8 := fr 8
         have fr9 := fr 9
         have fr10 := fr 10
         go_simp
         clear b0 b1 b2 b3 b4 b5 b6 b7 b8 b9 b10 fr0 fr1 fr2 fr3 fr4 fr5 fr6 fr7 fr8 fr9 fr10 fr
         have vv := below_set11 vv hR0 (.int .i64 B.id) (.string B.name) (.slice a3 n c3) (.slice fa7 q7 fc7) (.slice ra3 rn rc3) (.slice oa3 on oc3) (.int .i64 B.ticks) (.int .i64 B.parse) (.int .i64 B.word) (.int .i64 B.drops) (.int .i64 V2)
         have own := own.boxed11 kR (.int .i64 B.id) (.string B.name) (.slice a3 n c3) (.slice fa7 q7 fc7) (.slice ra3 rn rc3) (.slice oa3 on oc3) (.int .i64 B.ticks) (.int .i64 B.parse) (.int .i64 B.word) (.int .i64 B.drops) (.int .i64 V2)
         try have oL := oL.put11 kR (by decide) (by decide) (.int .i64 B.id) (.string B.name) (.slice a3 n c3) (.slice fa7 q7 fc7) (.slice ra3 rn rc3) (.slice oa3 on oc3) (.int .i64 B.ticks) (.int .i64 B.parse) (.int .i64 B.word) (.int .i64 B.drops) (.int .i64 V2)
         have kA := kept_set11 kA nAR (.int .i64 B.id) (.string B.name) (.slice a3 n c3) (.slice fa7 q7 fc7) (.slice ra3 rn rc3) (.slice oa3 on oc3) (.int .i64 B.ticks) (.int .i64 B.parse) (.int .i64 B.word) (.int .i64 B.drops) (.int .i64 V2)
         have kV := kept_set11 kV nVR (.int .i64 B.id) (.string B.name) (.slice a3 n c3) (.slice fa7 q7 fc7) (.slice ra3 rn rc3) (.slice oa3 on oc3) (.int .i64 B.ticks) (.int .i64 B.parse) (.int .i64 B.word) (.int .i64 B.drops) (.int .i64 V2)
         have kX := kept_set11 kX nXR (.int .i64 B.id) (.string B.name) (.slice a3 n c3) (.slice fa7 q7 fc7) (.slice ra3 rn rc3) (.slice oa3 on oc3) (.int .i64 B.ticks) (.int .i64 B.parse) (.int .i64 B.word) (.int .i64 B.drops) (.int .i64 V2)
         have kR := set_box11B kR (.int .i64 B.id) (.string B.name) (.slice a3 n c3) (.slice fa7 q7 fc7) (.slice ra3 rn rc3) (.slice oa3 on oc3) (.int .i64 B.ticks) (.int .i64 B.parse) (.int .i64 B.word) (.int .i64 B.drops) (.int .i64 V2)
         refine hK.out _ _ (⟨cells11 kA, cells11 kX, (cells4 kV).1⟩) (fun hHeld => ?_)
         clear hK K
         try simp only [Act.put, lA, lB, lC]
         refine kK 7 ⟨some 7, .assign (.tmp 100), 36, "l12_forward.go:38", #[⟨5, .data⟩, ⟨6, .chain⟩, ⟨0, .phase⟩, ⟨1, .phase⟩, ⟨2, .phase⟩, ⟨3, .phase⟩, ⟨4, .phase⟩, ⟨5, .phase⟩, ⟨6, .phase⟩], none⟩ ?_
         refine wpAnyH_done (by kernel_rfl) ?_ _
         clear hHeld
         obtain ⟨u0, u1, u2, u3, u4, u5, u6, u7, u8, u9, u10⟩ := cells11 kR
         have HO := hide own
         have HL := hide oL
         have HB := hide vv
         have HMM := hide hM
         clear own oL vv hM kA kV kX kR
         go_wp2
         exact bodyPost_ret (v := .tuple #[.agg #[.int .i64 B.id, .string B.name, .slice a3 n c3, .slice fa7 q7 fc7, .slice ra3 rn rc3, .slice oa3 on oc3, .int .i64 B.ticks, .int .i64 B.parse, .int .i64 B.word, .int .i64 B.drops, .int .i64 V2], .slice ao9 L9.length cp9]) (by simp [results, Tryz.results9, go_sem, *]) rfl ⟨a3, n, c3, fa7, q7, fc7, ra3, rn, rc3, oa3, on, oc3, ao9, cp9, L9, (by rw [HTL.out]), (by rw [HTL.out]; exact ⟨HO.out.ports, HO.out.f, HO.out.v⟩), HL.out, (by rw [HMM.out, HTLO.out]), HB.out⟩
        exact AllReadyH.nil
       exact AllReadyH.nil

set_option maxRecDepth 100000 in
set_option maxHeartbeats 8000000 in
theorem implOuts_made (a : Option Addr) (n c : Nat) (fa : Option Addr) (fn fc : Nat) (ra : Option Addr) (rn rc : Nat) (oa : Option Addr) (on oc : Nat) (B : BR) (id m : Int) (fd fs ft : Int) (a1 : Option Addr) (l1 c1 : Nat) (z1 : List Int) (w : World) (h : BrRow w a n c fa fn fc ra rn rc oa on oc B) (h1 : Row w a1 l1 c1 z1) (hs : l1 ≤ 16000000) (hm : I64 m) (hRb : ∀ r ∈ B.v.rows, r.Rng ∧ 0 ≤ r.b ∧ r.b ≤ 63) :
    Calls Tryz.prog 46 #[.agg #[.int .i64 B.id, .string B.name, .slice a n c, .slice fa fn fc, .slice ra rn rc, .slice oa on oc, .int .i64 B.ticks, .int .i64 B.parse, .int .i64 B.word, .int .i64 B.drops, .int .i64 B.vers], .int .i64 m, .int .i64 id, .agg #[.int .i64 fd, .int .i64 fs, .int .i64 ft, .slice a1 l1 c1]] w fun e w' => ∃ (ao : Option Addr) (cp : Nat) (L : List OI), e = .returned (.slice ao L.length cp) ∧ OOwns w' w.heap.size ao L.length cp L ∧ L.map OI.v = outTo B.v id m fd fs z1 6 ∧ Below w.heap.size w w' := by
  generalize hw1 : w.alloc (Obj.cells #[.int .i64 B.id, .string B.name, .slice a n c, .slice fa fn fc, .slice ra rn rc, .slice oa on oc, .int .i64 B.ticks, .int .i64 B.parse, .int .i64 B.word, .int .i64 B.drops, .int .i64 B.vers] 31) = w1
  generalize hw2 : w1.alloc (Obj.cells #[.int .i64 fd, .int .i64 fs, .int .i64 ft, .slice a1 l1 c1] 33) = w2
  have b01 : Below w.heap.size w w1 := by rw [← hw1]; exact below_one _ _
  have b12 : Below w1.heap.size w1 w2 := by rw [← hw2]; exact below_one _ _
  have b02 := gr_trans b01 b12
  have kB : w2.heap[w.heap.size]? = some (.cells #[.int .i64 B.id, .string B.name, .slice a n c, .slice fa fn fc, .slice ra rn rc, .slice oa on oc, .int .i64 B.ticks, .int .i64 B.parse, .int .i64 B.word, .int .i64 B.drops, .int .i64 B.vers] 31) := kept_block (by rw [← hw1]; exact block_last _ _) b12
  have kF : w2.heap[w1.heap.size]? = some (.cells #[.int .i64 fd, .int .i64 fs, .int .i64 ft, .slice a1 l1 c1] 33) := by rw [← hw2]; exact block_last _ _
  have HS : Hid (∀ W, Below w2.heap.size w2 W → (fun W => (W.cell? ⟨w.heap.size, 0, none⟩ = some (.int .i64 B.id) ∧ W.cell? ⟨w.heap.size, 1, none⟩ = some (.string B.name) ∧ W.cell? ⟨w.heap.size, 2, none⟩ = some (.slice a n c) ∧ W.cell? ⟨w.heap.size, 3, none⟩ = some (.slice fa fn fc) ∧ W.cell? ⟨w.heap.size, 4, none⟩ = some (.slice ra rn rc) ∧ W.cell? ⟨w.heap.size, 5, none⟩ = some (.slice oa on oc) ∧ W.cell? ⟨w.heap.size, 6, none⟩ = some (.int .i64 B.ticks) ∧ W.cell? ⟨w.heap.size, 7, none⟩ = some (.int .i64 B.parse) ∧ W.cell? ⟨w.heap.size, 8, none⟩ = some (.int .i64 B.word) ∧ W.cell? ⟨w.heap.size, 9, none⟩ = some (.int .i64 B.drops) ∧ W.cell? ⟨w.heap.size, 10, none⟩ = some (.int .i64 B.vers)) ∧ (W.cell? ⟨w1.heap.size, 0, none⟩ = some (.int .i64 fd) ∧ W.cell? ⟨w1.heap.size, 1, none⟩ = some (.int .i64 fs) ∧ W.cell? ⟨w1.heap.size, 2, none⟩ = some (.int .i64 ft) ∧ W.cell? ⟨w1.heap.size, 3, none⟩ = some (.slice a1 l1 c1))) W) := hide (fun W hW => ⟨cells11 (kept_block kB hW), (cells4 (kept_block kF hW)).1⟩)
  have hpl := h.ports.size
  have hle := Nat.le_trans h.ports.le h.ports.top
  unfold maxLen at hle
  go_enter Tryz.func46, Tryz.ntmps46
  go_upto_region 3 with fail
  try rw [hw1]
  try rw [hw2]
  clear hw1 hw2 kB kF
  go_loopw [9, 11] (fun s ix wr => ∃ (i q : Nat) (ao : Option Addr) (cp : Nat) (L : List OI), i ≤ 6 ∧ ix = .int .i64 i ∧ s = .slice ao q cp ∧ OOwns wr w2.heap.size ao q cp L ∧ L.map OI.v = outTo B.v id m fd fs z1 i ∧ Below w2.heap.size w2 wr) (fun _ ix _ => 6 - (intOf ix).toNat)
  case atStart => exact ⟨0, 0, none, 0, [], by omega, rfl, rfl, oowns_nil _ _, rfl, Below.refl _ _⟩
  case round =>
    obtain ⟨i, q, ao, cp, L, hi, rfl, rfl, hO, hM, hb⟩ := hrel
    have hql := hO.size
    have hq6 : q ≤ i := by have := outTo_len B.v id m fd fs z1 i; rw [← hM, List.length_map] at this; omega
    have i1 : (0 : Int) ≤ (i : Int) := by omega
    obtain ⟨⟨x0, x1, x2, x3, x4, x5, x6, x7, x8, x9, x10⟩, v0, v1, v2, v3⟩ := HS.out _ hb
    by_cases hlt : i < 6
    · have i2 : (i : Int) < (6 : Int) := by omega
      have HHB := hide hb
      go_wp2_with fail
      refine (implHasPort_any m (i : Int) (by omega) _).mono ?_
      rintro e wb ⟨rfl, eb⟩
      obtain rfl := eb.symm
      rw [hasP_same hm (.inl (by omega))]
      cases hbt : bitOf m (i : Int)
      · have HBT := hide hbt
        clear hbt
        go_wp2
        go_roundw
        case rel => exact ⟨i + 1, q, ao, cp, L, by omega, by go_num, rfl, hO, by rw [hM, outTo, HBT.out]; simp, hb⟩
        case measure => simp [intOf]; omega
      · have HBT := hide hbt
        clear hbt x0 x1 x2 x3 x4 x5 x6 x7 x8 x9 x10 v0 v1 v2 v3
        have vv : Below wr.heap.size wr wr.drew := gr_drew (Below.refl _ _)
        go_wp2_with fail
        refine wp_region_held_drew (S := (fun W => (W.cell? ⟨w.heap.size, 0, none⟩ = some (.int .i64 B.id) ∧ W.cell? ⟨w.heap.size, 1, none⟩ = some (.string B.name) ∧ W.cell? ⟨w.heap.size, 2, none⟩ = some (.slice a n c) ∧ W.cell? ⟨w.heap.size, 3, none⟩ = some (.slice fa fn fc) ∧ W.cell? ⟨w.heap.size, 4, none⟩ = some (.slice ra rn rc) ∧ W.cell? ⟨w.heap.size, 5, none⟩ = some (.slice oa on oc) ∧ W.cell? ⟨w.heap.size, 6, none⟩ = some (.int .i64 B.ticks) ∧ W.cell? ⟨w.heap.size, 7, none⟩ = some (.int .i64 B.parse) ∧ W.cell? ⟨w.heap.size, 8, none⟩ = some (.int .i64 B.word) ∧ W.cell? ⟨w.heap.size, 9, none⟩ = some (.int .i64 B.drops) ∧ W.cell? ⟨w.heap.size, 10, none⟩ = some (.int .i64 B.vers)) ∧ (W.cell? ⟨w1.heap.size, 0, none⟩ = some (.int .i64 fd) ∧ W.cell? ⟨w1.heap.size, 1, none⟩ = some (.int .i64 fs) ∧ W.cell? ⟨w1.heap.size, 2, none⟩ = some (.int .i64 ft) ∧ W.cell? ⟨w1.heap.size, 3, none⟩ = some (.slice a1 l1 c1)))) (by kernel_rfl) (HS.out _ (gr_trans hb vv)) (fun hHeld => ?_)
        refine kK 0 ⟨some 17, .move (.tmp 9), 36, "l12_forward.go:60", #[], none⟩ ?_
        refine kK 1 ⟨some 18, .move (.tmp 10), 3, "l12_forward.go:60", #[], none⟩ ?_
        refine kK 2 ⟨some 19, .load 33 (.tmp 7), 33, "l12_forward.go:60", #[], none⟩ ?_
        refine kK 3 ⟨some 20, .fieldAddr 31 (.tmp 4) 4, 0, "l12_forward.go:60", #[], none⟩ ?_
        refine kK 4 ⟨some 21, .load 29 (.tmp 20), 29, "l12_forward.go:60", #[⟨3, .data⟩], none⟩ ?_
        refine kK 5 ⟨some 22, .move (.tmp 2), 3, "l12_forward.go:60", #[], none⟩ ?_
        refine kK 6 ⟨some 23, .move (.tmp 10), 3, "l12_forward.go:60", #[], none⟩ ?_
        refine tR [7] ?_
        refine AllReadyH.cons (o := ⟨some 24, .call ⟨.value (.func 18), #[.tmp 21, .tmp 22, .tmp 23], #[29, 3, 3]⟩, 3, "l12_forward.go:60", #[⟨4, .data⟩, ⟨5, .data⟩, ⟨6, .data⟩], none⟩) rfl (fun K hK => ?_) ?_
        · go_simp
          refine (implShown_any ra rn rc oa on oc B.v id (i : Int) _ ((h.v.rows.below (gr_trans b02 hb)).below vv) hRb (by omega)).mono ?_
          rintro e wt ⟨rfl, hbt⟩
          have vv := gr_trans vv hbt
          clear hbt
          go_wp2_with fail
          refine hK.out _ _ (HS.out _ (gr_trans hb vv)) (fun hHeld => ?_)
          clear hK K
          try simp only [Act.put, lA, lB, lC]
          refine tR [8] ?_
          refine AllReadyH.cons (o := ⟨some 25, .call ⟨.value (.func 114), #[.tmp 19, .tmp 24], #[33, 3]⟩, 33, "l12_forward.go:60", #[⟨2, .data⟩, ⟨7, .data⟩, ⟨7, .chain⟩], none⟩) rfl (fun K hK => ?_) ?_
          · go_simp
            refine (implTagged_made fd fs ft a1 l1 c1 z1 (shownTag B.v id (i : Int)) _ ((h1.below (gr_trans b02 hb)).below vv) (by omega)).mono ?_
            rintro e wt2 ⟨da, dc, rfl, od, -, hbt⟩
            have od := own5_lt od (base' := wr.heap.size) vv.size
            have vv := gr_trans vv hbt
            clear hbt
            go_wp2_with fail
            refine hK.out _ _ (HS.out _ (gr_trans hb vv)) (fun hHeld => ?_)
            clear hK K
            try simp only [Act.put, lA, lB, lC]
            refine kK 9 ⟨some 26, .build 48 #[(0, .tmp 18), (1, .tmp 25)], 48, "l12_forward.go:60", #[⟨1, .data⟩, ⟨8, .data⟩], none⟩ ?_
            refine tR [10] ?_
            refine AllReadyH.cons (o := ⟨some 27, .buildSlice 36 1 #[(0, .tmp 26)], 36, "l12_forward.go:60", #[⟨9, .data⟩], none⟩) rfl (fun K hK => ?_) ?_
            · go_simp
              first
              | refine made_new (K := K _) (fun wx kN hbx => ?_)
              | refine made_drew (K := K _) (fun wx kN hbx => ?_)
              have gN := vv.size
              have od := own5_below od hbx
              have vv := gr_trans vv hbx
              clear hbx
              refine hK.out _ _ (HS.out _ (gr_trans hb vv)) (fun hHeld => ?_)
              clear hK K
              try simp only [Act.put, lA, lB, lC]
              refine tR [11] ?_
              refine AllReadyH.cons (o := ⟨some 28, .call ⟨.builtin .append, #[.tmp 17, .tmp 27], #[36, 36]⟩, 36, "l12_forward.go:60", #[⟨0, .data⟩, ⟨10, .data⟩, ⟨8, .chain⟩], none⟩) rfl (fun K hK => ?_) ?_
              · have gn1 : GRow outF wx (some ⟨_, 0, none⟩) 1 1 [(⟨(i : Int), fd, fs, shownTag B.v id (i : Int), da, l1, dc, z1⟩ : OI)] := grow_own (F := outF) (own_lit outF (l := [(⟨(i : Int), fd, fs, shownTag B.v id (i : Int), da, l1, dc, z1⟩ : OI)]) (base := 0) kN rfl (Nat.zero_le _) (by simp))
                have hoN := hO.below vv
                refine step_append_flat (F := outF) rfl _ _ 36 48 rfl w2.heap.size Tryz.underlying36 outInfo rfl (by decide) _ q L rfl hoN.row _ 1 1 _ rfl gn1 (by omega) (Nat.le_trans hb.size vv.size) ?_
                intro aL cL wL how _ hgr hbL
                have hpush := hoN.push (x := (⟨(i : Int), fd, fs, shownTag B.v id (i : Int), da, l1, dc, z1⟩ : OI)) ⟨own5_lt od hb.size, h1.byte⟩ (fun y hy b hb1 hb2 => by
                 have e1 := ((hO.item y hy).blk b hb1).2
                 have e2 := (od.lt b (mem_blkL.2 hb2)).1
                 omega) hgr how
                have vL : Below w2.heap.size w2 wL := (gr_trans hb vv).trans hbL
                refine hK.out _ _ (HS.out _ vL) (fun hHeld => ?_)
                clear hK K
                try simp only [Act.put, lA, lB, lC]
                refine kK 12 ⟨some 9, .assign (.tmp 28), 36, "l12_forward.go:60", #[⟨11, .data⟩, ⟨11, .chain⟩, ⟨0, .phase⟩, ⟨1, .phase⟩, ⟨2, .phase⟩, ⟨3, .phase⟩, ⟨4, .phase⟩, ⟨5, .phase⟩, ⟨6, .phase⟩, ⟨7, .phase⟩, ⟨8, .phase⟩, ⟨9, .phase⟩, ⟨10, .phase⟩, ⟨11, .phase⟩], none⟩ ?_
                refine wpAnyH_done (by kernel_rfl) ?_ _
                have HP := hide hpush
                have HV := hide vL
                clear hHeld how hgr hbL hoN hpush vL kN gn1 od vv
                go_wp2
                go_roundw
                case rel => exact ⟨i + 1, q + 1, aL, cL, _, by omega, by go_num, rfl, HP.out, by rw [List.map_append, hM, outTo, HBT.out]; rfl, HV.out⟩
                case measure => simp [intOf]; omega
              exact AllReadyH.nil
            exact AllReadyH.nil
          exact AllReadyH.nil
        exact AllReadyH.nil
    · have hin : i = 6 := by omega
      have i2 : ¬ (i : Int) < (6 : Int) := by omega
      subst hin
      go_wp2
      go_ret
      exact ⟨ao, cp, L, (by rw [hql]; rfl), (by rw [hql]; exact hO.lt b02.size), hM, gr_trans b02 hb⟩

set_option maxRecDepth 100000 in
set_option maxHeartbeats 1000000 in
theorem cloneI_any (ao : Option Addr) (n cap : Nat) (l : List Int) (w : World) (h : GRow intF w ao n cap l) (hn : n ≤ 16777216) :
  Calls Tryz.prog 159 #[.slice ao n cap] w fun r w' => ∃ ao' cap', r = .returned (.slice ao' n cap') ∧ w'.ownsRow w.heap.size 3 1 (.slice ao' n cap') n (intF.all l) ∧ Below w.heap.size w w' := by
 cases ao with
 | none =>
  have hc0 := h.nil rfl
  have hn0 : n = 0 := by have := h.le; omega
  subst hc0 hn0
  have hl : l = [] := List.eq_nil_of_length_eq_zero h.size
  subst hl
  have heq : ∀ W, (binOp .eql 27 (.slice none 0 0) (.slice none 0 0)).run Tryz.prog W = .ok (.bool true) W := fun _ => by kernel_rfl
  go_enter Tryz.func159, Tryz.ntmps159
  go_wp2
  go_ret
  exact ⟨none, 0, rfl, World.ownsRow_nil _ _ _ _, Below.refl _ _⟩
 | some a =>
  have heq : ∀ W, (binOp .eql 27 (.slice (some a) n cap) (.slice none 0 0)).run Tryz.prog W = .ok (.bool false) W := fun _ => by kernel_rfl
  go_enter Tryz.func159, Tryz.ntmps159
  go_wp2_with (at_builtin; refine wpList_append_flat (F := intF) _ rfl _ _ 27 3 rfl w.heap.size Tryz.underlying27 Tryz.infoI64 rfl (by decide) _ 0 [] rfl (flat_nil intF w _ 3 w.heap.size (block_last w _) (Nat.le_refl _)) (some a) n cap l rfl (h.below (below_one _ _)) (by omega) (by simp) ?_)
  intro ao' cap' w' how hr hgr hb
  have how : w'.ownsRow w.heap.size 3 1 (.slice ao' n cap') n (intF.all l) := by
   try simp only [Nat.zero_add, List.nil_append] at how
   exact how
  have HO := hide how
  have HB := hide ((below_one w _).trans hb)
  clear how hgr hb hr
  go_wp2
  go_ret
  exact ⟨ao', cap', (by simp), HO.out, HB.out⟩

set_option maxRecDepth 100000 in
set_option maxHeartbeats 1000000 in
theorem cloneV_any (ao : Option Addr) (n cap : Nat) (l : List VR) (w : World) (h : GRow vrowF w ao n cap l) (hn : n ≤ 16777216) :
  Calls Tryz.prog 158 #[.slice ao n cap] w fun r w' => ∃ ao' cap', r = .returned (.slice ao' n cap') ∧ w'.ownsRow w.heap.size 100 3 (.slice ao' n cap') n (vrowF.all l) ∧ Below w.heap.size w w' := by
 cases ao with
 | none =>
  have hc0 := h.nil rfl
  have hn0 : n = 0 := by have := h.le; omega
  subst hc0 hn0
  have hl : l = [] := List.eq_nil_of_length_eq_zero h.size
  subst hl
  have heq : ∀ W, (binOp .eql 26 (.slice none 0 0) (.slice none 0 0)).run Tryz.prog W = .ok (.bool true) W := fun _ => by kernel_rfl
  go_enter Tryz.func158, Tryz.ntmps158
  go_wp2
  go_ret
  exact ⟨none, 0, rfl, World.ownsRow_nil _ _ _ _, Below.refl _ _⟩
 | some a =>
  have heq : ∀ W, (binOp .eql 26 (.slice (some a) n cap) (.slice none 0 0)).run Tryz.prog W = .ok (.bool false) W := fun _ => by kernel_rfl
  go_enter Tryz.func158, Tryz.ntmps158
  go_wp2_with (at_builtin; refine wpList_append_flat (F := vrowF) _ rfl _ _ 26 100 rfl w.heap.size Tryz.underlying26 vrowInfo rfl (by decide) _ 0 [] rfl (flat_nil vrowF w _ 100 w.heap.size (block_last w _) (Nat.le_refl _)) (some a) n cap l rfl (h.below (below_one _ _)) (by omega) (by simp) ?_)
  intro ao' cap' w' how hr hgr hb
  have how : w'.ownsRow w.heap.size 100 3 (.slice ao' n cap') n (vrowF.all l) := by
   try simp only [Nat.zero_add, List.nil_append] at how
   exact how
  have HO := hide how
  have HB := hide ((below_one w _).trans hb)
  clear how hgr hb hr
  go_wp2
  go_ret
  exact ⟨ao', cap', (by simp), HO.out, HB.out⟩

set_option maxRecDepth 100000 in
set_option maxHeartbeats 4000000 in
theorem implCopyV_made (a : Option Addr) (n c : Nat) (o : Option Addr) (p q : Nat) (v : VT) (w : World) (h : VTab w a n c o p q v) (hn : n ≤ 16777216) (hp : p ≤ 16777216) :
  Calls Tryz.prog 108 #[.agg #[.slice a n c, .slice o p q]] w fun r w' => ∃ a' c' o' q', r = .returned (.agg #[.slice a' n c', .slice o' p q']) ∧ VOwn w' w.heap.size a' n c' o' p q' v ∧ Below w.heap.size w w' := by
 generalize hw1 : w.alloc (Obj.cells #[Value.slice a n c, Value.slice o p q] 29) = w1
 generalize hw2 : w1.alloc (Obj.cells #[Value.slice none 0 0, Value.slice none 0 0] 29) = w2
 have s1 : w1.heap.size = w.heap.size + 1 := by subst hw1; simp
 have s2 : w2.heap.size = w.heap.size + 1 + 1 := by subst hw2; simp [s1]
 have hk1 : w2.heap[w1.heap.size]? = some (.cells #[.slice none 0 0, .slice none 0 0] 29) := by rw [← hw2]; exact block_last _ _
 have b01 : Below w.heap.size w w1 := by subst hw1; exact below_one _ _
 have vb : Below w1.heap.size w1 w2.drew := by subst hw2; exact gr_drew (below_one _ _)
 have bw : Below w.heap.size w w2 := by subst hw2; exact gr_trans b01 (below_one _ _)
 have vv : Below w2.heap.size w2 w2.drew := gr_drew (Below.refl _ _)
 have HL : Hid (∀ b, some w1.heap.size = some b → b < w2.heap.size) := hide (by intro b hb; cases hb; omega)
 clear s1 s2
 go_enter Tryz.func108, Tryz.ntmps108
 go_wp2_with fail
 refine wp_region_held_drew (S := (fun W => W.cell? ⟨w.heap.size, 0, none⟩ = some (.slice a n c) ∧ W.cell? ⟨w.heap.size, 1, none⟩ = some (.slice o p q))) (by kernel_rfl) (box_two hw1 vb) (fun hHeld => ?_)
 refine kK 0 ⟨some 3, .fieldAddr 29 (.tmp 1) 0, 0, "l09_vlan.go:115", #[], none⟩ ?_
 refine kK 1 ⟨some 4, .load 26 (.tmp 3), 26, "l09_vlan.go:115", #[⟨0, .data⟩], none⟩ ?_
 refine kK 3 ⟨some 6, .fieldAddr 29 (.tmp 1) 1, 0, "l09_vlan.go:115", #[], none⟩ ?_
 refine kK 4 ⟨some 7, .load 27 (.tmp 6), 27, "l09_vlan.go:115", #[⟨3, .data⟩], none⟩ ?_
 refine tR [2] ?_
 refine AllReadyH.cons (o := ⟨some 5, .call ⟨.value (.func 158), #[.tmp 4], #[26]⟩, 26, "l09_vlan.go:115", #[⟨1, .data⟩], none⟩) rfl (fun K hK => ?_) ?_
 ·go_simp
  refine (cloneV_any a n c v.rows _ (h.rows.below (gr_trans bw vv)) hn).mono ?_
  rintro e wx ⟨aR, cR, rfl, how, hbx⟩
  have hR := gown_lt how (base' := w2.heap.size) vv.size
  try have hI := gown_below hI hbx
  have vv := gr_trans vv hbx
  have vb := gr_trans vb hbx
  clear how hbx
  go_wp2_with fail
  refine hK.out _ _ (box_two hw1 vb) (fun hHeld => ?_)
  clear hK K
  try simp only [Act.put, lA, lB, lC]
  refine tR [5] ?_
  refine AllReadyH.cons (o := ⟨some 8, .call ⟨.value (.func 159), #[.tmp 7], #[27]⟩, 27, "l09_vlan.go:115", #[⟨4, .data⟩, ⟨2, .chain⟩], none⟩) rfl (fun K hK => ?_) ?_
  ·go_simp
   refine (cloneI_any o p q v.own _ ((h.own.below (gr_trans bw vv)).flat) hp).mono ?_
   rintro e wx ⟨aI, cI', rfl, how, hbx⟩
   have hI := gown_lt how (base' := w2.heap.size) vv.size
   try have hR := gown_below hR hbx
   have vv := gr_trans vv hbx
   have vb := gr_trans vb hbx
   clear how hbx
   go_wp2_with fail
   refine hK.out _ _ (box_two hw1 vb) (fun hHeld => ?_)
   clear hK K
   try simp only [Act.put, lA, lB, lC]
   refine kK 6 ⟨some 9, .build 29 #[(0, .tmp 5), (1, .tmp 8)], 29, "l09_vlan.go:115", #[⟨2, .data⟩, ⟨5, .data⟩], none⟩ ?_
   refine tR [7] ?_
   refine AllReadyH.cons (o := ⟨none, .store 29 (.tmp 2) (.tmp 9), 0, "l09_vlan.go:115", #[⟨6, .data⟩, ⟨5, .chain⟩, ⟨0, .phase⟩, ⟨1, .phase⟩, ⟨2, .phase⟩, ⟨3, .phase⟩, ⟨4, .phase⟩, ⟨5, .phase⟩, ⟨6, .phase⟩], none⟩) rfl (fun K hK => ?_) ?_
   ·obtain ⟨⟨g0, g1⟩, f0, f1⟩ := cells2 (kept_block hk1 vv)
    go_simp
    have hR := gown_apart (gown_apart hR (grown_set (rb := w1.heap.size) 0 (.slice aR n cR)) HL.out) (grown_set (rb := w1.heap.size) 1 (.slice aI p cI')) HL.out
    have hI := gown_apart (gown_apart hI (grown_set (rb := w1.heap.size) 0 (.slice aR n cR)) HL.out) (grown_set (rb := w1.heap.size) 1 (.slice aI p cI')) HL.out
    have vb := below_set (below_set vb (Nat.le_refl _) 0 (.slice aR n cR)) (Nat.le_refl _) 1 (.slice aI p cI')
    refine hK.out _ _ (box_two hw1 vb) (fun hHeld => ?_)
    clear hK K
    try simp only [Act.put, lA, lB, lC]
    refine wpAnyH_done (by kernel_rfl) ?_ _
    have HR := hide hR
    have HI := hide hI
    clear hR hI
    go_wp2
    refine bodyPost_ret (v := .agg #[.slice aR n cR, .slice aI p cI']) (by simp [results, Tryz.results108, go_sem, *]) rfl ⟨_, _, _, _, rfl, ⟨gown_lt HR.out bw.size, gown_lt (by rw [← intF_all]; exact HI.out) bw.size, h.own.byte⟩, gr_trans b01 vb⟩
   exact AllReadyH.nil
  exact AllReadyH.nil
 exact AllReadyH.nil

theorem own_cells {w w' : World} {base k : Nat} {e : TypeId} {v : Value} {n : Nat} {xs : List Value} (h : w.ownsRow base e k v n xs) (hk : ∀ (Y : Nat) (cs : Array Value), w.heap[Y]? = some (.cells cs e) → w'.heap[Y]? = some (.cells cs e)) : w'.ownsRow base e k v n xs := by
 obtain ⟨hl, h0 | ⟨g, cap, cur, rfl, hg, hh, r⟩⟩ := h
 ·exact ⟨hl, .inl h0⟩
 ·exact ⟨hl, .inr ⟨g, cap, cur, rfl, hg, hk g cur hh, r⟩⟩

theorem OOwns.other {w w' : World} {base : Nat} {ao : Option Addr} {n cap : Nat} {l : List OI} (h : OOwns w base ao n cap l)
  (hk : ∀ (Y : Nat) (cs : Array Value) (T : TypeId), (95 : Nat) ≠ T → (97 : Nat) ≠ T → (100 : Nat) ≠ T → (3 : Nat) ≠ T → w.heap[Y]? = some (.cells cs T) → w'.heap[Y]? = some (.cells cs T)) : OOwns w' base ao n cap l :=
 ⟨own_cells h.row (fun Y cs hY => hk Y cs _ (by decide) (by decide) (by decide) (by decide) hY), fun x hx => ⟨own_cells (h.item x hx).z (fun Y cs hY => hk Y cs _ (by decide) (by decide) (by decide) (by decide) hY), (h.item x hx).zb⟩, h.apart⟩

theorem OOwns.rows {w : World} {base : Nat} {ao : Option Addr} {n cap : Nat} {l : List OI} (h : OOwns w base ao n cap l) : ∀ x ∈ l, Row w x.a x.n x.c x.z := fun x hx => (h.item x hx).row

theorem retB {x y : Bool} (h : x = y) : Ending.returned (.bool x) = .returned (.bool y) := by rw [h]

set_option maxRecDepth 100000 in
set_option maxHeartbeats 2000000 in
theorem lawBit_any (n : Int) (k : Nat) (hk : k ≤ 7) (B : Bool) (w : World) (h : bitOf n (k : Int) = B) :
  Calls Tryz.prog 15 #[.int .i64 n, .int .i64 k] w fun e w' => e = .returned (.bool B) ∧ w' = w := by
 have h : (bits .and .i64 (n / 2 ^ k) 1 == 1) = B := by
  rw [← h]
  unfold bitOf in3
  rw [decide_eq_true (show (0 : Int) ≤ (k : Int) by omega), decide_eq_true (show (k : Int) ≤ 7 by omega), Int.toNat_natCast]
  rfl
 have i1 : (0 : Int) ≤ (k : Int) := by omega
 have i2 : (k : Int) < 8 := by omega
 have hwk : IntKind.u64.wrap (k : Int) = (k : Int) := by rw [IntKind.wrap_u64]; omega
 go_enter Tryz.func15, Tryz.ntmps15
 go_wp2
 go_ret
 exact ⟨retB (by first | rfl | simp [h]), rfl⟩

end Go.Proofs.YtddalpglihhipaaGreat
