/-
  FnExactNetNew answers true at all arguments: NetNew answers as the specification; it writes into no argument; its answer owns its memory, behind another call too.
-/
import Derived.Test.YtdmplbmfkliiiaaGreatPNK01
import Derived.Test.YtdmplbmfkliiiaaGreatPNK02
import Derived.Test.YtdmplbmfkliiiaaGreatPNK25
import Derived.Test.YtdmplbmfkliiiaaGreatPNK27
import Derived.Test.YtdmplbmfkliiiaaGreatPNK29
import Derived.WalkKit
import Derived.ProofKit
import Derived.OpenShut
import Derived.ShutString
import Derived.ChangeOld
import Derived.Below
import Derived.Lib.SmallJoins
namespace Go.Proofs.YtdmplbmfkliiiaaGreat
open Go.RowKit

set_option maxRecDepth 100000 in
set_option maxHeartbeats 16000000 in
theorem exactNetNew_walk (a0 : Option Addr) (l0 c0 : Nat) (z0 : List Int) (ports : Int) (a2 : Option Addr) (l2 c2 : Nat) (z2 : List LK) (w : World) (h0 : IRow w a0 l0 c0 z0) (_wp : (Lit.int .i64 ports).wf = true) (h2 : GRow linkF w a2 l2 c2 z2) (_g2 : ∀ x ∈ z2, x.Rng) :
  Calls Tryz.prog 4 #[.slice a0 l0 c0, .int .i64 ports, .slice a2 l2 c2] w fun e w' => e = .returned (.bool true) ∧ Below w.heap.size w w' := by
 have ml := Nat.le_trans h2.le h2.top
 have ml0 := Nat.le_trans h0.le h0.top
 by_cases gi : (l0 : Int) > 1048576
 ·unfold maxLen at ml0
  go_enter Tryz.func4, Tryz.ntmps4
  go_wp2
  go_ret
  exact ⟨rfl, Below.refl _ _⟩
 by_cases gl : ¬ (l2 : Int) ≤ 1048576
 ·unfold maxLen at ml0
  go_enter Tryz.func4, Tryz.ntmps4
  go_wp2_with fail
  refine (szLinks_any a2 l2 c2 1048576 _ ml (by omega) (by omega)).mono ?_
  rintro e w1 ⟨rfl, e1⟩
  obtain rfl := e1.symm
  rw [if_neg (show ¬ (l2 : Int) ≤ 1048576 by omega)]
  go_wp2
  go_ret
  exact ⟨rfl, Below.refl _ _⟩
 have gl : (l2 : Int) ≤ 1048576 := by omega
 have g1 : ¬ ((1048576 : Int) - (l2 : Int) < 0) := by omega
 have ls : l2 ≤ 1048576 := by omega
 have li : l0 ≤ 1048576 := by omega
 unfold maxLen at ml0
 go_enter Tryz.func4, Tryz.ntmps4
 go_wp2_with fail
 refine (szLinks_any a2 l2 c2 1048576 _ ml (by omega) (by omega)).mono ?_
 rintro e w1 ⟨rfl, e1⟩
 obtain rfl := e1.symm
 rw [if_pos gl]
 clear gl ml ml0
 go_wp2_with fail
 refine (copyI_made a0 l0 c0 z0 _ h0 (by omega)).mono ?_
 rintro e w2 ⟨ia, ic, rfl, -, i2, hb2⟩
 go_wp2_with fail
 refine (toLinks_made a2 l2 c2 z2 _ (h2.below hb2) ls).mono ?_
 rintro e w3 ⟨la, lc, rfl, o3, hb3⟩
 go_wp2_with fail
 refine (specNetNew_made ia l0 ic z0 ports la l2 lc z2 _ (i2.below hb3) (grow_own (F := linkF) o3) ls li).mono ?_
 rintro e w4 ⟨M4, rfl, n4, s4, hb4⟩
 generalize hwS : w4.alloc (Obj.cells #[.slice M4.ba M4.bn M4.bc, .slice M4.la M4.ln M4.lc, .slice M4.sa M4.sn M4.sc] 31) = wS
 have bS : Below w4.heap.size w4 wS := by rw [← hwS]; exact below_one _ _
 have kS : wS.heap[w4.heap.size]? = some (.cells #[.slice M4.ba M4.bn M4.bc, .slice M4.la M4.ln M4.lc, .slice M4.sa M4.sn M4.sc] 31) := by rw [← hwS]; exact block_last _ _
 have rS := (n4.below bS).row
 have uS := gr_trans (gr_trans (gr_trans hb2 hb3) hb4) bS
 have pS : Below wS.heap.size wS wS := Below.refl _ _
 have M4s := s4
 have hs4 := n4.s.2.2.2
 have HSS4 := hide hs4
 clear hb2 hb3 hb4 bS i2 o3 n4 hs4 s4
 go_wp2_with fail
 refine (copyI_made a0 l0 c0 z0 _ (h0.below uS) (by omega)).mono ?_
 rintro e w6 ⟨xa, xc, rfl, ox, ix, hb6⟩
 have pS := gr_trans pS hb6
 go_wp2_with fail
 refine (toLinks_made a2 l2 c2 z2 _ (h2.below (gr_trans uS pS)) ls).mono ?_
 rintro e w7 ⟨ya, yc, rfl, oy, hb7⟩
 have oy := gown_lt oy pS.size
 have ox := own_below ox hb7
 have ix := ix.below hb7
 have pS := gr_trans pS hb7
 go_wp2_with fail
 refine (implNetNew_made xa l0 xc z0 ports ya l2 yc z2 _ ix (grow_own (F := linkF) oy) ls li).mono ?_
 have XLT := fun b hb => (ox.lt b hb).2
 have YLT := fun b hb => (oy.lt b hb).2
 have HXL := hide XLT
 have HYL := hide YLT
 have HZ8 := hide pS.size
 clear XLT YLT
 rintro e w8 ⟨M8, rfl, n8, s8, hb8⟩
 have HSM : Hid (∀ (W : World) (b : Nat) (M : NV), NetOwn W b M → NewIs z0 ports z2 M → (∀ x ∈ M.bs, x.Tiny) ∧ M.bn ≤ 64 ∧ M.ln ≤ 1048576) := hide (fun W b M hM sM => by
  have e1 := hM.b.grow.size
  have e2 := (grow_own (F := linkF) hM.l).size
  by_cases hok : NetOk (newBs z0 ports) z2 []
  ·obtain ⟨y1, y2⟩ := sM.yes hok
   refine ⟨fun x hx => ?_, ?_, by rw [← e2, y2, h2.size]; exact ls⟩
   ·have hm : x.B ∈ M.bs.map BV.B := List.mem_map_of_mem hx
    rw [y1] at hm
    obtain ⟨i, hi⟩ := List.getElem?_of_mem hm
    obtain ⟨id, -, he⟩ := upBs_at hi
    have o := (hM.b.item x hx).row
    have q1 := o.ports.size
    have q2 := o.f.size
    have q3 := o.v.rows.size
    have q4 := o.v.own.size
    obtain ⟨r1, r2, r3⟩ := raiseTo_less (bridgeNewAt id ports) (bridgeNewAt id ports).ports.length
    have pp := bridgeNew_parts id ports
    rw [he] at q1 q2 q3 q4
    unfold raised at q1 q2 q3 q4
    rw [r3] at q3 q4
    exact ⟨by omega, by omega, by omega, by omega⟩
   ·have := hok.1.2.2.2
    have hl := congrArg List.length y1
    simp [upBs] at hl
    simp [newBs] at this
    omega
  ·obtain ⟨y1, y2⟩ := sM.no hok
   rw [y1] at e1 ⊢
   rw [y2] at e2
   exact ⟨(by intro x hx; cases hx), by simp at e1; omega, by simp at e2; omega⟩)
 have HSAME : Hid (∀ M N : NV, NewIs z0 ports z2 M → NewIs z0 ports z2 N → M.ss = [] → N.ss = [] → M.Same N) := hide (fun M N hM hN e1 e2 => by
  by_cases hok : NetOk (newBs z0 ports) z2 []
  ·exact ⟨(hM.yes hok).1.trans (hN.yes hok).1.symm, (hM.yes hok).2.trans (hN.yes hok).2.symm, e1.trans e2.symm⟩
  ·exact ⟨by rw [(hM.no hok).1, (hN.no hok).1], by rw [(hM.no hok).2, (hN.no hok).2], e1.trans e2.symm⟩)
 have HS4 := HSS4
 have HT := hide (HSM.out _ _ _ n8 s8)
 have HSM8 : Hid (M8.Same M4) := hide (HSAME.out _ _ s8 M4s n8.s.2.2.2 HS4.out)
 generalize hwG : w8.alloc (Obj.cells #[.slice M8.ba M8.bn M8.bc, .slice M8.la M8.ln M8.lc, .slice M8.sa M8.sn M8.sc] 31) = wG
 have bG : Below w8.heap.size w8 wG := by rw [← hwG]; exact below_one _ _
 have kG : wG.heap[w8.heap.size]? = some (.cells #[.slice M8.ba M8.bn M8.bc, .slice M8.la M8.ln M8.lc, .slice M8.sa M8.sn M8.sc] 31) := by rw [← hwG]; exact block_last _ _
 have tG := n8.below bG
 have ox := own_below (own_below ox hb8) bG
 have oy := gown_below (gown_below oy hb8) bG
 have pS := gr_trans (gr_trans pS hb8) bG
 clear hb6 hb7 hb8 bG n8 ix
 obtain ⟨z0, z1, z2⟩ := cells3n kG
 obtain ⟨s0, s1, s2⟩ := cells3n (kept_block kS pS)
 go_wp2_with fail
 refine (eqNet_same M8 M4 _ tG.row (rS.below pS) HSM8.out).mono ?_
 rintro e w9 ⟨rfl, hb⟩
 have pS := gr_trans pS hb
 have tG := tG.below hb
 have kG := kept_block kG hb
 have ox := own_below ox hb
 have oy := gown_below oy hb
 clear hb
 clear z0 z1 z2 s0 s1 s2
 have ix := irow_own ox h0.byte
 go_wp2_with fail
 refine (copyI_made a0 l0 c0 z0 _ (h0.below (gr_trans uS pS)) (by omega)).mono ?_
 rintro e w10 ⟨ja, jc, rfl, -, jx, hb⟩
 have pS := gr_trans pS hb
 have tG := tG.below hb
 have kG := kept_block kG hb
 have ox := own_below ox hb
 have oy := gown_below oy hb
 have ix := ix.below hb
 clear hb
 go_wp2_with fail
 refine (eqI_same xa l0 xc ja l0 jc z0 _ ix jx).mono ?_
 rintro e w11 ⟨rfl, nn, rfl⟩
 have hb : Below w10.heap.size w10 (w10.drewN nn) := gr_drewN (Below.refl _ _) nn
 have pS := gr_trans pS hb
 have tG := tG.below hb
 have kG := kept_block kG hb
 have ox := own_below ox hb
 have oy := gown_below oy hb
 clear hb ix jx
 obtain ⟨wK, hwK⟩ : ∃ y, y = w10.drewN nn := ⟨_, rfl⟩
 rw [← hwK] at pS tG kG ox oy ⊢
 clear hwK
 go_wp2_with fail
 refine (toLinks_made a2 l2 c2 z2 _ (h2.below (gr_trans uS pS)) ls).mono ?_
 rintro e w12 ⟨va, vc, rfl, ov, hb⟩
 have pS := gr_trans pS hb
 have tG := tG.below hb
 have kG := kept_block kG hb
 have ox := own_below ox hb
 have oy := gown_below oy hb
 clear hb
 go_wp2_with fail
 refine (eqLinks_same ya l2 yc va l2 vc z2 _ (grow_own (F := linkF) oy) (grow_own (F := linkF) ov)).mono ?_
 rintro e w13 ⟨rfl, hb⟩
 have pS := gr_trans pS hb
 have tG := tG.below hb
 have kG := kept_block kG hb
 have ox := own_below ox hb
 have oy := gown_below oy hb
 clear hb ov
 go_wp2_with fail
 refine (markI_grown wS.heap.size xa l0 xc z0 1 _ ox (by omega) (by omega) (by omega)).mono ?_
 rintro e w14 ⟨rfl, ox2, hg⟩
 have pS := pS.grown hg pS.size (by intro k hk; exact (ox.lt k hk).1)
 have tG := tG.apartO hg HXL.out
 have kG := kept_grown kG hg (fun k hk => box_ne ox kG (by decide) k hk)
 have oy := gown_type oy ox (by decide) hg
 clear hg ox ox2
 go_wp2_with fail
 refine (markLinks_grown wS.heap.size ya l2 yc z2 (1 + l0) _ oy (by omega) (by omega) (by omega)).mono ?_
 rintro e w15 ⟨rfl, oy2, hg⟩
 have pS := pS.grown hg pS.size (by intro k hk; exact (oy.lt k hk).1)
 have tG := tG.apartO hg HYL.out
 have kG := kept_grown kG hg (fun k hk => box_ne oy kG (by decide) k hk)
 clear hg oy oy2
 have j0 : ¬ ((1 : Int) + (l0 : Int) + 4 * (l2 : Int) < 0) := by omega
 obtain ⟨z0, z1, z2⟩ := cells3n kG
 obtain ⟨s0, s1, s2⟩ := cells3n (kept_block kS pS)
 go_wp2_with fail
 refine (eqNet_same M8 M4 _ tG.row (rS.below pS) HSM8.out).mono ?_
 rintro e w16 ⟨rfl, hb⟩
 have pS := gr_trans pS hb
 have tG := tG.below hb
 have kG := kept_block kG hb
 clear hb j0
 clear z0 z1 z2 s0 s1 s2
 obtain ⟨z0, z1, z2⟩ := cells3n kG
 go_wp2_with fail
 refine (markNet_own _ M8 _ tG HT.out.1 HT.out.2.1 HT.out.2.2).mono ?_
 rintro e w17 ⟨rfl, tM, O⟩
 have pS := pS.trans (O.below pS.size (fun b hb => Nat.le_trans HZ8.out (tG.blk b hb).1))
 have kG := O.kept kG (tG.box_apart kG)
 clear tG O
 clear z0 z1 z2
 obtain ⟨z0, z1, z2⟩ := cells3n kG
 go_wp2_with fail
 refine (heldNet_any _ M8 _ tM HT.out.1 HT.out.2.1 HT.out.2.2).mono ?_
 rintro e w18 ⟨rfl, hb⟩
 have pS := gr_trans pS hb
 have tM := tM.below hb
 have kG := kept_block kG hb
 clear hb
 clear z0 z1 z2
 have HE : Hid (0 ≤ endN M8) := hide (by unfold endN; have := (endVs_le M8.bs HT.out.1 1).1; omega)
 generalize hEN : endN M8 = EN at *
 have j1 : ¬ (EN < 0) := by have := HE.out; omega
 go_wp2_with fail
 refine (copyI_made a0 l0 c0 z0 _ (h0.below (gr_trans uS pS)) (by omega)).mono ?_
 rintro e w19 ⟨pa, pc, rfl, -, px, hb⟩
 have pS := gr_trans pS hb
 have tM := tM.below hb
 have kG := kept_block kG hb
 clear hb
 go_wp2_with fail
 refine (toLinks_made a2 l2 c2 z2 _ (h2.below (gr_trans uS pS)) ls).mono ?_
 rintro e w20 ⟨qa, qc, rfl, oq, hb⟩
 have pS := gr_trans pS hb
 have tM := tM.below hb
 have kG := kept_block kG hb
 have px := px.below hb
 clear hb
 go_wp2_with fail
 refine (implNetNew_made pa l0 pc z0 ports qa l2 qc z2 _ px (grow_own (F := linkF) oq) ls li).mono ?_
 rintro e w21 ⟨MH, rfl, nH, sH, hbH⟩
 have HSMH : Hid (MH.Same M4) := hide (HSAME.out _ _ sH M4s nH.s.2.2.2 HS4.out)
 generalize hwH : w21.alloc (Obj.cells #[.slice MH.ba MH.bn MH.bc, .slice MH.la MH.ln MH.lc, .slice MH.sa MH.sn MH.sc] 31) = wH
 have bH : Below w21.heap.size w21 wH := by rw [← hwH]; exact below_one _ _
 have kH : wH.heap[w21.heap.size]? = some (.cells #[.slice MH.ba MH.bn MH.bc, .slice MH.la MH.ln MH.lc, .slice MH.sa MH.sn MH.sc] 31) := by rw [← hwH]; exact block_last _ _
 have hb := gr_trans hbH bH
 have rH := (nH.below bH).row
 have pS := gr_trans pS hb
 have tM := tM.below hb
 have kG := kept_block kG hb
 clear hb hbH bH nH px oq
 obtain ⟨v0, v1, v2⟩ := cells3n kH
 obtain ⟨s0, s1, s2⟩ := cells3n (kept_block kS pS)
 go_wp2_with fail
 refine (eqNet_same MH M4 _ rH (rS.below pS) HSMH.out).mono ?_
 rintro e w22 ⟨rfl, hb⟩
 have pS := gr_trans pS hb
 have tM := tM.below hb
 have kG := kept_block kG hb
 clear hb v0 v1 v2 kH
 clear s0 s1 s2
 obtain ⟨z0, z1, z2⟩ := cells3n kG
 go_wp2_with fail
 refine (heldNet_any _ M8 _ tM HT.out.1 HT.out.2.1 HT.out.2.2).mono ?_
 rintro e w23 ⟨rfl, hb⟩
 rw [hEN]
 have HB := hide (gr_trans (gr_trans uS pS) hb)
 clear hb pS tM kG kS rS
 clear z0 z1 z2
 go_wp2
 go_ret
 exact ⟨rfl, HB.out⟩

theorem fnExactNetNew_own : ownKnob Tryz.prog.godebug = none := by kernel_rfl
theorem fnExactNetNew_laid : laidOutB Tryz.prog = true := by kernel_rfl

open Go.ChangeShapes Go.WideShapes Go.ChangeAt in
open Go.ChangeMaps (open_string shut_string) in
set_option maxRecDepth 100000 in
theorem fnExactNetNew_lifted (os : Os) (started : os.Started) (H : Type) (enc : TypeId × Value → H) :
  ReturnsInHanded {} Tryz.checked os 4 .any (Rows.fnExactNetNewSpec.pre6 enc Tryz.prog Tryz.f4 Rows.fnExactNetNewRow.domain false) (Rows.fnExactNetNewSpec.post enc Tryz.prog Tryz.f4 false true false false) := by
 refine returnsInHanded_of_change (C := Tryz.checked) fnExactNetNew_own started (by kernel_rfl) Tryz.func4
  (ChangeSpec.witness6 (enc := enc) (C := Tryz.checked) false ⟨#[], #[.slice none 0 0, .int .i64 0, .slice none 0 0], []⟩ 8 (by kernel_rfl) (by kernel_rfl) (by kernel_rfl) (by kernel_rfl)) ?_
 intro W base args ds gs before hval0 hW hcnd _
 have hval : ∀ (j : Nat) t v, Tryz.f4.params[j]? = some t → args[j]? = some v → Value.okWide Tryz.prog W .any base t v := hval0
 have hW' := hW
 obtain ⟨p, q, hA0, hV, rfl, hfz, hnd⟩ := hW
 have hA : DataW.TrodAll enc Tryz.prog W 0 (fun _ => true) true Tryz.f4.params.toList args.toList ds p := hA0
 rw [Tryz.params4] at hA hval
 obtain ⟨v0, vs0, d0, ds0, p0, q0, hargs, rfl, rfl, h0, r0⟩ := trodAll_cons hA
 obtain ⟨v1, vs1, d1, ds1, p1, q1, rfl, rfl, rfl, h1, r1⟩ := trodAll_cons r0
 obtain ⟨v2, vs2, d2, ds2, p2, q2, rfl, rfl, rfl, h2, r2⟩ := trodAll_cons r1
 obtain ⟨rfl, rfl, rfl⟩ := trodAll_nil r2
 obtain rfl : args = #[v0, v1, v2] := by cases args; simp_all
 obtain ⟨rfl, rfl⟩ := trodVars_none hV
 obtain ⟨a0, len0, cap0, rfl⟩ := okWide_slice Tryz.underlying24 (hval 0 24 v0 rfl rfl)
 have k0 := h0
 have lt0 : ∀ x ∈ p0, x.block < W.heap.size := by obtain ⟨m, hm⟩ := k0; exact DataW.trod_lt m _ _ _ hm
 obtain ⟨z0, w0⟩ : ∃ zs, IRow W a0 len0 cap0 zs := by
  obtain ⟨fuel, hf⟩ := h0
  rcases open_ints Tryz.underlying24 Tryz.underlying3 (by kernel_rfl) hf with ⟨hcs, _⟩ | ⟨x, l, c, zs, hcs, _, hl, hm, hz, _, hcell, hwz⟩
  ·simp [Value.cells] at hcs
   obtain ⟨rfl, rfl, rfl⟩ := hcs
   exact ⟨[], irow_nil W⟩
  ·simp [Value.cells] at hcs
   obtain ⟨rfl, rfl, rfl⟩ := hcs
   exact ⟨zs.take len0, irow_open hl hm (by simpa using hz) hcell hwz⟩
 obtain ⟨a1, rfl, rfl, rfl, w1⟩ := open_int Tryz.underlying3 (hval 1 3 v1 rfl rfl) h1
 have k2 := h2
 have lt2 : ∀ x ∈ p2, x.block < W.heap.size := by obtain ⟨m, hm⟩ := k2; exact DataW.trod_lt m _ _ _ hm
 have bl : LkTypes Tryz.prog 45 94 3 _ _ _ _ := ⟨Tryz.underlying45, Tryz.underlying94, Tryz.underlying3, ⟨rfl, rfl⟩, ⟨rfl, rfl⟩, ⟨rfl, rfl⟩, ⟨rfl, rfl⟩, (by kernel_rfl), (by kernel_rfl)⟩
 obtain ⟨a2, len2, cap2, rfl⟩ := okWide_slice Tryz.underlying45 (hval 2 45 v2 rfl rfl)
 obtain ⟨z2, w2, g2⟩ : ∃ zs, GRow linkF W a2 len2 cap2 zs ∧ ∀ x ∈ zs, x.Rng := by
  obtain ⟨fuel, hf⟩ := h2
  obtain ⟨ao, m, c, l, e, hl, hr⟩ := open_links bl hf
  cases e
  exact ⟨l, hl, hr⟩
 clear hA0 hval0
 refine (exactNetNew_walk a0 len0 cap0 z0 a1 a2 len2 cap2 z2 W w0 w1 w2 g2).mono fun e W' ⟨he, bel⟩ => ?_
 subst he
 exact ⟨_, rfl, _, _, _, [], _, [], hW', trodAll_mk1 (shut_bool Tryz.underlying4 _), (trodAll_cons_mk (Below.trod fnExactNetNew_laid (by kernel_rfl) (of_decide_eq_true (by kernel_rfl)) k0 bel lt0) (trodAll_cons_mk (shut_int Tryz.underlying3 w1) (trodAll_cons_mk (Below.trod fnExactNetNew_laid (by kernel_rfl) (of_decide_eq_true (by kernel_rfl)) k2 bel lt2) trodAll_mk0))), rfl, bel.frame _, fun h => by cases h⟩

theorem fnExactNetNew_holds : Rows.FnExactNetNewSaid :=
 OpenClaim.holds_of_wide 4 Tryz.f4 rfl rfl rfl rfl rfl rfl rfl ⟨rfl, rfl, rfl, rfl, rfl⟩ rfl rfl rfl rfl rfl (by kernel_rfl) Tryz.func4 (by kernel_rfl)
  (of_decide_eq_true (by kernel_rfl)) (by unfold Func.isWrapper; first | (rw [if_pos (by decide +kernel)]; kernel_rfl) | (rw [if_neg (by decide +kernel)]; exact ⟨rfl, rfl⟩))
  (fun os started H enc _ => fnExactNetNew_lifted os started H enc)

#print axioms fnExactNetNew_holds

end Go.Proofs.YtdmplbmfkliiiaaGreat
