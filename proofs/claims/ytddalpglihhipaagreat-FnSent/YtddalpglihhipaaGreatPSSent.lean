/-
  FnSent answers true at all codes.
-/
import Derived.Test.YtddalpglihhipaaGreatPSBrSameI
import Derived.Test.YtddalpglihhipaaGreatPSFwdI
import Derived.Test.YtddalpglihhipaaGreatPSFwdS
import Derived.Test.YtddalpglihhipaaGreatPSK01
import Derived.Test.YtddalpglihhipaaGreatPSK07
import Derived.Test.YtddalpglihhipaaGreatPSK12
import Derived.Test.YtddalpglihhipaaGreatPSK19
import Derived.Test.YtddalpglihhipaaGreatPSK29
import Derived.Test.YtddalpglihhipaaGreatPSK30
import Derived.Test.YtddalpglihhipaaGreatPSSentReg
import Derived.Deep.CutRange
import Derived.WalkKit
import Derived.ProofKit
import Derived.OpenShut
import Derived.ShutString
import Derived.ChangeOld
import Derived.Below
namespace Go.Proofs.YtddalpglihhipaaGreat
open Go.RowKit

set_option maxRecDepth 100000 in
set_option maxHeartbeats 32000000 in
theorem sent_walk (a0 : Option Addr) (l0 c0 : Nat) (z0 : List Int) (w : World) (h0 : Row w a0 l0 c0 z0) :
  Calls Tryz.prog 3 #[.slice a0 l0 c0] w fun e w' => e = .returned (.bool true) ∧ Below w.heap.size w w' := by
 by_cases hbig : 1048576 < l0
 ·have hi : (1048576 : Int) < (l0 : Int) := by omega
  have hb1 : Calls Tryz.prog 6 #[.slice a0 l0 c0] w fun e w' => e = .returned (.bool true) ∧ w' = w := by
   go_enter Tryz.func6, Tryz.ntmps6
   go_wp2
   go_ret
   exact ⟨rfl, rfl⟩
  go_enter Tryz.func3, Tryz.ntmps3
  go_wp2_with fail
  refine hb1.mono ?_
  rintro e w1 ⟨rfl, e1⟩
  obtain rfl := e1.symm
  go_wp2
  go_ret
  exact ⟨rfl, Below.refl _ _⟩
 have hs : l0 ≤ 1048576 := by omega
 go_enter Tryz.func3, Tryz.ntmps3
 go_wp2_with fail
 refine (big_no a0 l0 c0 _ hbig).mono ?_
 rintro e w1 ⟨rfl, e1⟩
 obtain rfl := e1.symm
 go_wp2_with fail
 refine (drawSent_any a0 l0 c0 z0 _ h0 hs).mono ?_
 rintro e w2 ⟨m, a, c, fa, fn, fc, ra, rn, rc, oa, on, oc, B, port, fd, fs, ft, ao, nf, cf, zs, rfl, oB, din, ⟨h1, h4⟩, ⟨hp0, hp1⟩, ⟨hfd, hfs, hft, hnf, hzl⟩, oFr, hby, hb2⟩
 obtain ⟨k, rfl⟩ : ∃ k : Nat, port = (k : Int) := ⟨port.toNat, by omega⟩
 have hk : k < m := by omega
 clear hp0 hp1
 generalize hw3 : (w2.alloc (Obj.cells #[.int .i64 B.id, .string B.name, .slice a m c, .slice fa fn fc, .slice ra rn rc, .slice oa on oc, .int .i64 B.ticks, .int .i64 B.parse, .int .i64 B.word, .int .i64 B.drops, .int .i64 B.vers] 31)).alloc (Obj.cells #[.int .i64 fd, .int .i64 fs, .int .i64 ft, .slice ao nf cf] 33) = w3
 have b23 : Below w2.heap.size w2 w3 := by rw [← hw3]; exact gr_trans (below_one _ _) (below_one _ _)
 have kB : w3.heap[w2.heap.size]? = some (.cells #[.int .i64 B.id, .string B.name, .slice a m c, .slice fa fn fc, .slice ra rn rc, .slice oa on oc, .int .i64 B.ticks, .int .i64 B.parse, .int .i64 B.word, .int .i64 B.drops, .int .i64 B.vers] 31) := by rw [← hw3]; exact kept_block (block_last _ _) (below_one _ _)
 have kF : w3.heap[w2.heap.size + 1]? = some (.cells #[.int .i64 fd, .int .i64 fs, .int .i64 ft, .slice ao nf cf] 33) := by
  rw [← hw3]
  have := block_last (w2.alloc (Obj.cells #[.int .i64 B.id, .string B.name, .slice a m c, .slice fa fn fc, .slice ra rn rc, .slice oa on oc, .int .i64 B.ticks, .int .i64 B.parse, .int .i64 B.word, .int .i64 B.drops, .int .i64 B.vers] 31)) (Obj.cells #[.int .i64 fd, .int .i64 fs, .int .i64 ft, .slice ao nf cf] 33)
  simpa using this
 have oB := oB.below b23
 have oFr := own5_below oFr b23
 have u3 := gr_trans hb2 b23
 go_upto_region 4 with fail
 try rw [hw3]
 generalize hVf : w2.heap.size + 1 = Vf at *
 generalize hBb : w2.heap.size = Bb at *
 clear hw3 hb2 b23 hVf hBb
 obtain ⟨hn1, hn2, hn3, hn4⟩ := din_sizes din h4 oB.row
 have hRf := ok_rng din.f
 have hRv : ∀ r ∈ B.v.rows, r.Rng := fun r hr => (din.v.rows r hr).1
 have hBok := din_ok din h1 h4
 have hFk : okF fd fs ft nf = true := by unfold okF; simp; omega
 have hTh : thereB B (k : Int) = true := by unfold thereB; rw [hBok, din.len]; simp; omega
 have hVok := fwdB_ok hBok (k : Int) fd fs ft nf
 have hVl := fwdB_len B (k : Int) fd fs ft nf
 have rFr := row_own oFr hby
 have hon8 : on ≤ 8 := by have h5 := vtab_own6 (bridgeOk_parts hBok).2.2.2.2.2.1; have h6 := oB.row.v.own.size; have := din.len; omega
 have hRb : ∀ r ∈ B.v.rows, r.Rng ∧ 0 ≤ r.b ∧ r.b ≤ 63 := fun r hr => ⟨hRv r hr, vrows_small (bridgeOk_parts hBok).2.2.2.2.2.1 r hr⟩
 have hI64 : ∀ id, I64 (egressOf B.v id) := fun id => egress_rng hRv id
 have HDR := hide din.z.2.2
 have hVd := fwd_drop hTh hFk (z := zs)
 have hVr := fwd_let hTh hFk (z := zs)
 rw [din.len] at hVr
 have HDIN := hide din
 have HZL := hide hzl
 clear hzl
 generalize hV : fwdB B (k : Int) fd fs ft nf = V at *
 generalize hOV : fwdO B (k : Int) fd fs ft nf zs = OV at *
 have HV := hide hV
 have HOV := hide hOV
 have HVOK := hide hVok
 have HVL := hide hVl
 have HVD := hide hVd
 have HVR := hide hVr
 have HBOK := hide hBok
 clear hV hOV hVok hVl hVd hVr hBok hFk hTh din
 obtain ⟨x0, x1, x2, x3, x4, x5, x6, x7, x8, x9, x10⟩ := cells11 kB
 obtain ⟨⟨v0, v1, v2, v3⟩, -⟩ := cells4 kF
 go_wp2_with fail
 refine (implForward_made a m c fa fn fc ra rn rc oa on oc B (k : Int) fd fs ft ao nf cf zs _ oB.row rFr hn1 hn2 hn3 hn4 (by omega) hRf hRv).mono ?_
 rw [HV.out, HOV.out]
 rintro e w4 ⟨a6, n6, c6, fa6, fn6, fc6, ra6, rn6, rc6, oa6, on6, oc6, aoX, cpX, LX, rfl, tX, oX, hMX, hb6⟩
 generalize hw5 : w4.alloc (Obj.cells #[.int .i64 V.id, .string V.name, .slice a6 n6 c6, .slice fa6 fn6 fc6, .slice ra6 rn6 rc6, .slice oa6 on6 oc6, .int .i64 V.ticks, .int .i64 V.parse, .int .i64 V.word, .int .i64 V.drops, .int .i64 V.vers] 31) = w5
 have b45 : Below w4.heap.size w4 w5 := by rw [← hw5]; exact below_one _ _
 have kX : w5.heap[w4.heap.size]? = some (.cells #[.int .i64 V.id, .string V.name, .slice a6 n6 c6, .slice fa6 fn6 fc6, .slice ra6 rn6 rc6, .slice oa6 on6 oc6, .int .i64 V.ticks, .int .i64 V.parse, .int .i64 V.word, .int .i64 V.drops, .int .i64 V.vers] 31) := by rw [← hw5]; exact block_last _ _
 have d := gr_trans hb6 b45
 have tX := tX.below b45
 have oX := oX.below b45
 have oB := oB.below d
 have kB := kept_block kB d
 have kF := kept_block kF d
 have rFr := rFr.below d
 have u5 := gr_trans u3 d
 go_upto_region 5 with fail
 try rw [hw5]
 clear hw5 b45 hb6 d u3 x0 x1 x2 x3 x4 x5 x6 x7 x8 x9 x10 v0 v1 v2 v3 oFr
 generalize hXb : w4.heap.size = Xb at *
 clear hXb
 obtain ⟨x0, x1, x2, x3, x4, x5, x6, x7, x8, x9, x10⟩ := cells11 kB
 obtain ⟨⟨v0, v1, v2, v3⟩, -⟩ := cells4 kF
 go_wp2_with fail
 refine (specForward_made a m c fa fn fc ra rn rc oa on oc B (k : Int) fd fs ft ao nf cf zs _ oB.row rFr hn1 hn2 hn3 hn4 (by omega)).mono ?_
 rw [HV.out, HOV.out]
 rintro e w6 ⟨a9, n9, c9, fa9, fn9, fc9, ra9, rn9, rc9, oa9, on9, oc9, aoY, cpY, LY, rfl, tY, oY, hMY, hb8⟩
 generalize hw7 : w6.alloc (Obj.cells #[.int .i64 V.id, .string V.name, .slice a9 n9 c9, .slice fa9 fn9 fc9, .slice ra9 rn9 rc9, .slice oa9 on9 oc9, .int .i64 V.ticks, .int .i64 V.parse, .int .i64 V.word, .int .i64 V.drops, .int .i64 V.vers] 31) = w7
 have b67 : Below w6.heap.size w6 w7 := by rw [← hw7]; exact below_one _ _
 have kY : w7.heap[w6.heap.size]? = some (.cells #[.int .i64 V.id, .string V.name, .slice a9 n9 c9, .slice fa9 fn9 fc9, .slice ra9 rn9 rc9, .slice oa9 on9 oc9, .int .i64 V.ticks, .int .i64 V.parse, .int .i64 V.word, .int .i64 V.drops, .int .i64 V.vers] 31) := by rw [← hw7]; exact block_last _ _
 have d := gr_trans hb8 b67
 have tY := tY.below b67
 have oY := oY.below b67
 have tX := tX.below d
 have oX := oX.below d
 have kX := kept_block kX d
 have oB := oB.below d
 have kB := kept_block kB d
 have kF := kept_block kF d
 have rFr := rFr.below d
 have u7 := gr_trans u5 d
 go_upto_region 6 with fail
 try rw [hw7]
 clear hw7 b67 hb8 d u5 x0 x1 x2 x3 x4 x5 x6 x7 x8 x9 x10 v0 v1 v2 v3
 generalize hYb : w6.heap.size = Yb at *
 clear hYb
 obtain ⟨s0, s1, s2, s3, s4, s5, s6, s7, s8, s9, s10⟩ := cells11 kX
 obtain ⟨y0, y1, y2, y3, y4, y5, y6, y7, y8, y9, y10⟩ := cells11 kY
 go_wp2_with fail
 refine (implSameB_any a6 n6 c6 fa6 fn6 fc6 ra6 rn6 rc6 oa6 on6 oc6 V a9 n9 c9 fa9 fn9 fc9 ra9 rn9 rc9 oa9 on9 oc9 V _ tX.row tY.row).mono ?_
 rintro e w8 ⟨q, rfl, hq, hb8⟩
 obtain rfl : q = true := hq.2 rfl
 have tX := tX.below hb8
 have oX := oX.below hb8
 have kX := kept_block kX hb8
 have oB := oB.below hb8
 have kB := kept_block kB hb8
 have kF := kept_block kF hb8
 have rFr := rFr.below hb8
 have u7 := gr_trans u7 hb8
 have oY := oY.below hb8
 clear hb8 hq tY kY s0 s1 s2 s3 s4 s5 s6 s7 s8 s9 s10 y0 y1 y2 y3 y4 y5 y6 y7 y8 y9 y10
 go_wp2_with fail
 refine (sameOuts_same _ _ _ _ _ _ _ _ _ oX.grow oX.rows oY.grow oY.rows (by rw [hMX, hMY])).mono ?_
 rintro e w9 ⟨rfl, hb8⟩
 have tX := tX.below hb8
 have oX := oX.below hb8
 have kX := kept_block kX hb8
 have oB := oB.below hb8
 have kB := kept_block kB hb8
 have kF := kept_block kF hb8
 have rFr := rFr.below hb8
 have u7 := gr_trans u7 hb8
 clear hb8 oY hMY
 obtain ⟨s0, s1, s2, s3, s4, s5, s6, s7, s8, s9, s10⟩ := cells11 kX
 go_wp2_with fail
 refine (implBridgeOk_any a6 n6 c6 fa6 fn6 fc6 ra6 rn6 rc6 oa6 on6 oc6 V _ tX.row (by have e2 := tX.row.f.size; have e3 := ok_len (bridgeOk_parts HVOK.out).2.2.2.2.1; omega) (by rw [HVL.out.2.1]; exact hRv)).mono ?_
 rintro e w10 ⟨rfl, hb8⟩
 rw [HVOK.out]
 have tX := tX.below hb8
 have oX := oX.below hb8
 have kX := kept_block kX hb8
 have oB := oB.below hb8
 have kB := kept_block kB hb8
 have kF := kept_block kF hb8
 have rFr := rFr.below hb8
 have u7 := gr_trans u7 hb8
 clear hb8 s0 s1 s2 s3 s4 s5 s6 s7 s8 s9 s10
 obtain ⟨x0, x1, x2, x3, x4, x5, x6, x7, x8, x9, x10⟩ := cells11 kB
 obtain ⟨⟨v0, v1, v2, v3⟩, -⟩ := cells4 kF
 go_wp2_with fail
 refine (implClassOf_any ra rn rc oa on oc B.v (k : Int) ft _ oB.row.v hRv hon8).mono ?_
 rintro e w11 ⟨rfl, hb8⟩
 have tX := tX.below hb8
 have oX := oX.below hb8
 have kX := kept_block kX hb8
 have oB := oB.below hb8
 have kB := kept_block kB hb8
 have kF := kept_block kF hb8
 have rFr := rFr.below hb8
 have u7 := gr_trans u7 hb8
 clear hb8 x0 x1 x2 x3 x4 x5 x6 x7 x8 x9 x10 v0 v1 v2 v3
 generalize hci : (classOf B.v (k : Int) ft).1 = id
 generalize hcq : (classOf B.v (k : Int) ft).2 = cq
 have HCI := hide hci
 have HCQ := hide hcq
 clear hci hcq
 obtain ⟨x0, x1, x2, x3, x4, x5, x6, x7, x8, x9, x10⟩ := cells11 kB
 go_wp2_with fail
 refine (implSends_any B.id a m c B.ports _ oB.row.ports).mono ?_
 rintro e w12 ⟨rfl, hb8⟩
 have tX := tX.below hb8
 have oX := oX.below hb8
 have kX := kept_block kX hb8
 have oB := oB.below hb8
 have kB := kept_block kB hb8
 have kF := kept_block kF hb8
 have rFr := rFr.below hb8
 have u7 := gr_trans u7 hb8
 clear hb8 x0 x1 x2 x3 x4 x5 x6 x7 x8 x9 x10
 obtain ⟨SB, hSB⟩ : ∃ s, s = sendsOf B.id B.ports := ⟨_, rfl⟩
 rw [← hSB]
 have HSB := hide hSB
 obtain ⟨bq, hbq⟩ : ∃ b, bitOf SB (k : Int) = b := ⟨_, rfl⟩
 have HBQ := hide hbq
 clear hSB
 cases cq
 ·go_upto_region 11 with fail
  have hdp : letB B (k : Int) ft = false := by unfold letB; rw [HCQ.out, Bool.and_false]
  have hOV0 := (HVD.out hdp).2
  have hV0 := (HVD.out hdp).1
  have hq0 : LX.length = 0 := by have h7 := congrArg List.length hMX; rw [hOV0] at h7; simpa using h7
  have hVdr : V.drops = 1 := by rw [hV0]; show oneMore B.drops = 1; rw [HDR.out]; rfl
  have hVf : V.f = B.f := by rw [hV0]
  have gX : GRow fentF w12 fa6 fn6 fc6 B.f := by rw [← hVf]; exact tX.row.f
  clear hdp hOV0 hV0 hVf
  obtain ⟨s0, s1, s2, s3, s4, s5, s6, s7, s8, s9, s10⟩ := cells11 kX
  obtain ⟨x0, x1, x2, x3, x4, x5, x6, x7, x8, x9, x10⟩ := cells11 kB
  rw [hVdr] at s9
  rw [HDR.out] at x9
  rw [hq0]
  go_wp2_with fail
  refine (sameFdb_same _ _ _ _ _ _ B.f _ gX oB.row.f).mono ?_
  rintro e w13 ⟨rfl, hb8⟩
  have HB := hide (gr_trans u7 hb8)
  clear hb8 s0 s1 s2 s3 s4 s5 s6 s7 s8 s9 s10 x0 x1 x2 x3 x4 x5 x6 x7 x8 x9 x10
  go_wp2
  go_ret
  exact ⟨rfl, HB.out⟩
 go_wp2_with fail
 refine (lawBit_any SB k (by omega) bq _ hbq).mono ?_
 rintro e w13 ⟨rfl, e13⟩
 obtain rfl := e13.symm
 clear hbq
 cases bq
 ·go_upto_region 11 with fail
  have hdp : letB B (k : Int) ft = false := by unfold letB; rw [← HSB.out, HBQ.out]; rfl
  have hOV0 := (HVD.out hdp).2
  have hV0 := (HVD.out hdp).1
  have hq0 : LX.length = 0 := by have h7 := congrArg List.length hMX; rw [hOV0] at h7; simpa using h7
  have hVdr : V.drops = 1 := by rw [hV0]; show oneMore B.drops = 1; rw [HDR.out]; rfl
  have hVf : V.f = B.f := by rw [hV0]
  have gX : GRow fentF w12 fa6 fn6 fc6 B.f := by rw [← hVf]; exact tX.row.f
  clear hdp hOV0 hV0 hVf
  obtain ⟨s0, s1, s2, s3, s4, s5, s6, s7, s8, s9, s10⟩ := cells11 kX
  obtain ⟨x0, x1, x2, x3, x4, x5, x6, x7, x8, x9, x10⟩ := cells11 kB
  rw [hVdr] at s9
  rw [HDR.out] at x9
  rw [hq0]
  go_wp2_with fail
  refine (sameFdb_same _ _ _ _ _ _ B.f _ gX oB.row.f).mono ?_
  rintro e w14 ⟨rfl, hb8⟩
  have HB := hide (gr_trans u7 hb8)
  clear hb8 s0 s1 s2 s3 s4 s5 s6 s7 s8 s9 s10 x0 x1 x2 x3 x4 x5 x6 x7 x8 x9 x10
  go_wp2
  go_ret
  exact ⟨rfl, HB.out⟩
 have hlt : letB B (k : Int) ft = true := by unfold letB; rw [← HSB.out, HBQ.out, HCQ.out]; rfl
 obtain ⟨hVV, hOO⟩ := HVR.out hlt
 have hth := heard_there HBOK.out HCQ.out (by omega) (show 1 ≤ fs ∧ fs ≤ 9999 by omega)
 rw [HCI.out] at hVV hOO hth
 rw [hOO] at hMX
 have hFok : fdbOk (learnF B.f id fs (k : Int)) = true := learn_ok (bridgeOk_parts HBOK.out).2.2.2.2.1 _ _ _
 have hVf : V.f = learnF B.f id fs (k : Int) := by rw [hVV]
 generalize hFL : learnF B.f id fs (k : Int) = FL at *
 have gX : GRow fentF w12 fa6 fn6 fc6 FL := by rw [← hVf]; exact tX.row.f
 have hone := fun ht => outs_one (B := B) hFok (by omega) hMX ht
 have hfn6 : fn6 ≤ 16777216 := by have e2 := gX.size; have e3 := ok_len hFok; omega
 have hbf := oB.row.f.size
 have HTH := hide hth
 have HONE := hide hone
 have HMX := hide hMX
 have hLn := oX.size
 have hq6 : LX.length ≤ 6 := by have h7 := outTo_len B.v id (waysB B k id fd FL) fd fs zs m; rw [← hMX, List.length_map] at h7; omega
 have hjs : ∀ (i : Nat) (x : OI), LX[i]? = some x → ∃ j : Nat, j ≤ 7 ∧ x.p = (j : Int) ∧ ¬ (j : Int) = (k : Int) ∧ bitOf SB (j : Int) = true ∧ bitOf (egressOf B.v id) (j : Int) = true ∧ x.d = fd ∧ x.s = fs ∧ x.t = shownTag B.v id (j : Int) ∧ x.z = zs := by
  intro i x hx
  obtain ⟨j, hj, hb, e1, e2, e3, e4, e5⟩ := outs_get hMX hx
  rw [ways_bit B k id fd FL hFok j (by omega), may_bit B k id j (by omega) (by omega) (hI64 id), ← HSB.out] at hb
  simp only [Bool.and_eq_true, Bool.not_eq_true', decide_eq_false_iff_not] at hb
  exact ⟨j, by omega, e1, by omega, hb.1.1.1, hb.1.1.2, e2, e3, e4, e5⟩
 have HJS := hide hjs
 clear hlt hVV hOO hth hFL hVf hone hMX hjs
 have HGX := hide gX
 clear gX
 generalize hqq : LX.length = q at *
 have HQQ := hide hqq
 clear hqq
 go_upto_region 12 with fail
 go_cut [13] from 16 to 92 (fun s wx => s = .int .i64 0 ∧ wx = w12)
 case first =>
  go_wp2
  go_meet
  exact ⟨rfl, rfl⟩
 case rest =>
  obtain ⟨rfl, e12⟩ := hcut
  obtain rfl := e12.symm
  go_wp2_with fail
  go_loopw [13] (fun s wr => ∃ i : Nat, i ≤ q ∧ s = .int .i64 i ∧ Below w12.heap.size w12 wr) (fun s _ => q - (intOf s).toNat)
  case atStart => exact ⟨0, Nat.zero_le _, rfl, Below.refl _ _⟩
  case round =>
   obtain ⟨i, hi, rfl, hb⟩ := hrel
   have i1 : (0 : Int) ≤ (i : Int) := by omega
   by_cases hlt : i < q
   ·have i2 : (i : Int) < (q : Int) := by omega
    obtain ⟨x, xb, xo, hx, hxa, c0, c1, c2, c3, c4⟩ := out_at (oX.grow.below hb) i hlt
    subst hxa
    obtain ⟨j, hj7, e1, hjk, hjs, hje, e2, e3, e4, e5⟩ := HJS.out i x hx
    have rx := (oX.rows x (List.mem_of_getElem? hx)).below hb
    rw [e1] at c0
    rw [e2] at c1
    rw [e3] at c2
    rw [e4] at c3
    rw [e5] at rx
    clear e2 e3 e4 e5
    have kB' := kept_block kB hb
    have kF' := kept_block kF hb
    have HC : Hid (∀ W, Below wr.heap.size wr W → W.cell? ⟨xb, xo + i * 5, none⟩ = some (.int .i64 (j : Int)) ∧ W.cell? ⟨xb, xo + i * 5 + 1, none⟩ = some (.int .i64 fd) ∧ W.cell? ⟨xb, xo + i * 5 + 2, none⟩ = some (.int .i64 fs) ∧ W.cell? ⟨xb, xo + i * 5 + 3, none⟩ = some (.int .i64 (shownTag B.v id (j : Int))) ∧ W.cell? ⟨xb, xo + i * 5 + 4, none⟩ = some (.slice x.a x.n x.c)) := hide (fun W h => ⟨kept_cellO c0 h, kept_cellO c1 h, kept_cellO c2 h, kept_cellO c3 h, kept_cellO c4 h⟩)
    have HPV : Hid (∀ i', i = i' + 1 → ∃ j' : Nat, (j' : Int) < (j : Int) ∧ ∀ W, Below wr.heap.size wr W → W.cell? ⟨xb, xo + i' * 5, none⟩ = some (.int .i64 (j' : Int))) := hide (fun i' hi' => by
     obtain ⟨x', xb', xo', hx', hxa', c0', -⟩ := out_at (oX.grow.below hb) i' (by omega)
     cases hxa'
     obtain ⟨j', -, e1', -⟩ := HJS.out i' x' hx'
     have hr := outs_rise HMX.out (show i' < i by omega) hx' hx
     rw [e1', e1] at hr
     rw [e1'] at c0'
     exact ⟨j', hr, fun W h => kept_cellO c0' h⟩)
    obtain ⟨sg, hsg⟩ : ∃ s, s = shownTag B.v id (j : Int) := ⟨_, rfl⟩
    have HSG := hide hsg.symm
    rw [← hsg] at c3 HC
    clear hx e1 hsg
    go_wp2_with fail
    clear c0 c1 c2 c3 c4
    by_cases hi0 : ¬ 0 < i
    ·refine sent_reg0 (kB' := kB') (kF' := kF') (HC := HC) (hrows := oB.row.v.rows.below hb) (rFr := rFr.below hb) (rx := rx) (hj7 := hj7) (hjs := hjs) (hje := hje) (hjk := hjk) (hRb := hRb) (HSG := HSG) (i1 := i1) (i2 := i2) (hi0 := (by omega)) (hQp := fun _ _ o _ _ h => by cases o <;> exact h) (h := ?_)
     intro t104 t105 t106 t107 t108 t109 t110 t111 t112 t113 t114 t115 t116 t117 t118 t119 t120 t121 t122 t123 t124 t125 t126 t127 t128 t129 t130 t131 t132 t133 t134 t135 t136 t137 t138 t139 t140 t141 t142 t143 t144 t145 t146 t147 t148 t149 t150 t151 t152 t153 t154 t155 t156 t157 t158 t159 t160 t161 t162 t163 t164 t165 t166 t167 t168 t169 t170 t171 t172 t173 t174 t175 t176 t177 t178 t179 t180 t181 t182 wt vv
     have HB := hide (gr_trans hb vv)
     clear vv kB' kF'
     go_wp2
     go_roundw
     case rel => exact ⟨i + 1, by omega, by go_num, HB.out⟩
     case measure => simp [intOf]; omega
    ·obtain ⟨i', hi'⟩ : ∃ i', i = i' + 1 := ⟨i - 1, by omega⟩
     obtain ⟨j', hjj, hcp⟩ := HPV.out i' hi'
     have HCP : Hid (∀ W, Below wr.heap.size wr W → W.cell? ⟨xb, xo + i' * 5, none⟩ = some (.int .i64 (j' : Int))) := hide hcp
     clear hcp
     have hsub : IntKind.i64.wrap ((i : Int) - 1) = (i' : Int) := by rw [IntKind.wrap_i64]; omega
     have i5 : (0 : Int) ≤ (i' : Int) := by omega
     have i6 : (i' : Int) < (q : Int) := by omega
     have hnj : ¬ (j' : Int) ≥ (j : Int) := by omega
     have HI' := hide hi'
     clear hi'
     refine sent_reg1 (kB' := kB') (kF' := kF') (HC := HC) (hrows := oB.row.v.rows.below hb) (rFr := rFr.below hb) (rx := rx) (hj7 := hj7) (hjs := hjs) (hje := hje) (hjk := hjk) (hRb := hRb) (HSG := HSG) (i1 := i1) (i2 := i2) (hi0 := (by omega)) (hQp := fun _ _ o _ _ h => by cases o <;> exact h) (HCP := HCP) (hsub := hsub) (i5 := i5) (i6 := i6) (hnj := hnj) (h := ?_)
     intro t104 t105 t106 t107 t108 t109 t110 t111 t112 t113 t114 t115 t116 t117 t118 t119 t120 t121 t122 t123 t124 t125 t126 t127 t128 t129 t130 t131 t132 t133 t134 t135 t136 t137 t138 t139 t140 t141 t142 t143 t144 t145 t146 t147 t148 t149 t150 t151 t152 t153 t154 t155 t156 t157 t158 t159 t160 t161 t162 t163 t164 t165 t166 t167 t168 t169 t170 t171 t172 t173 t174 t175 t176 t177 t178 t179 t180 t181 t182 wt vv
     have HB := hide (gr_trans hb vv)
     clear vv kB' kF'
     go_wp2
     go_roundw
     case rel => exact ⟨i + 1, by omega, by go_num, HB.out⟩
     case measure => simp [intOf]; omega
   ·have hin : ¬ (i : Int) < (q : Int) := by omega
    have dd := hb
    have kX' := kept_block kX hb
    have kB' := kept_block kB hb
    have kF' := kept_block kF hb
    obtain ⟨s0, s1, s2, s3, s4, s5, s6, s7, s8, s9, s10⟩ := cells11 kX'
    obtain ⟨⟨v0, v1, v2, v3⟩, -⟩ := cells4 kF'
    go_wp2_with fail
    refine (implLookUp_all fa6 fn6 fc6 FL id fd _ (HGX.out.below dd) hfn6).mono ?_
    rintro e w14 ⟨rfl, hb14⟩
    have dd := gr_trans dd hb14
    have kX' := kept_block kX' hb14
    have kB' := kept_block kB' hb14
    have kF' := kept_block kF' hb14
    have oX' := oX.grow.below dd
    clear s0 s1 s2 s3 s4 s5 s6 s7 s8 s9 s10 v0 v1 v2 v3 hb14
    have HTO : Hid (toB FL id fd = if fd = 0 then -1 else lookUp FL id fd) := hide rfl
    generalize lookUp FL id fd = lk at *
    generalize toB FL id fd = TT at *
    obtain ⟨⟨v0, v1, v2, v3⟩, -⟩ := cells4 kF'
    go_upto_region 19 with fail
    go_cut [214] from 190 to 214 (fun s wx => s = .bool false ∧ wx = w14)
    case first =>
     by_cases hd : fd = 0
     ·have hd2 : (fd != 0) = false := by simp [hd]
      clear hd
      go_wp2
      go_meet
      exact ⟨rfl, rfl⟩
     ·have hd2 : (fd != 0) = true := by simp [hd]
      have hTT : TT = lk := by rw [HTO.out, if_neg hd]
      clear hd
      by_cases hl : 0 ≤ lk
      ·obtain ⟨ho1, ho2⟩ := HONE.out (by omega)
       rcases (show q = 0 ∨ q = 1 by omega) with hq | hq
       ·subst hq
        go_wp2
        go_meet
        exact ⟨rfl, rfl⟩
       ·subst hq
        obtain ⟨x, xb, xo, hx, hxa, c0, -⟩ := out_at oX' 0 (by omega)
        subst hxa
        rw [ho2 x hx, hTT, Nat.zero_mul, Nat.add_zero] at c0
        clear ho1 ho2 hTT hx
        go_wp2
        try go_wp2
        go_meet
        exact ⟨rfl, rfl⟩
      ·clear hTT
       go_wp2
       go_meet
       exact ⟨rfl, rfl⟩
    case rest =>
     obtain ⟨rfl, e14⟩ := hcut
     obtain rfl := e14.symm
     clear v0 v1 v2 v3 oX'
     obtain ⟨s0, s1, s2, s3, s4, s5, s6, s7, s8, s9, s10⟩ := cells11 kX'
     obtain ⟨x0, x1, x2, x3, x4, x5, x6, x7, x8, x9, x10⟩ := cells11 kB'
     obtain ⟨⟨v0, v1, v2, v3⟩, -⟩ := cells4 kF'
     go_wp2_with fail
     refine (implLookUp_all fa6 fn6 fc6 FL id fs _ (HGX.out.below dd) hfn6).mono ?_
     rintro e w15 ⟨rfl, hb15⟩
     have kB' := kept_block kB' hb15
     have HB := hide (gr_trans u7 (gr_trans dd hb15))
     clear s0 s1 s2 s3 s4 s5 s6 s7 s8 s9 s10 x0 x1 x2 x3 x4 x5 x6 x7 x8 x9 x10 v0 v1 v2 v3
     obtain ⟨x0, x1, x2, x3, x4, x5, x6, x7, x8, x9, x10⟩ := cells11 kB'
     have hth := HTH.out
     generalize lookUp FL id fs = l2 at *
     by_cases h2 : 0 ≤ l2
     ·go_wp2
      go_ret
      exact ⟨rfl, HB.out⟩
     ·have h12 : fn = 12 := by rcases hth with h | h <;> omega
      subst h12
      go_wp2
      go_ret
      exact ⟨rfl, HB.out⟩

theorem fnSent_own : ownKnob Tryz.prog.godebug = none := by kernel_rfl
theorem fnSent_laid : laidOutB Tryz.prog = true := by kernel_rfl

open Go.ChangeShapes Go.WideShapes Go.ChangeAt in
open Go.ChangeMaps (open_string shut_string) in
set_option maxRecDepth 100000 in
theorem fnSent_lifted (os : Os) (started : os.Started) (H : Type) (enc : TypeId × Value → H) :
  ReturnsInHanded {} Tryz.checked os 3 .any (Rows.fnSentSpec.pre6 enc Tryz.prog Tryz.f3 Rows.fnSentRow.domain false) (Rows.fnSentSpec.post enc Tryz.prog Tryz.f3 false true false false) := by
 refine returnsInHanded_of_change (C := Tryz.checked) fnSent_own started (by kernel_rfl) Tryz.func3
  (ChangeSpec.witness6 (enc := enc) (C := Tryz.checked) false ⟨#[], #[.slice none 0 0], []⟩ 8 (by kernel_rfl) (by kernel_rfl) (by kernel_rfl) (by kernel_rfl)) ?_
 intro W base args ds gs before hval0 hW hcnd _
 have hval : ∀ (j : Nat) t v, Tryz.f3.params[j]? = some t → args[j]? = some v → Value.okWide Tryz.prog W .any base t v := hval0
 have hW' := hW
 obtain ⟨p, q, hA0, hV, rfl, hfz, hnd⟩ := hW
 have hA : DataW.TrodAll enc Tryz.prog W 0 (fun _ => true) true Tryz.f3.params.toList args.toList ds p := hA0
 rw [Tryz.params3] at hA hval
 obtain ⟨v0, vs0, d0, ds0, p0, q0, hargs, rfl, rfl, h0, r0⟩ := trodAll_cons hA
 obtain ⟨rfl, rfl, rfl⟩ := trodAll_nil r0
 obtain rfl : args = #[v0] := by cases args; simp_all
 obtain ⟨rfl, rfl⟩ := trodVars_none hV
 obtain ⟨a0, len0, cap0, rfl⟩ := okWide_slice Tryz.underlying22 (hval 0 22 v0 rfl rfl)
 have k0 := h0
 have lt0 : ∀ x ∈ p0, x.block < W.heap.size := by obtain ⟨m, hm⟩ := k0; exact DataW.trod_lt m _ _ _ hm
 obtain ⟨z0, w0⟩ : ∃ zs, Row W a0 len0 cap0 zs := by
  obtain ⟨fuel, hf⟩ := h0
  rcases open_ints Tryz.underlying22 Tryz.underlying5 (by kernel_rfl) hf with ⟨hcs, _⟩ | ⟨x, l, c, zs, hcs, _, hl, hm, hz, _, hcell, hwz⟩
  ·simp [Value.cells] at hcs
   obtain ⟨rfl, rfl, rfl⟩ := hcs
   exact ⟨[], row_nil W⟩
  ·simp [Value.cells] at hcs
   obtain ⟨rfl, rfl, rfl⟩ := hcs
   exact ⟨zs.take len0, row_open hl hm (by simpa using hz) hcell hwz⟩
 clear hA0 hval0
 refine (sent_walk a0 len0 cap0 z0 W w0).mono fun e W' ⟨he, bel⟩ => ?_
 subst he
 exact ⟨_, rfl, _, _, _, [], _, [], hW', trodAll_mk1 (shut_bool Tryz.underlying4 _), (trodAll_cons_mk (Below.trod fnSent_laid (by kernel_rfl) (of_decide_eq_true (by kernel_rfl)) k0 bel lt0) trodAll_mk0), rfl, bel.frame _, fun h => by cases h⟩

theorem fnSent_holds : Rows.FnSentSaid :=
 OpenClaim.holds_of_wide 3 Tryz.f3 rfl rfl rfl rfl rfl rfl rfl ⟨rfl, rfl, rfl, rfl, rfl⟩ rfl rfl rfl rfl rfl (by kernel_rfl) Tryz.func3 (by kernel_rfl)
  (of_decide_eq_true (by kernel_rfl)) (by unfold Func.isWrapper; first | (rw [if_pos (by decide +kernel)]; kernel_rfl) | (rw [if_neg (by decide +kernel)]; exact ⟨rfl, rfl⟩))
  (fun os started H enc _ => fnSent_lifted os started H enc)

#print axioms fnSent_holds

end Go.Proofs.YtddalpglihhipaaGreat
