/-
  FnAnswered answers true at all codes.
-/
import Derived.Test.YtddalpglihhipaaGreatPSBrSameI
import Derived.Test.YtddalpglihhipaaGreatPSFwdPorts
import Derived.Test.YtddalpglihhipaaGreatPSK01
import Derived.Test.YtddalpglihhipaaGreatPSK07
import Derived.Test.YtddalpglihhipaaGreatPSK12
import Derived.Test.YtddalpglihhipaaGreatPSK19
import Derived.Test.YtddalpglihhipaaGreatPSK30
import Derived.Test.YtddalpglihhipaaGreatPSK31
import Derived.Deep.CutRange
import Derived.WalkKit
import Derived.ProofKit
import Derived.OpenShut
import Derived.ShutString
import Derived.ChangeOld
import Derived.Below
namespace Go.Proofs.YtddalpglihhipaaGreat
open Go.RowKit

set_option maxRecDepth 100000 in
set_option maxHeartbeats 32000000 in
theorem answered_walk (a0 : Option Addr) (l0 c0 : Nat) (z0 : List Int) (w : World) (h0 : Row w a0 l0 c0 z0) :
  Calls Tryz.prog 4 #[.slice a0 l0 c0] w fun e w' => e = .returned (.bool true) ∧ Below w.heap.size w w' := by
 by_cases hbig : 1048576 < l0
 ·have hi : (1048576 : Int) < (l0 : Int) := by omega
  have hb1 : Calls Tryz.prog 6 #[.slice a0 l0 c0] w fun e w' => e = .returned (.bool true) ∧ w' = w := by
   go_enter Tryz.func6, Tryz.ntmps6
   go_wp2
   go_ret
   exact ⟨rfl, rfl⟩
  go_enter Tryz.func4, Tryz.ntmps4
  go_wp2_with fail
  refine hb1.mono ?_
  rintro e w1 ⟨rfl, e1⟩
  obtain rfl := e1.symm
  go_wp2
  go_ret
  exact ⟨rfl, Below.refl _ _⟩
 have hs : l0 ≤ 1048576 := by omega
 go_enter Tryz.func4, Tryz.ntmps4
 go_wp2_with fail
 refine (big_no a0 l0 c0 _ hbig).mono ?_
 rintro e w1 ⟨rfl, e1⟩
 obtain rfl := e1.symm
 go_wp2_with fail
 refine (drawSent_any a0 l0 c0 z0 _ h0 hs).mono ?_
 rintro e w2 ⟨m, a, c, fa, fn, fc, ra, rn, rc, oa, on, oc, B, port, fd, fs, ft, ao, nf, cf, zs, rfl, oB, din, ⟨h1, h4⟩, ⟨hp0, hp1⟩, ⟨hfd, hfs, hft, hnf, hzl⟩, oFr, hby, hb2⟩
 obtain ⟨k, rfl⟩ : ∃ k : Nat, port = (k : Int) := ⟨port.toNat, by omega⟩
 have hk : k < m := by omega
 clear hp0 hp1
 generalize hw3 : (w2.alloc (Obj.cells #[.int .i64 B.id, .string B.name, .slice a m c, .slice fa fn fc, .slice ra rn rc, .slice oa on oc, .int .i64 B.ticks, .int .i64 B.parse, .int .i64 B.word, .int .i64 B.drops, .int .i64 B.vers] 31)).alloc (Obj.cells #[.int .i64 fd, .int .i64 fs, .int .i64 ft, .slice ao nf cf] 33) = w3
 have b23 : Below w2.heap.size w2 w3 := by rw [← hw3]; exact gr_trans (below_one _ _) (below_one _ _)
 have kB : w3.heap[w2.heap.size]? = some (.cells #[.int .i64 B.id, .string B.name, .slice a m c, .slice fa fn fc, .slice ra rn rc, .slice oa on oc, .int .i64 B.ticks, .int .i64 B.parse, .int .i64 B.word, .int .i64 B.drops, .int .i64 B.vers] 31) := by rw [← hw3]; exact kept_block (block_last _ _) (below_one _ _)
 have kF : w3.heap[w2.heap.size + 1]? = some (.cells #[.int .i64 fd, .int .i64 fs, .int .i64 ft, .slice ao nf cf] 33) := by
  rw [← hw3]
  have := block_last (w2.alloc (Obj.cells #[.int .i64 B.id, .string B.name, .slice a m c, .slice fa fn fc, .slice ra rn rc, .slice oa on oc, .int .i64 B.ticks, .int .i64 B.parse, .int .i64 B.word, .int .i64 B.drops, .int .i64 B.vers] 31)) (Obj.cells #[.int .i64 fd, .int .i64 fs, .int .i64 ft, .slice ao nf cf] 33)
  simpa using this
 have oB := oB.below b23
 have oFr := own5_below oFr b23
 have u3 := gr_trans hb2 b23
 go_upto_region 4 with fail
 try rw [hw3]
 generalize hVf : w2.heap.size + 1 = Vf at *
 generalize hBb : w2.heap.size = Bb at *
 clear hw3 hb2 b23 hVf hBb
 obtain ⟨hn1, hn2, hn3, hn4⟩ := din_sizes din h4 oB.row
 have hRf := ok_rng din.f
 have hRv : ∀ r ∈ B.v.rows, r.Rng := fun r hr => (din.v.rows r hr).1
 have hBok := din_ok din h1 h4
 have hFk : okF fd fs ft nf = true := by unfold okF; simp; omega
 have hTh : thereB B (k : Int) = true := by unfold thereB; rw [hBok, din.len]; simp; omega
 have hVok := fwdB_ok hBok (k : Int) fd fs ft nf
 have hVl := fwdB_len B (k : Int) fd fs ft nf
 have rFr := row_own oFr hby
 have hon8 : on ≤ 8 := by have h5 := vtab_own6 (bridgeOk_parts hBok).2.2.2.2.2.1; have h6 := oB.row.v.own.size; have := din.len; omega
 have hRb : ∀ r ∈ B.v.rows, r.Rng ∧ 0 ≤ r.b ∧ r.b ≤ 63 := fun r hr => ⟨hRv r hr, vrows_small (bridgeOk_parts hBok).2.2.2.2.2.1 r hr⟩
 have hI64 : ∀ id, I64 (egressOf B.v id) := fun id => egress_rng hRv id
 have HDR := hide din.z.2.2
 have hVd := fwd_drop hTh hFk (z := zs)
 have hVr := fwd_let hTh hFk (z := zs)
 rw [din.len] at hVr
 have HDIN := hide din
 have HZL := hide hzl
 clear hzl
 generalize hV : fwdB B (k : Int) fd fs ft nf = V at *
 generalize hOV : fwdO B (k : Int) fd fs ft nf zs = OV at *
 have HV := hide hV
 have HOV := hide hOV
 have HVOK := hide hVok
 have HVL := hide hVl
 have HVD := hide hVd
 have HVR := hide hVr
 have HBOK := hide hBok
 clear hV hOV hVok hVl hVd hVr hBok hFk hTh din
 obtain ⟨x0, x1, x2, x3, x4, x5, x6, x7, x8, x9, x10⟩ := cells11 kB
 obtain ⟨⟨v0, v1, v2, v3⟩, -⟩ := cells4 kF
 go_wp2_with fail
 refine (implForward_made a m c fa fn fc ra rn rc oa on oc B (k : Int) fd fs ft ao nf cf zs _ oB.row rFr hn1 hn2 hn3 hn4 (by omega) hRf hRv).mono ?_
 rw [HV.out, HOV.out]
 rintro e w4 ⟨a6, n6, c6, fa6, fn6, fc6, ra6, rn6, rc6, oa6, on6, oc6, aoX, cpX, LX, rfl, tX, oX, hMX, hb6⟩
 generalize hw5 : w4.alloc (Obj.cells #[.int .i64 V.id, .string V.name, .slice a6 n6 c6, .slice fa6 fn6 fc6, .slice ra6 rn6 rc6, .slice oa6 on6 oc6, .int .i64 V.ticks, .int .i64 V.parse, .int .i64 V.word, .int .i64 V.drops, .int .i64 V.vers] 31) = w5
 have b45 : Below w4.heap.size w4 w5 := by rw [← hw5]; exact below_one _ _
 have kX : w5.heap[w4.heap.size]? = some (.cells #[.int .i64 V.id, .string V.name, .slice a6 n6 c6, .slice fa6 fn6 fc6, .slice ra6 rn6 rc6, .slice oa6 on6 oc6, .int .i64 V.ticks, .int .i64 V.parse, .int .i64 V.word, .int .i64 V.drops, .int .i64 V.vers] 31) := by rw [← hw5]; exact block_last _ _
 have d := gr_trans hb6 b45
 have tX := tX.below b45
 have oX := oX.below b45
 have oB := oB.below d
 have kB := kept_block kB d
 have kF := kept_block kF d
 have rFr := rFr.below d
 have u5 := gr_trans u3 d
 go_upto_region 5 with fail
 try rw [hw5]
 clear hw5 b45 hb6 d u3 x0 x1 x2 x3 x4 x5 x6 x7 x8 x9 x10 v0 v1 v2 v3 oFr
 generalize hXb : w4.heap.size = Xb at *
 clear hXb
 obtain ⟨x0, x1, x2, x3, x4, x5, x6, x7, x8, x9, x10⟩ := cells11 kB
 obtain ⟨⟨v0, v1, v2, v3⟩, -⟩ := cells4 kF
 go_wp2_with fail
 refine (specForward_made a m c fa fn fc ra rn rc oa on oc B (k : Int) fd fs ft ao nf cf zs _ oB.row rFr hn1 hn2 hn3 hn4 (by omega)).mono ?_
 rw [HV.out, HOV.out]
 rintro e w6 ⟨a9, n9, c9, fa9, fn9, fc9, ra9, rn9, rc9, oa9, on9, oc9, aoY, cpY, LY, rfl, tY, oY, hMY, hb8⟩
 generalize hw7 : w6.alloc (Obj.cells #[.int .i64 V.id, .string V.name, .slice a9 n9 c9, .slice fa9 fn9 fc9, .slice ra9 rn9 rc9, .slice oa9 on9 oc9, .int .i64 V.ticks, .int .i64 V.parse, .int .i64 V.word, .int .i64 V.drops, .int .i64 V.vers] 31) = w7
 have b67 : Below w6.heap.size w6 w7 := by rw [← hw7]; exact below_one _ _
 have d := gr_trans hb8 b67
 have tX := tX.below d
 have oX := oX.below d
 have kX := kept_block kX d
 have oB := oB.below d
 have kB := kept_block kB d
 have kF := kept_block kF d
 have rFr := rFr.below d
 have u7 := gr_trans u5 d
 go_upto_region 6 with fail
 try rw [hw7]
 have hlen : LX.length = LY.length := by have h7 := congrArg List.length (hMX.trans hMY.symm); simpa using h7
 rw [← hlen]
 clear hw7 b67 hb8 d u5 x0 x1 x2 x3 x4 x5 x6 x7 x8 x9 x10 v0 v1 v2 v3 tY oY hMY hlen
 generalize hYb : w6.heap.size = Yb at *
 clear hYb
 cases hlet : letB B (k : Int) ft
 ·obtain ⟨hV0, hOV0⟩ := HVD.out hlet
  have hq0 : LX.length = 0 := by have h7 := congrArg List.length hMX; rw [hOV0] at h7; simpa using h7
  have hVdr : V.drops = 1 := by rw [hV0]; show oneMore B.drops = 1; rw [HDR.out]; rfl
  have hVvs : V.vers = B.vers := by rw [hV0]
  have hLX : LX = [] := List.eq_nil_of_length_eq_zero hq0
  have HPJ : Hid (∀ (i : Nat) (x : OI), LX[i]? = some x → ∃ j : Nat, j ≤ 7 ∧ x.p = (j : Int)) := hide (by rw [hLX]; intro i x hx; simp at hx)
  have hvn := HDIN.out.n
  clear hV0 hOV0 hlet hLX
  obtain ⟨s0, s1, s2, s3, s4, s5, s6, s7, s8, s9, s10⟩ := cells11 kX
  obtain ⟨x0, x1, x2, x3, x4, x5, x6, x7, x8, x9, x10⟩ := cells11 kB
  rw [hVdr] at s9
  rw [hVvs] at s10
  rw [HDR.out] at x9
  rw [hq0]
  have HQ0 := hide hq0
  rw [hq0] at oX
  clear hq0 hVdr hVvs
  have hwa : IntKind.i64.wrap (B.vers + 1) = B.vers + 1 := by rw [IntKind.wrap_i64]; omega
  have hna : (B.vers + 1 == B.vers) = false := by rw [beq_eq_false_iff_ne]; omega
  have hna2 : ¬ B.vers + 1 = B.vers := by omega
  go_upto_region 8 with fail
  clear s0 s1 s2 s3 s4 s5 s6 s7 s8 s9 s10 x0 x1 x2 x3 x4 x5 x6 x7 x8 x9 x10
  have dd : Below w7.heap.size w7 w7 := Below.refl _ _
  go_upto_region 9 with fail
  go_wp2_with fail
  refine (implPorts_any _ _ _ LX _ (oX.grow.below dd) HPJ.out (by omega)).mono ?_
  rintro e wp1 ⟨rfl, hbp⟩
  have dd := gr_trans dd hbp
  clear hbp
  go_wp2_with fail
  refine (specPorts_any _ _ _ LX _ (oX.grow.below dd) HPJ.out (by omega)).mono ?_
  rintro e wp2 ⟨rfl, hbp⟩
  have HB := hide (gr_trans u7 (gr_trans dd hbp))
  clear hbp dd
  generalize portsTo LX 0 = PP
  go_wp2
  go_ret
  exact ⟨ret_bool (by simp), HB.out⟩
 ·obtain ⟨hVV, hOO⟩ := HVR.out hlet
  have hcl := (Bool.and_eq_true_iff.1 hlet).2
  have hks := (Bool.and_eq_true_iff.1 hlet).1
  obtain ⟨hid1, hid2, hke⟩ := class_in HBOK.out hcl
  have hFok : fdbOk (learnF B.f (classOf B.v (k : Int) ft).1 fs (k : Int)) = true := learn_ok (bridgeOk_parts HBOK.out).2.2.2.2.1 _ _ _
  have hVdr : V.drops = 0 := by rw [hVV]; exact HDR.out
  have hVvs : V.vers = oneMore B.vers := by rw [hVV]
  have hVf : V.f = learnF B.f (classOf B.v (k : Int) ft).1 fs (k : Int) := by rw [hVV]
  have hvn := HDIN.out.n
  have hov1 : in1m (oneMore B.vers) = true := oneMore_in ((in1m_iff _).2 hvn)
  have hsays := learn_says (bridgeOk_parts HBOK.out).2.2.2.2.1 (t := (classOf B.v (k : Int) ft).1) (m := fs) (p := (k : Int)) ((entOk_iff _).2 ⟨⟨hid1, hid2⟩, ⟨by show 1 ≤ fs; omega, by show fs ≤ 9999; omega⟩, ⟨by show (0 : Int) ≤ (k : Int); omega, by show (k : Int) ≤ 7; omega⟩, ⟨by simp, by simp⟩, by simp⟩)
  have HST : Hid (staticF B.f (classOf B.v (k : Int) ft).1 fs = true → 0 ≤ lookUp B.f (classOf B.v (k : Int) ft).1 fs) := hide (fun h => static_there (bridgeOk_parts HBOK.out).2.2.2.2.1 h)
  have HBK := hide (fun (j : Nat) (h1 : j < B.ports.length) h2 h3 h4 h5 => back_out (j := j) (s := fs) HBOK.out hlet (by rw [HDIN.out.len]; exact hk) h1 (by omega) h2 h3 h4 (hI64 _) (by omega) (oneMore B.vers) hov1 h5)
  rw [hOO] at hMX
  have hjs : ∀ (i : Nat) (x : OI), LX[i]? = some x → ∃ j : Nat, j < m ∧ x.p = (j : Int) ∧ ¬ (j : Int) = (k : Int) ∧ bitOf (sendsOf B.id B.ports) (j : Int) = true ∧ bitOf (egressOf B.v (classOf B.v (k : Int) ft).1) (j : Int) = true := by
   intro i x hx
   obtain ⟨j, hj, hb, e1, -⟩ := outs_get hMX hx
   rw [ways_bit B k _ fd _ hFok j (by omega), may_bit B k _ j (by omega) (by omega) (hI64 _)] at hb
   simp only [Bool.and_eq_true, Bool.not_eq_true', decide_eq_false_iff_not] at hb
   exact ⟨j, by omega, e1, by omega, hb.1.1.1, hb.1.1.2⟩
  have HJS := hide hjs
  have HPJ : Hid (∀ (i : Nat) (x : OI), LX[i]? = some x → ∃ j : Nat, j ≤ 7 ∧ x.p = (j : Int)) := hide (fun i x hx => by obtain ⟨j, h1, h2, -⟩ := hjs i x hx; exact ⟨j, by omega, h2⟩)
  have hq6 : LX.length ≤ 6 := by have h7 := outTo_len B.v (classOf B.v (k : Int) ft).1 (waysB B k (classOf B.v (k : Int) ft).1 fd (learnF B.f (classOf B.v (k : Int) ft).1 fs (k : Int))) fd fs zs m; rw [← hMX, List.length_map] at h7; omega
  have HVV := hide hVV
  clear hOO hcl hks hlet hMX hjs hke hov1
  generalize hci : (classOf B.v (k : Int) ft).1 = id at *
  have HCI := hide hci
  clear hci
  generalize hFL : learnF B.f id fs (k : Int) = FL at *
  have gX : GRow fentF w7 fa6 fn6 fc6 FL := by rw [← hVf]; exact tX.row.f
  have hfn6 : fn6 ≤ 1048576 := by have e2 := gX.size; have e3 := ok_len hFok; omega
  have hbf := hide oB.row.f.size
  have HGX := hide gX
  have HSY := hide hsays
  clear hFL hVf gX hsays hVV
  generalize hqq : LX.length = q at *
  have HQQ := hide hqq
  clear hqq
  obtain ⟨s0, s1, s2, s3, s4, s5, s6, s7, s8, s9, s10⟩ := cells11 kX
  obtain ⟨x0, x1, x2, x3, x4, x5, x6, x7, x8, x9, x10⟩ := cells11 kB
  rw [hVdr] at s9
  rw [hVvs] at s10
  rw [HDR.out] at x9
  clear hVdr hVvs
  have dd : Below w7.heap.size w7 w7 := Below.refl _ _
  have HO : Hid (∀ (P : Prop), (oneMore B.vers = B.vers → ¬ B.vers < 1000000 → P) → (¬ oneMore B.vers = B.vers → P) → P) := hide (fun P h1 h2 => by
   by_cases h : B.vers ≥ 1000000
   ·exact h1 (by unfold oneMore; rw [if_pos h]) (by omega)
   ·exact h2 (by unfold oneMore; rw [if_neg h]; omega))
  have hov2 : 0 ≤ oneMore B.vers ∧ oneMore B.vers ≤ 1000000 := (in1m_iff _).1 (oneMore_in ((in1m_iff _).2 hvn))
  generalize hOM : oneMore B.vers = OM at *
  have HOM := hide hOM
  clear hOM
  have hwa : IntKind.i64.wrap (OM + 0) = OM := by rw [IntKind.wrap_i64]; omega
  have hwb : IntKind.i64.wrap (B.vers + 0) = B.vers := by rw [IntKind.wrap_i64]; omega
  go_cut [59] from 37 to 59 (fun s wx => s = .bool false ∧ wx = w7)
  case first =>
   refine HO.out _ (fun ho1 ho2 => ?_) (fun ho1 => ?_)
   ·have ho3 : (OM == B.vers) = true := by simp [ho1]
    have ho4 : (decide (B.vers < 1000000)) = false := by simp; omega
    go_wp2
    go_meet
    exact ⟨rfl, rfl⟩
   ·have ho3 : (OM == B.vers) = false := by simp [ho1]
    go_wp2
    go_meet
    exact ⟨rfl, rfl⟩
  case rest =>
   obtain ⟨rfl, e7⟩ := hcut
   obtain rfl := e7.symm
   clear s0 s1 s2 s3 s4 s5 s6 s7 s8 s9 s10 x0 x1 x2 x3 x4 x5 x6 x7 x8 x9 x10
   obtain ⟨⟨v0, v1, v2, v3⟩, -⟩ := cells4 kF
   by_cases hq : q = 0
   ·subst hq
    go_upto_region 9 with fail
    clear v0 v1 v2 v3
    go_wp2_with fail
    refine (implPorts_any _ _ _ LX _ (oX.grow.below dd) HPJ.out (by omega)).mono ?_
    rintro e wp1 ⟨rfl, hbp⟩
    have dd := gr_trans dd hbp
    clear hbp
    go_wp2_with fail
    refine (specPorts_any _ _ _ LX _ (oX.grow.below dd) HPJ.out (by omega)).mono ?_
    rintro e wp2 ⟨rfl, hbp⟩
    have HB := hide (gr_trans u7 (gr_trans dd hbp))
    clear hbp dd
    generalize portsTo LX 0 = PP
    go_wp2
    go_ret
    exact ⟨ret_bool (by simp), HB.out⟩
   by_cases hds : fd = fs
   ·have hq2 : ¬ (q : Int) = 0 := by omega
    subst hds
    go_upto_region 9 with fail
    clear v0 v1 v2 v3
    go_wp2_with fail
    refine (implPorts_any _ _ _ LX _ (oX.grow.below dd) HPJ.out (by omega)).mono ?_
    rintro e wp1 ⟨rfl, hbp⟩
    have dd := gr_trans dd hbp
    clear hbp
    go_wp2_with fail
    refine (specPorts_any _ _ _ LX _ (oX.grow.below dd) HPJ.out (by omega)).mono ?_
    rintro e wp2 ⟨rfl, hbp⟩
    have HB := hide (gr_trans u7 (gr_trans dd hbp))
    clear hbp dd
    generalize portsTo LX q = PP
    go_wp2
    go_ret
    exact ⟨ret_bool (by simp), HB.out⟩
   have hq2 : ¬ (q : Int) = 0 := by omega
   have hq2b : ((q : Int) == 0) = false := by simp; omega
   have hds2 : (fd == fs) = false := by simp [hds]
   go_upto_region 10 with fail
   clear v0 v1 v2 v3 hds hds2 hq2b
   obtain ⟨x0, x1, x2, x3, x4, x5, x6, x7, x8, x9, x10⟩ := cells11 kB
   obtain ⟨⟨v0, v1, v2, v3⟩, -⟩ := cells4 kF
   go_wp2_with fail
   refine (implClassOf_any ra rn rc oa on oc B.v (k : Int) ft _ oB.row.v hRv hon8).mono ?_
   rintro e w8 ⟨rfl, hb8⟩
   rw [HCI.out]
   have dd := gr_trans dd hb8
   have kX := kept_block kX hb8
   have kB := kept_block kB hb8
   have kF := kept_block kF hb8
   clear hb8 x0 x1 x2 x3 x4 x5 x6 x7 x8 x9 x10 v0 v1 v2 v3
   obtain ⟨s0, s1, s2, s3, s4, s5, s6, s7, s8, s9, s10⟩ := cells11 kX
   obtain ⟨⟨v0, v1, v2, v3⟩, -⟩ := cells4 kF
   go_wp2_with fail
   refine (implLookUp_all fa6 fn6 fc6 FL id fs _ (HGX.out.below dd) (by omega)).mono ?_
   rintro e w9 ⟨rfl, hb8⟩
   have dd := gr_trans dd hb8
   have kX := kept_block kX hb8
   have kB := kept_block kB hb8
   have kF := kept_block kF hb8
   clear hb8 s0 s1 s2 s3 s4 s5 s6 s7 s8 s9 s10 v0 v1 v2 v3
   have hsy := HSY.out
   generalize hlk : lookUp FL id fs = lk at *
   have HLK := hide hlk
   clear hlk
   by_cases hlkk : ¬ lk = (k : Int)
   ·have hfull : 0 ≤ lookUp B.f id fs ∨ fn = 12 := by
     rcases hsy with h | ⟨h, -⟩ | ⟨-, h⟩
     ·exact absurd h hlkk
     ·exact .inl (HST.out h)
     ·exact .inr (by have := hbf.out; omega)
    have HFU := hide hfull
    clear hsy hfull
    obtain ⟨x0, x1, x2, x3, x4, x5, x6, x7, x8, x9, x10⟩ := cells11 kB
    obtain ⟨⟨v0, v1, v2, v3⟩, -⟩ := cells4 kF
    go_wp2_with fail
    refine (implLookUp_all fa fn fc B.f id fs _ (oB.row.f.below dd) (by omega)).mono ?_
    rintro e w10 ⟨rfl, hb8⟩
    have kB := kept_block kB hb8
    have HB := hide (gr_trans u7 (gr_trans dd hb8))
    clear hb8 x0 x1 x2 x3 x4 x5 x6 x7 x8 x9 x10 v0 v1 v2 v3
    obtain ⟨x0, x1, x2, x3, x4, x5, x6, x7, x8, x9, x10⟩ := cells11 kB
    have hfu := HFU.out
    generalize lookUp B.f id fs = l2 at *
    by_cases h2 : 0 ≤ l2
    ·go_wp2
     go_ret
     exact ⟨rfl, HB.out⟩
    ·have h12 : fn = 12 := by rcases hfu with h | h <;> omega
     subst h12
     go_wp2
     go_ret
     exact ⟨rfl, HB.out⟩
   ·have hlkk : lk = (k : Int) := by omega
    obtain ⟨x, xb, xo, hx, hxa, c0, -⟩ := out_at (oX.grow.below dd) 0 (by omega)
    subst hxa
    rw [Nat.zero_mul, Nat.add_zero] at c0
    obtain ⟨j, hjm, e1, hjk, hjs, hje⟩ := HJS.out 0 x hx
    rw [e1] at c0
    have hbk := HBK.out j (by rw [HDIN.out.len]; exact hjm) hjs hje hjk hlkk
    rw [← HVV.out] at hbk
    obtain ⟨g, hbk⟩ := hbk
    have HBKO := hide hbk
    clear hbk hsy e1 hx hjs hje
    subst hlkk
    have hq3 : (0 : Int) < (q : Int) := by omega
    obtain ⟨s0, s1, s2, s3, s4, s5, s6, s7, s8, s9, s10⟩ := cells11 kX
    obtain ⟨⟨v0, v1, v2, v3⟩, -⟩ := cells4 kF
    go_wp2_with fail
    refine (implForward_made a6 n6 c6 fa6 fn6 fc6 ra6 rn6 rc6 oa6 on6 oc6 V (j : Int) fs 77 id none 0 0 [] _ (tX.row.below dd) (row_nil _) (by have e1 := tX.row.ports.size; rw [HVL.out.1, HDIN.out.len] at e1; omega) (by omega) (by have e3 := tX.row.v.rows.size; rw [HVL.out.2.1, oB.row.v.rows.size] at e3; omega) (by have e4 := tX.row.v.own.size; rw [HVL.out.2.1, oB.row.v.own.size] at e4; omega) (by omega) (ok_rng (bridgeOk_parts HVOK.out).2.2.2.2.1) (by rw [HVL.out.2.1]; exact hRv)).mono ?_
    rw [HBKO.out]
    generalize fwdB V (j : Int) fs 77 id 0 = V2
    rintro e w10 ⟨a8, n8, c8, fa8, fn8, fc8, ra8, rn8, rc8, oa8, on8, oc8, aoZ, cpZ, LZ, rfl, -, oZ, hMZ, hb8⟩
    have hz1 : LZ.length = 1 := by have h7 := congrArg List.length hMZ; simpa using h7
    generalize hw11 : w10.alloc (Obj.cells #[.int .i64 V2.id, .string V2.name, .slice a8 n8 c8, .slice fa8 fn8 fc8, .slice ra8 rn8 rc8, .slice oa8 on8 oc8, .int .i64 V2.ticks, .int .i64 V2.parse, .int .i64 V2.word, .int .i64 V2.drops, .int .i64 V2.vers] 31) = w11
    have b11 : Below w10.heap.size w10 w11 := by rw [← hw11]; exact below_one _ _
    have oZ := oZ.below b11
    have dd := gr_trans dd (gr_trans hb8 b11)
    rw [hz1] at oZ
    obtain ⟨y, yb, yo, hy, hya, z0', -⟩ := out_at oZ.grow 0 (by omega)
    subst hya
    have hyp : y.p = (k : Int) := by
     have h7 : (LZ.map OI.v)[0]? = some y.v := by rw [List.getElem?_map, hy]; rfl
     rw [hMZ] at h7
     have h8 := Option.some.inj h7
     exact ((OD.mk.inj h8).1).symm
    rw [hyp, Nat.zero_mul, Nat.add_zero] at z0'
    clear hyp hy hMZ oZ hb8 b11
    have HZ1 := hide hz1
    go_upto_region 15 with fail
    try rw [hw11]
    try rw [HZ1.out]
    clear hw11 s0 s1 s2 s3 s4 s5 s6 s7 s8 s9 s10 v0 v1 v2 v3 c0 hz1
    go_wp2_with fail
    refine (implPorts_any _ _ _ LX _ (oX.grow.below dd) HPJ.out (by omega)).mono ?_
    rintro e wp1 ⟨rfl, hbp⟩
    have dd := gr_trans dd hbp
    clear hbp
    go_wp2_with fail
    refine (specPorts_any _ _ _ LX _ (oX.grow.below dd) HPJ.out (by omega)).mono ?_
    rintro e wp2 ⟨rfl, hbp⟩
    have HB := hide (gr_trans u7 (gr_trans dd hbp))
    clear hbp dd z0'
    generalize portsTo LX q = PP
    go_wp2
    go_ret
    exact ⟨ret_bool (by simp), HB.out⟩

theorem fnAnswered_own : ownKnob Tryz.prog.godebug = none := by kernel_rfl
theorem fnAnswered_laid : laidOutB Tryz.prog = true := by kernel_rfl

open Go.ChangeShapes Go.WideShapes Go.ChangeAt in
open Go.ChangeMaps (open_string shut_string) in
set_option maxRecDepth 100000 in
theorem fnAnswered_lifted (os : Os) (started : os.Started) (H : Type) (enc : TypeId × Value → H) :
  ReturnsInHanded {} Tryz.checked os 4 .any (Rows.fnAnsweredSpec.pre6 enc Tryz.prog Tryz.f4 Rows.fnAnsweredRow.domain false) (Rows.fnAnsweredSpec.post enc Tryz.prog Tryz.f4 false true false false) := by
 refine returnsInHanded_of_change (C := Tryz.checked) fnAnswered_own started (by kernel_rfl) Tryz.func4
  (ChangeSpec.witness6 (enc := enc) (C := Tryz.checked) false ⟨#[], #[.slice none 0 0], []⟩ 8 (by kernel_rfl) (by kernel_rfl) (by kernel_rfl) (by kernel_rfl)) ?_
 intro W base args ds gs before hval0 hW hcnd _
 have hval : ∀ (j : Nat) t v, Tryz.f4.params[j]? = some t → args[j]? = some v → Value.okWide Tryz.prog W .any base t v := hval0
 have hW' := hW
 obtain ⟨p, q, hA0, hV, rfl, hfz, hnd⟩ := hW
 have hA : DataW.TrodAll enc Tryz.prog W 0 (fun _ => true) true Tryz.f4.params.toList args.toList ds p := hA0
 rw [Tryz.params4] at hA hval
 obtain ⟨v0, vs0, d0, ds0, p0, q0, hargs, rfl, rfl, h0, r0⟩ := trodAll_cons hA
 obtain ⟨rfl, rfl, rfl⟩ := trodAll_nil r0
 obtain rfl : args = #[v0] := by cases args; simp_all
 obtain ⟨rfl, rfl⟩ := trodVars_none hV
 obtain ⟨a0, len0, cap0, rfl⟩ := okWide_slice Tryz.underlying22 (hval 0 22 v0 rfl rfl)
 have k0 := h0
 have lt0 : ∀ x ∈ p0, x.block < W.heap.size := by obtain ⟨m, hm⟩ := k0; exact DataW.trod_lt m _ _ _ hm
 obtain ⟨z0, w0⟩ : ∃ zs, Row W a0 len0 cap0 zs := by
  obtain ⟨fuel, hf⟩ := h0
  rcases open_ints Tryz.underlying22 Tryz.underlying5 (by kernel_rfl) hf with ⟨hcs, _⟩ | ⟨x, l, c, zs, hcs, _, hl, hm, hz, _, hcell, hwz⟩
  ·simp [Value.cells] at hcs
   obtain ⟨rfl, rfl, rfl⟩ := hcs
   exact ⟨[], row_nil W⟩
  ·simp [Value.cells] at hcs
   obtain ⟨rfl, rfl, rfl⟩ := hcs
   exact ⟨zs.take len0, row_open hl hm (by simpa using hz) hcell hwz⟩
 clear hA0 hval0
 refine (answered_walk a0 len0 cap0 z0 W w0).mono fun e W' ⟨he, bel⟩ => ?_
 subst he
 exact ⟨_, rfl, _, _, _, [], _, [], hW', trodAll_mk1 (shut_bool Tryz.underlying4 _), (trodAll_cons_mk (Below.trod fnAnswered_laid (by kernel_rfl) (of_decide_eq_true (by kernel_rfl)) k0 bel lt0) trodAll_mk0), rfl, bel.frame _, fun h => by cases h⟩

theorem fnAnswered_holds : Rows.FnAnsweredSaid :=
 OpenClaim.holds_of_wide 4 Tryz.f4 rfl rfl rfl rfl rfl rfl rfl ⟨rfl, rfl, rfl, rfl, rfl⟩ rfl rfl rfl rfl rfl (by kernel_rfl) Tryz.func4 (by kernel_rfl)
  (of_decide_eq_true (by kernel_rfl)) (by unfold Func.isWrapper; first | (rw [if_pos (by decide +kernel)]; kernel_rfl) | (rw [if_neg (by decide +kernel)]; exact ⟨rfl, rfl⟩))
  (fun os started H enc _ => fnAnswered_lifted os started H enc)

#print axioms fnAnswered_holds

end Go.Proofs.YtddalpglihhipaaGreat
