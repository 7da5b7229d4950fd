/-
  Packed: StepRoundI NetMarkM StepFit ToNetO StepRoundsS StepRoundsI.
-/
import Derived.Test.YtpgdahenmpkcnaaGreatPAK01
import Derived.Test.YtpgdahenmpkcnaaGreatPAK23
import Derived.Test.YtpgdahenmpkcnaaGreatPAK26
import Derived.Test.YtpgdahenmpkcnaaGreatPAK27
import Derived.Test.YtpgdahenmpkcnaaGreatPAK29
import Derived.Test.YtpgdahenmpkcnaaGreatPAK31
import Derived.Test.YtpgdahenmpkcnaaGreatPAK32
import Derived.Test.YtpgdahenmpkcnaaGreatPAStepCopy
namespace Go.Proofs.YtpgdahenmpkcnaaGreat
open Go.RowKit

theorem hear_rg (B : BR) (p : Int) (v : VD) (h : B.Rg) : (hearB B p v).Rg := by
 have hs : (hearB B p v).f.Sublist B.f := by
  unfold hearB
  split
  ·split
   ·split
    ·exact flushTo_sub _ _ _
    ·exact List.Sublist.refl _
   ·exact List.Sublist.refl _
  ·exact List.Sublist.refl _
 exact ⟨fun x hx => h.1 x (hs.subset hx), by rw [(hear_less B p v).2.2]; exact h.2⟩

theorem NV.rgs {N : NV} (h : ∀ B ∈ N.brs, B.Rg) : ∀ y ∈ N.bs, y.B.Rg := fun y hy => h y.B (by unfold NV.brs; exact List.mem_map_of_mem hy)

set_option maxRecDepth 100000 in
set_option maxHeartbeats 16000000 in
theorem implRound_made (N : NV) (w : World) (h : NetRow w N) (hn : N.bn ≤ 1048576) (hl : N.ln ≤ 1048576) (hs : N.sn ≤ 1048576) (hm : ∀ x ∈ N.bs, x.Small20) (hR : ∀ B ∈ N.brs, B.Rg) :
  Calls Tryz.prog 22 #[.agg #[.slice N.ba N.bn N.bc, .slice N.la N.ln N.lc, .slice N.sa N.sn N.sc]] w fun e w' => ∃ M : NV, e = .returned (.agg #[.slice M.ba M.bn M.bc, .slice M.la M.ln M.lc, .slice M.sa M.sn M.sc]) ∧ NOwn w' w.heap.size M ∧ RoundIs N M ∧ Below w.heap.size w w' := by
 have hll : N.ls.length = N.ln := h.l.size
 have hle := Nat.le_trans h.l.le h.l.top
 unfold maxLen at hle
 generalize hw1 : w.alloc (Obj.cells #[.slice N.ba N.bn N.bc, .slice N.la N.ln N.lc, .slice N.sa N.sn N.sc] 34) = w1
 generalize hw2 : w1.alloc (Obj.cells #[.slice none 0 0, .slice none 0 0, .slice none 0 0] 34) = w2
 have b01 : Below w.heap.size w w1 := by rw [← hw1]; exact below_one _ _
 have b12 : Below w1.heap.size w1 w2 := by rw [← hw2]; exact below_one _ _
 have b02 := gr_trans b01 b12
 have kP : w2.heap[w.heap.size]? = some (.cells #[.slice N.ba N.bn N.bc, .slice N.la N.ln N.lc, .slice N.sa N.sn N.sc] 34) := kept_block (by rw [← hw1]; exact block_last _ _) b12
 have kJ : w2.heap[w1.heap.size]? = some (.cells #[.slice none 0 0, .slice none 0 0, .slice none 0 0] 34) := by rw [← hw2]; exact block_last _ _
 have HZR : Hid (w1.heap.size = w.heap.size + 1) := hide (by rw [← hw1]; simp)
 have HZ : Hid (w2.heap.size = w.heap.size + 2) := hide (by rw [← hw2, ← hw1]; simp)
 obtain ⟨x0, x1, x2⟩ := cells3m kP
 go_enter Tryz.func22, Tryz.ntmps22
 go_wp2_with fail
 refine (netWithin_made N _ (h.below b02) (by omega) (by omega) (by omega) (small_big hm)).mono ?_
 rintro e w3 ⟨X, base, M, rfl, st, sM, hbs, hb3⟩
 have kP := kept_block kP hb3
 have kJ := kept_block kJ hb3
 have b03 := gr_trans b02 hb3
 have HBS : Hid (w.heap.size + 2 ≤ base) := hide (by have := HZ.out; omega)
 generalize hRR : w1.heap.size = R at *
 clear x0 x1 x2 hb3 b02 b12 b01 hbs
 obtain ⟨x0, x1, x2⟩ := cells3m kP
 go_wp2_with fail
 refine (implNetOk_any N _ (h.below b03) (fun x hx => by have := (hm x hx).2.1; omega) (fun x hx => (hR x.B (by unfold NV.brs; exact List.mem_map_of_mem hx)).2)).mono ?_
 rintro e w5 ⟨q, rfl, hq, hb5⟩
 have st := st.later hb5
 have kP := kept_block kP hb5
 have kJ := kept_block kJ hb5
 have b05 := gr_trans b03 hb5
 clear x0 x1 x2 b03 hb5 hw1 hw2
 have HSM := hide sM
 have HXL := hide st.le
 have HJB : Hid (w.heap.size < base ∧ R < base ∧ w.heap.size ≤ R) := hide (by have := HBS.out; have := HZR.out; omega)
 cases q
 ·have HNO : Hid (¬ NetOk N.brs N.ls N.ss) := hide (fun hc => by have := hq.2 hc; cases this)
  clear hq
  obtain ⟨x0, x1, x2⟩ := cells3m st.box
  obtain ⟨r0, r1, r2⟩ := cells3m kJ
  have f0 := frozen8 kJ 0
  have f1 := frozen8 kJ 1
  have f2 := frozen8 kJ 2
  have ne1 : ¬ R = X := by have := HXL.out; have := HJB.out; omega
  have ne2 : ¬ X = R := by have := HXL.out; have := HJB.out; omega
  have HO := hide ((st.own.out kJ).lt (base' := w.heap.size) (by have := HBS.out; omega))
  have HB := hide (below_out b05 (R := R) HJB.out.2.2 (.slice M.ba M.bn M.bc) (.slice M.la M.ln M.lc) (.slice M.sa M.sn M.sc))
  clear st kP kJ b05
  go_wp2
  exact bodyPost_ret (v := .agg #[.slice M.ba M.bn M.bc, .slice M.la M.ln M.lc, .slice M.sa M.sn M.sc]) (by simp [results, Tryz.results22, go_sem, *]) rfl ⟨M, rfl, HO.out, ⟨HSM.out.l, fun hc => absurd hc HNO.out, fun _ => ⟨HSM.out.b, HSM.out.s⟩⟩, HB.out⟩
 ·have hOK : NetOk N.brs N.ls N.ss := hq.1 rfl
  clear hq
  have HOK := hide hOK
  clear hOK
  have HSMB : Hid (∀ B ∈ N.brs, B.Sm ∧ B.Rg) := hide (fun B hB => ⟨rows_sm h hm B hB, hR B hB⟩)
  have HBL : Hid (w.heap.size ≤ base) := hide (by have := HBS.out; omega)
  have HHR : Hid (∀ (B : BR) (p : Int) (v : VD), B.Sm ∧ B.Rg → (hearB B p v).Sm ∧ (hearB B p v).Rg) := hide (fun B p v hB => ⟨less_sm (hear_less B p v) hB.1, hear_rg B p v hB.2⟩)
  obtain ⟨x0, x1, x2⟩ := cells3m kP
  go_wp2_with fail
  clear HZ HZR x0 x1 x2 hRR
  go_loopw [4, 17] (fun u i wr => ∃ (k : Nat) (M : NV), k ≤ N.ln ∧ i = .int .i64 k ∧ NiSt wr base X M ∧ wr.heap[w.heap.size]? = some (.cells #[.slice N.ba N.bn N.bc, .slice N.la N.ln N.lc, .slice N.sa N.sn N.sc] 34) ∧ wr.heap[R]? = some (.cells #[.slice none 0 0, .slice none 0 0, .slice none 0 0] 34) ∧ Below w.heap.size w wr ∧ (M.ls = N.ls ∧ M.brs = roundTo N.brs N.ls k)) (fun _ i _ => N.ln - (intOf i).toNat)
  case atStart => exact ⟨0, M, Nat.zero_le _, rfl, st, kP, kJ, b05, HSM.out.l, HSM.out.b⟩
  case round =>
   clear st kP kJ b05 sM HSM
   obtain ⟨k, M2, hk, rfl, st, kP, kJ, hB, hM⟩ := hrel
   have HM := hide hM
   clear hM
   obtain ⟨x0, x1, x2⟩ := cells3m kP
   by_cases hlt : k < N.ln
   ·obtain ⟨x, hx⟩ : ∃ x, N.ls[k]? = some x := ⟨_, List.getElem?_eq_getElem (by omega)⟩
    obtain ⟨hnab, u1, v1, hpa, hpb, -⟩ := (HOK.out.2.1.2 x (List.mem_of_getElem? hx)).1
    have hpa : portOf (N.bs.map BV.B) x.a x.p = some u1 := hpa
    have hpb : portOf (N.bs.map BV.B) x.b x.q = some v1 := hpb
    obtain ⟨i, y, hi, hy⟩ := end_there hpa
    obtain ⟨j, z, hj, hz⟩ := end_there hpb
    have hml : M2.bs.length = N.bs.length := by
     have e1 := congrArg List.length HM.out.2
     have e2 := ups_len (round_ups N.brs N.ls k)
     unfold NV.brs at e1 e2
     simp only [List.length_map] at e1 e2
     omega
    obtain ⟨y1, hy1⟩ := there_len hy hml
    have hall : ∀ B ∈ M2.brs, B.Sm ∧ B.Rg := by rw [HM.out.2]; exact round_all N.ls HSMB.out HHR.out k
    have HS1 := hide (sm_rows st.own.row (fun B hB => (hall B hB).1) y1 (List.mem_of_getElem? hy1))
    have HR1 := hide ((NV.rgs (fun B hB => (hall B hB).2)) y1 (List.mem_of_getElem? hy1))
    have HUP : Hid (linkUp M2.brs M2.ls (k : Int) = linkUp N.brs N.ls (k : Int)) := hide (by rw [HM.out.1]; exact linkUp_ups (by rw [HM.out.2]; exact round_ups _ _ _) _ _)
    have HX := hide hx
    have HY := hide hy
    have HZz := hide hz
    have HI := hide hi
    have HJ := hide hj
    have HY1 := hide hy1
    have HX2 : Hid (M2.ls[k]? = some x) := hide (by rw [HM.out.1]; exact hx)
    have HML := hide hml
    have HWB : Hid (Way x true (j : Int) x.q (i : Int) x.p) := hide ⟨fun _ => ⟨hj.symm, rfl, hi.symm, rfl⟩, (fun e => by cases e)⟩
    have HWF : Hid (Way x false (i : Int) x.p (j : Int) x.q) := hide ⟨(fun e => by cases e), fun _ => ⟨hi.symm, rfl, hj.symm, rfl⟩⟩
    have i0 : (k : Int) < (N.ln : Int) := by omega
    clear hx hy hz hi hj hy1 hml hpa hpb hnab hall
    go_wp2_with fail
    refine (sayOn_any N k j x z true x.q (i : Int) x.p _ (h.below hB) HX.out HZz.out HWB.out).mono ?_
    rintro e w9 ⟨rfl, b9⟩
    have st := st.later b9
    have hB := gr_trans hB b9
    have kP := kept_block kP b9
    have kJ := kept_block kJ b9
    clear x0 x1 x2 b9
    obtain ⟨x0, x1, x2⟩ := cells3m kP
    cases hU : linkUp N.brs N.ls (k : Int)
    ·have HS : Hid (M2.brs = roundTo N.brs N.ls (k + 1)) := hide (by rw [HM.out.2]; exact (round_down hU).symm)
     have HU := hide (HUP.out.trans hU)
     clear hU
     go_wp2_with fail
     refine (deliver_no M2 base X k true (sayV z.B.id z.B.ports x.q) _ st HU.out).mono ?_
     rintro e w10 ⟨rfl, st2, b10⟩
     have hB := hB.trans (b10.mono HBL.out)
     have kP := kept_under kP b10 HJB.out.1
     have kJ := kept_under kJ b10 HJB.out.2.1
     clear x0 x1 x2 b10 st
     obtain ⟨x0, x1, x2⟩ := cells3m kP
     go_wp2_with fail
     refine (sayOn_any N k i x y false x.p (j : Int) x.q _ (h.below hB) HX.out HY.out HWF.out).mono ?_
     rintro e w11 ⟨rfl, b11⟩
     have st2 := st2.later b11
     have hB := gr_trans hB b11
     have kP := kept_block kP b11
     have kJ := kept_block kJ b11
     clear x0 x1 x2 b11
     obtain ⟨x0, x1, x2⟩ := cells3m kP
     go_wp2_with fail
     refine (deliver_no M2 base X k false (sayV y.B.id y.B.ports x.p) _ st2 HU.out).mono ?_
     rintro e w12 ⟨rfl, st3, b12⟩
     have HKP := hide (kept_under kP b12 HJB.out.1)
     have HKJ := hide (kept_under kJ b12 HJB.out.2.1)
     have HBN := hide (hB.trans (b12.mono HBL.out))
     have HST := hide st3
     clear st2 st3 kP kJ hB x0 x1 x2 b12
     go_wp2
     go_roundw
     case rel => exact ⟨k + 1, M2, by omega, by go_num, HST.out, HKP.out, HKJ.out, HBN.out, HM.out.1, HS.out⟩
     case measure => simp [intOf]; omega
    ·have HU := hide hU
     have HU2 := hide (HUP.out.trans hU)
     clear hU
     go_wp2_with fail
     refine (deliver_yes M2 base X k i true (sayV z.B.id z.B.ports x.q) x y1 (j : Int) x.q x.p _ st HU2.out HX2.out HWB.out HY1.out HS1.out HR1.out).mono ?_
     rintro e w10 ⟨rfl, y2, hy2, st2, b10⟩
     have hB := hB.trans (b10.mono HBL.out)
     have kP := kept_under kP b10 HJB.out.1
     have kJ := kept_under kJ b10 HJB.out.2.1
     have HQ1 : Hid ((M2.bs.set i y2).map BV.B = atSet (roundTo N.brs N.ls k) x.a.toNat (fun B => hearB B x.p (sayAt N.brs x.b x.q))) := hide (by
      have e1 : sayAt N.brs x.b x.q = sayV z.B.id z.B.ports x.q := by rw [HJ.out]; exact say_there HZz.out x.q
      rw [e1, HI.out, ← HM.out.2]
      exact set_map (f := fun B => hearB B x.p (sayV z.B.id z.B.ports x.q)) HY1.out hy2)
     have HUQ : Hid (linkUp ((M2.bs.set i y2).map BV.B) M2.ls (k : Int) = true) := hide (by
      rw [← HU2.out]
      refine linkUp_ups ?_ _ _
      rw [HQ1.out, ← HM.out.2]
      exact atSet_map upsB (fun B => hear_ups B _ _))
     clear x0 x1 x2 b10 hy2 st
     obtain ⟨z1, hz1⟩ := there_len HZz.out (bs2 := M2.bs.set i y2) (by rw [List.length_set]; exact HML.out)
     have HZ1 := hide hz1
     have hall : ∀ B ∈ (M2.bs.set i y2).map BV.B, B.Sm ∧ B.Rg := by
      rw [HQ1.out]
      exact atSet_all (round_all N.ls HSMB.out HHR.out k) (fun B => HHR.out B _ _)
     have HS2 := hide (sm_rows st2.own.row (fun B hB => (hall B hB).1) z1 (List.mem_of_getElem? hz1))
     have HR2 := hide ((hall z1.B (List.mem_map_of_mem (List.mem_of_getElem? hz1))).2)
     clear hz1 hall
     obtain ⟨x0, x1, x2⟩ := cells3m kP
     go_wp2_with fail
     refine (sayOn_any N k i x y false x.p (j : Int) x.q _ (h.below hB) HX.out HY.out HWF.out).mono ?_
     rintro e w11 ⟨rfl, b11⟩
     have st2 := st2.later b11
     have hB := gr_trans hB b11
     have kP := kept_block kP b11
     have kJ := kept_block kJ b11
     clear x0 x1 x2 b11
     obtain ⟨x0, x1, x2⟩ := cells3m kP
     go_wp2_with fail
     refine (deliver_yes _ base X k j false (sayV y.B.id y.B.ports x.p) x z1 (i : Int) x.p x.q _ st2 HUQ.out HX2.out HWF.out HZ1.out HS2.out HR2.out).mono ?_
     rintro e w12 ⟨rfl, z2, hz2, st3, b12⟩
     have HQ2 : Hid (((M2.bs.set i y2).set j z2).map BV.B = roundTo N.brs N.ls (k + 1)) := hide (by
      have e1 : sayAt N.brs x.a x.p = sayV y.B.id y.B.ports x.p := by rw [HI.out]; exact say_there HY.out x.p
      show _ = roundOne N.brs N.ls (roundTo N.brs N.ls k) k
      rw [round_next HX.out HU.out, ← HQ1.out, e1, HJ.out]
      exact set_map (f := fun B => hearB B x.q (sayV y.B.id y.B.ports x.p)) HZ1.out hz2)
     have HKP := hide (kept_under kP b12 HJB.out.1)
     have HKJ := hide (kept_under kJ b12 HJB.out.2.1)
     have HBN := hide (hB.trans (b12.mono HBL.out))
     have HST := hide st3
     clear st2 st3 kP kJ hB x0 x1 x2 b12 hz2
     go_wp2
     go_roundw
     case rel => exact ⟨k + 1, _, by omega, by go_num, HST.out, HKP.out, HKJ.out, HBN.out, HM.out.1, HQ2.out⟩
     case measure => simp [intOf]; omega
   ·have hkn : k = N.ln := by omega
    obtain ⟨kX, st2, hb2⟩ := st.saidNew (Below.refl _ _) (ao := none) (n := 0) (cap := 0) (ss := []) (World.ownsRow_nil wr base 99 7)
    obtain ⟨y0, y1, y2⟩ := cells3m kX
    have fx := frozen8 kX 2
    have kJ2 := kept_under kJ hb2 HJB.out.2.1
    have hB := hB.trans (hb2.mono HBL.out)
    have HE : Hid (M2.brs = roundTo N.brs N.ls N.ls.length) := hide (by rw [HM.out.2, hkn, hll])
    go_upto_region 11 with fail
    generalize hw7 : wr.setCell ⟨X, 2, none⟩ (.slice none 0 0) = w7 at *
    clear y0 y1 y2 fx kX st kJ hb2 x0 x1 x2 kP
    obtain ⟨y0, y1, y2⟩ := cells3m st2.box
    obtain ⟨r0, r1, r2⟩ := cells3m kJ2
    have f0 := frozen8 kJ2 0
    have f1 := frozen8 kJ2 1
    have f2 := frozen8 kJ2 2
    have ne1 : ¬ R = X := by have := HXL.out; have := HJB.out; omega
    have ne2 : ¬ X = R := by have := HXL.out; have := HJB.out; omega
    have HO := hide ((st2.own.out kJ2).lt (base' := w.heap.size) HBL.out)
    have HB := hide (below_out hB (R := R) HJB.out.2.2 (.slice M2.ba M2.bn M2.bc) (.slice M2.la M2.ln M2.lc) (.slice none 0 0))
    dsimp only at y0 y1 y2 HO
    clear st2 kJ2 hB
    go_wp2
    exact bodyPost_ret (v := .agg #[.slice M2.ba M2.bn M2.bc, .slice M2.la M2.ln M2.lc, .slice none 0 0]) (by simp [results, Tryz.results22, go_sem, *]) rfl ⟨_, rfl, HO.out, ⟨HM.out.1, fun _ => ⟨HE.out, rfl⟩, fun hc => absurd HOK.out hc⟩, HB.out⟩

def markSy (k : Int) : SY := ⟨k, (k + 1) % 3 == 0, ⟨k + 1 + 1, k + 1 + 1 + 1, k + 1 + 1 + 1 + 1, k + 1 + 1 + 1 + 1 + 1, k + 1 + 1 + 1 + 1 + 1 + 1⟩⟩
def markSs (k : Int) (n : Nat) : List SY := (List.range n).map fun (i : Nat) => markSy (k + 7 * i)

theorem markSs_length (k : Int) (n : Nat) : (markSs k n).length = n := by simp [markSs]
theorem markSs_succ (k : Int) (j : Nat) : markSs k (j + 1) = markSs k j ++ [markSy (k + 7 * j)] := by simp [markSs, List.range_succ]
theorem markSs_at (k : Int) (n j : Nat) (h : j < n) : (markSs k n)[j]? = some (markSy (k + 7 * j)) := by simp [markSs, List.getElem?_map, List.getElem?_range h]

set_option maxRecDepth 100000 in
set_option maxHeartbeats 2000000 in
theorem markSays_at (base g n cap : Nat) (l : List SY) (k : Int) (w : World) (hown : w.ownsRow base 99 7 (.slice (some ⟨g, 0, none⟩) n cap) n (sayF.all l)) (hn : n ≤ 16777216) (hk0 : 0 ≤ k) (hk1 : k ≤ 1099511627776) :
  Calls Tryz.prog 47 #[.slice (some ⟨g, 0, none⟩) n cap, .int .i64 k] w fun r w' => r = .returned (.int .i64 (k + 7 * n)) ∧ w'.ownsRow base 99 7 (.slice (some ⟨g, 0, none⟩) n cap) n (sayF.all (markSs k n)) ∧ w.grownBy w' (some g) := by
 have hl : l.length = n := (grow_own (F := sayF) hown).size
 go_enter Tryz.func47, Tryz.ntmps47
 go_wp2
 go_loopw [1, 5] (fun m i wr => ∃ j : Nat, j ≤ n ∧ i = .int .i64 j ∧ m = .int .i64 (k + 7 * j) ∧ wr.ownsRow base 99 7 (.slice (some ⟨g, 0, none⟩) n cap) n (sayF.all (markSs k j ++ l.drop j)) ∧ w.grownBy wr (some g)) (fun _ i _ => n - (intOf i).toNat)
 case atStart => exact ⟨0, Nat.zero_le _, rfl, by simp, by simpa [markSs] using hown, World.grownBy.refl _ _⟩
 case round =>
  obtain ⟨j, hj, rfl, rfl, how, hg⟩ := hrel
  by_cases hlt : j < n
  ·obtain ⟨x, hx⟩ : ∃ x, l[j]? = some x := ⟨l[j]'(by omega), List.getElem?_eq_getElem (by omega)⟩
   have hdr : l.drop j = x :: l.drop (j + 1) := by
    obtain ⟨h, rfl⟩ := List.getElem?_eq_some_iff.1 hx
    exact List.drop_eq_getElem_cons h
   rw [hdr] at how
   have hlj := markSs_length k j
   have hz : (markSs k j ++ x :: l.drop (j + 1))[j]? = some x := by rw [List.getElem?_append_right (by omega), hlj, Nat.sub_self]; rfl
   obtain ⟨⟨t0, t1, t2, t3, t4, t5, t6⟩, f0, f1, f2, f3, f4, f5, f6⟩ := say_cells how hz
   have o3 := say_put (y := markSy (k + 7 * j)) how
   rw [hlj] at o3
   have HO3 := hide o3
   have HG := hide (grownTr hg (say_puts (w := wr) (g := g) (j := j * 7) (y := markSy (k + 7 * j))))
   have HM := hide (markSs_succ k j)
   have hm : 0 ≤ k + 7 * (j : Int) ∧ k + 7 * (j : Int) ≤ 2199023255552 := by omega
   clear how hg hown o3 hz hdr
   generalize hK : k + 7 * (j : Int) = K at *
   go_wp2
   go_roundw
   case rel => exact ⟨j + 1, by omega, by go_num, by simp; omega, by rw [HM.out, List.append_assoc]; exact HO3.out, HG.out⟩
   case measure => simp [intOf]; omega
  ·have hj' : j = n := by omega
   subst hj'
   rw [List.drop_eq_nil_of_le (by omega), List.append_nil] at how
   have HO := hide how
   clear how hown
   go_wp2
   go_ret
   exact ⟨rfl, HO.out, hg⟩

theorem markSays_grown (base : Nat) (ao : Option Addr) (n cap : Nat) (l : List SY) (k : Int) (w : World) (hown : w.ownsRow base 99 7 (.slice ao n cap) n (sayF.all l)) (hn : n ≤ 16777216) (hk0 : 0 ≤ k) (hk1 : k ≤ 1099511627776) :
  Calls Tryz.prog 47 #[.slice ao n cap, .int .i64 k] w fun r w' => r = .returned (.int .i64 (k + 7 * n)) ∧ w'.ownsRow base 99 7 (.slice ao n cap) n (sayF.all (markSs k n)) ∧ w.grownBy w' (Value.slice ao n cap).ownBlock := by
 rcases hown.2 with ⟨e, h0⟩ | ⟨g, cap', cur, e, -⟩
 ·cases e
  refine (markSays_nil k 0 w).mono ?_
  rintro r w' ⟨rfl, rfl⟩
  exact ⟨by simp, by simpa [markSs, Flat.all] using World.ownsRow_nil w' base 99 7, World.grownBy.refl _ _⟩
 ·cases e
  exact markSays_at base g n cap l k w hown hn hk0 hk1

set_option maxRecDepth 100000 in
set_option maxHeartbeats 2000000 in
theorem heldSays_any (ao : Option Addr) (n cap : Nat) (k : Int) (w : World) (h1 : GRow sayF w ao n cap (markSs k n)) (hn : n ≤ 16777216) (hk0 : 0 ≤ k) (hk1 : k ≤ 1099511627776) :
  Calls Tryz.prog 50 #[.slice ao n cap, .int .i64 k] w fun r w' => r = .returned (.int .i64 (k + 7 * n)) ∧ Below w.heap.size w w' := by
 go_enter Tryz.func50, Tryz.ntmps50
 go_wp2
 go_loopw [1, 5] (fun m i wr => ∃ j : Nat, j ≤ n ∧ i = .int .i64 j ∧ m = .int .i64 (k + 7 * j) ∧ Below w.heap.size w wr) (fun _ i _ => n - (intOf i).toNat)
 case atStart => exact ⟨0, Nat.zero_le _, rfl, by simp, Below.refl _ _⟩
 case round =>
  obtain ⟨j, hj, rfl, rfl, hb⟩ := hrel
  by_cases hlt : j < n
  ·obtain ⟨x, b, off, hx, rfl, c0, c1, c2, c3, c4, c5, c6⟩ := say_at (h1.below hb) j hlt
   rw [markSs_at k n j hlt] at hx
   cases hx
   have hm : 0 ≤ k + 7 * (j : Int) ∧ k + 7 * (j : Int) ≤ 2199023255552 := by omega
   unfold markSy at c0 c1 c2 c3 c4 c5 c6
   generalize hK : k + 7 * (j : Int) = K at *
   go_wp2
   go_roundw
   case rel => exact ⟨j + 1, by omega, by go_num, by simp; omega, hb⟩
   case measure => simp [intOf]; omega
  ·have hj' : j = n := by omega
   subst hj'
   go_wp2
   go_ret
   exact ⟨rfl, hb⟩

theorem markBig_any (base : Nat) (ao : Option Addr) (n cap : Nat) (l : List BV) (K0 : Int) (w : World) (h : BOs w base ao n cap l) (hk0 : 0 < K0) (hT : endVs K0 l ≤ 16777216) :
  Calls Tryz.prog 45 #[.slice ao n cap, .int .i64 K0] w fun e w' => e = .returned (.int .i64 (endVs K0 l)) ∧ BOs w' base ao n cap (markVs K0 l) ∧ Only (allB ao l) w w' := by
 rcases h.row.2 with ⟨e, h0⟩ | ⟨g, cap', cur, e, -⟩
 ·cases e
  have hl : l = [] := List.eq_nil_of_length_eq_zero h.grow.size
  subst hl
  refine (markBridges_nil K0 0 w).mono ?_
  rintro r w' ⟨rfl, rfl⟩
  exact ⟨rfl, h, Only.refl _ _⟩
 ·cases e
  exact markBig_at base g n cap l K0 w h hk0 hT

def markM (M : NV) : NV := { M with bs := markVs 1 M.bs, ls := markLs (endVs 1 M.bs) M.ln, ss := markSs (endVs 1 M.bs + 4 * M.ln) M.sn }
def endM (M : NV) : Int := endVs 1 M.bs + 4 * M.ln + 7 * M.sn
def NV.blksA (M : NV) : List Nat := allB M.ba M.bs ++ (blkL M.la ++ blkL M.sa)
def NV.Fits (M : NV) : Prop := endVs 1 M.bs ≤ 16777216 ∧ M.ln ≤ 1048576 ∧ M.sn ≤ 1048576

theorem NOwn.blk {w : World} {base : Nat} {M : NV} (h : NOwn w base M) : ∀ b ∈ M.blksA, base ≤ b ∧ b < w.heap.size := by
 intro b hb
 rcases List.mem_append.1 hb with hb | hb
 ·exact h.b.blk b hb
 ·rcases List.mem_append.1 hb with hb | hb
  ·exact h.l.lt b (mem_blkL.2 hb)
  ·exact h.s.lt b (mem_blkL.2 hb)

theorem own_apart_all {w : World} {base base' k n0 m : Nat} {T : TypeId} {a : Option Addr} {n c : Nat} {xs : List Value} {ao : Option Addr} {cap : Nat} {l : List BV} (hs : w.ownsRow base' T k (.slice a n c) n0 xs) (hb : BOs w base ao m cap l) (h0 : (67 : Nat) ≠ T) (h1 : (113 : Nat) ≠ T) (h2 : (162 : Nat) ≠ T) (h3 : (189 : Nat) ≠ T) (h4 : (3 : Nat) ≠ T) : ∀ b ∈ blkL a, b ∉ allB ao l := by
 intro b hb'
 rcases hs.2 with ⟨e, _⟩ | ⟨g, cap', cur, e, _, hh, _⟩
 ·cases e' : a with
  | none => rw [e'] at hb'; cases hb'
  | some q => rw [e'] at e; cases e
 ·cases e' : a with
  | none => rw [e'] at hb'; cases hb'
  | some q =>
   rw [e'] at e hb'
   cases e
   simp [blkL] at hb'
   subst hb'
   exact allB_ne hb hh h0 h1 h2 h3 h4

theorem NOwn.box_apart {w : World} {base X : Nat} {M : NV} {cs : Array Value} (h : NOwn w base M) (hX : w.heap[X]? = some (.cells cs 34)) : X ∉ M.blksA := by
 intro hm
 rcases List.mem_append.1 hm with hm | hm
 ·exact allB_ne h.b hX (by decide) (by decide) (by decide) (by decide) (by decide) hm
 ·rcases List.mem_append.1 hm with hm | hm
  ·exact box_ne h.l hX (by decide) X (mem_blkL.2 hm) rfl
  ·exact box_ne h.s hX (by decide) X (mem_blkL.2 hm) rfl

theorem NOwn.only {bs : List Nat} {w w' : World} {base : Nat} {M : NV} (h : NOwn w base M) (ho : Only bs w w') (hn : ∀ b ∈ M.blksA, b ∉ bs) : NOwn w' base M :=
 ⟨h.b.only ho (fun b hb => hn b (List.mem_append_left _ hb)), ho.own h.l (fun k hk => hn k (List.mem_append_right _ (List.mem_append_left _ (mem_blkL.1 hk)))), ho.own h.s (fun k hk => hn k (List.mem_append_right _ (List.mem_append_right _ (mem_blkL.1 hk))))⟩

set_option maxRecDepth 100000 in
set_option maxHeartbeats 4000000 in
theorem markNet_big (base : Nat) (M : NV) (w : World) (h : NOwn w base M) (hf : M.Fits) :
  Calls Tryz.prog 13 #[.agg #[.slice M.ba M.bn M.bc, .slice M.la M.ln M.lc, .slice M.sa M.sn M.sc], .int .i64 1] w fun e w' => e = .returned (.int .i64 (endM M)) ∧ NOwn w' base (markM M) ∧ Only M.blksA w w' := by
 have hKb := endVs_up M.bs 1
 obtain ⟨hT, hl, hs⟩ := hf
 generalize hw1 : w.alloc (Obj.cells #[.slice M.ba M.bn M.bc, .slice M.la M.ln M.lc, .slice M.sa M.sn M.sc] 34) = w1
 have b01 : Below w.heap.size w w1 := by rw [← hw1]; exact below_one _ _
 have k1 : w1.heap[w.heap.size]? = some (.cells #[.slice M.ba M.bn M.bc, .slice M.la M.ln M.lc, .slice M.sa M.sn M.sc] 34) := by rw [← hw1]; exact block_last _ _
 have h1 := h.below b01
 obtain ⟨x0, x1, x2⟩ := cells3n k1
 go_enter Tryz.func13, Tryz.ntmps13
 go_wp2_with fail
 refine (markBig_any base M.ba M.bn M.bc M.bs 1 _ h1.b (by omega) hT).mono ?_
 rintro e w2 ⟨rfl, hB2, O2⟩
 have k2 := O2.kept k1 (fun hm => h1.box_apart k1 (List.mem_append_left _ hm))
 have apL := own_apart_all h1.l h1.b (by decide) (by decide) (by decide) (by decide) (by decide)
 have apS := own_apart_all h1.s h1.b (by decide) (by decide) (by decide) (by decide) (by decide)
 have l2 := O2.own h1.l (fun k hk => apL k (mem_blkL.1 hk))
 have s2 := O2.own h1.s (fun k hk => apS k (mem_blkL.1 hk))
 have HK := hide hKb
 generalize hEV : endVs 1 M.bs = EV at *
 clear x0 x1 x2
 obtain ⟨x0, x1, x2⟩ := cells3n k2
 go_wp2_with fail
 refine (markLinks_grown base M.la M.ln M.lc M.ls EV _ l2 (by omega) (by omega) (by omega)).mono ?_
 rintro e w3 ⟨rfl, l3, hg3⟩
 have O3 := Only.of_grown hg3
 have hB3 : BOs w3 base M.ba M.bn M.bc (markVs 1 M.bs) := hB2.only O3 (fun b hb hc => apL b hc (by unfold allB at hb ⊢; rw [markVs_blks] at hb; exact hb))
 have s3 := gown_type s2 l2 (by decide) hg3
 have k3 := kept_grown k2 hg3 (fun k hk => box_ne l2 k2 (by decide) k hk)
 clear x0 x1 x2
 obtain ⟨x0, x1, x2⟩ := cells3n k3
 go_wp2_with fail
 refine (markSays_grown base M.sa M.sn M.sc M.ss (EV + 4 * M.ln) _ s3 (by omega) (by omega) (by omega)).mono ?_
 rintro e w4 ⟨rfl, s4, hg4⟩
 have O4 := Only.of_grown hg4
 have hB4 : BOs w4 base M.ba M.bn M.bc (markVs 1 M.bs) := hB3.only O4 (fun b hb hc => apS b hc (by unfold allB at hb ⊢; rw [markVs_blks] at hb; exact hb))
 have l4 := gown_type l3 s3 (by decide) hg4
 have HO : Hid (NOwn w4 base (markM M)) := hide ⟨hB4, by unfold markM; rw [hEV]; exact l4, by unfold markM; rw [hEV]; exact s4⟩
 have HN : Hid (Only M.blksA w w4) := hide (only_in (only_in (only_in (Only.of_below (bs := M.blksA) b01) O2 (fun b hb => List.mem_append_left _ hb)) O3 (fun b hb => List.mem_append_right _ (List.mem_append_left _ hb))) O4 (fun b hb => List.mem_append_right _ (List.mem_append_right _ hb)))
 have HE : Hid (endM M = EV + 4 * M.ln + 7 * M.sn) := hide (by unfold endM; rw [hEV])
 clear hB2 hB3 hB4 l2 l3 l4 s2 s3 s4 O2 O3 O4 hg3 hg4 k2 k3 x0 x1 x2 apL apS h1 h hw1 k1 b01
 go_wp2
 go_ret
 exact ⟨by rw [HE.out]; rfl, HO.out, HN.out⟩

set_option maxRecDepth 100000 in
set_option maxHeartbeats 4000000 in
theorem heldNet_big (base : Nat) (M : NV) (w : World) (h : NOwn w base (markM M)) (hf : M.Fits) :
  Calls Tryz.prog 14 #[.agg #[.slice M.ba M.bn M.bc, .slice M.la M.ln M.lc, .slice M.sa M.sn M.sc], .int .i64 1] w fun e w' => e = .returned (.int .i64 (endM M)) ∧ Below w.heap.size w w' := by
 have hKb := endVs_up M.bs 1
 obtain ⟨hT, hl, hs⟩ := hf
 have hr := h.row
 generalize hw1 : w.alloc (Obj.cells #[.slice M.ba M.bn M.bc, .slice M.la M.ln M.lc, .slice M.sa M.sn M.sc] 34) = w1
 have b01 : Below w.heap.size w w1 := by rw [← hw1]; exact below_one _ _
 have k1 : w1.heap[w.heap.size]? = some (.cells #[.slice M.ba M.bn M.bc, .slice M.la M.ln M.lc, .slice M.sa M.sn M.sc] 34) := by rw [← hw1]; exact block_last _ _
 obtain ⟨x0, x1, x2⟩ := cells3n k1
 have hr1 := hr.below b01
 go_enter Tryz.func14, Tryz.ntmps14
 go_wp2_with fail
 refine (heldBig_any M.ba M.bn M.bc M.bs 1 _ hr1.b hr1.item (by omega) hT).mono ?_
 rintro e w2 ⟨rfl, hb2⟩
 have k2 := kept_block k1 hb2
 have b02 := gr_trans b01 hb2
 have hl2 : GRow linkF w2 M.la M.ln M.lc (markLs (endVs 1 M.bs) M.ln) := (hr.below b02).l
 have HK := hide hKb
 generalize hEV : endVs 1 M.bs = EV at *
 have j1 : ¬ (EV < 0) := by omega
 clear x0 x1 x2 hb2
 obtain ⟨x0, x1, x2⟩ := cells3n k2
 go_wp2_with fail
 refine (heldLinks_any M.la M.ln M.lc EV _ hl2 (by omega) (by omega) (by omega)).mono ?_
 rintro e w3 ⟨rfl, hb3⟩
 have k3 := kept_block k2 hb3
 have b03 := gr_trans b02 hb3
 have hs3 : GRow sayF w3 M.sa M.sn M.sc (markSs (EV + 4 * M.ln) M.sn) := by rw [← hEV]; exact (hr.below b03).s
 have j2 : ¬ (EV + 4 * (M.ln : Int) < 0) := by omega
 clear x0 x1 x2 hb3
 obtain ⟨x0, x1, x2⟩ := cells3n k3
 go_wp2_with fail
 refine (heldSays_any M.sa M.sn M.sc (EV + 4 * M.ln) _ hs3 (by omega) (by omega) (by omega)).mono ?_
 rintro e w4 ⟨rfl, hb4⟩
 have b04 := gr_trans b03 hb4
 have j3 : ¬ (EV + 4 * (M.ln : Int) + 7 * (M.sn : Int) < 0) := by omega
 have HE : Hid (endM M = EV + 4 * M.ln + 7 * M.sn) := hide (by unfold endM; rw [hEV])
 have HB := hide b04
 clear x0 x1 x2 k3 k2 hr hr1 h hl2 hs3 hb4 b04
 go_wp2
 go_ret
 exact ⟨by rw [HE.out]; rfl, HB.out⟩

theorem net_fits {N : NV} {w : World} (h : NetRow w N) (hs : sizeN N ≤ 1048576) : N.Fits := by
 obtain ⟨z1, z2, z3, z4⟩ := net_small h hs
 refine ⟨?_, z2, z3⟩
 have h1 := endVs_sum N.bs 1
 have key : ∀ l : List BV, (∀ x ∈ l, x.Reads w) → (((l.map fun x => 1 + x.n + x.fn + x.rn + x.on).sum : Nat) : Int) ≤ l.length + sizeBs l := by
  intro l
  induction l with
  | nil => intro _; simp [sizeBs]
  | cons y r ih =>
   intro hr
   have h2 := ih (fun x hx => hr x (by simp [hx]))
   have o := hr y (by simp)
   have q1 := o.ports.size
   have q2 := o.f.size
   have q3 := o.v.rows.size
   have q4 := o.v.own.size
   unfold sizeBs at h2 ⊢
   simp only [List.map_cons, List.sum_cons, List.length_cons]
   unfold sizeB at h2 ⊢
   omega
 have e := key N.bs h.item
 have e3 := h.b.size
 unfold sizeN at hs
 omega

def NV.t (N : NV) : List BR × List LK × List SY := (N.brs, N.ls, N.ss)

theorem same_t {N M : NV} (h : M.Same N) : M.t = N.t := by
 have e : M.brs = N.brs := h.b
 unfold NV.t
 rw [e, h.l, h.s]
theorem t_same {N M : NV} (h : M.t = N.t) : M.Same N := by
 unfold NV.t at h
 simp only [Prod.mk.injEq] at h
 exact ⟨h.1, h.2.1, h.2.2⟩

structure RoundR (a b : List BR × List LK × List SY) : Prop where
 l : b.2.1 = a.2.1
 yes : NetOk a.1 a.2.1 a.2.2 → b.1 = roundTo a.1 a.2.1 a.2.1.length ∧ b.2.2 = []
 no : ¬ NetOk a.1 a.2.1 a.2.2 → b.1 = a.1 ∧ b.2.2 = a.2.2

theorem RoundIs.r {N M : NV} (h : RoundIs N M) : RoundR N.t M.t := ⟨h.l, h.yes, h.no⟩

theorem roundR_one {a b c : List BR × List LK × List SY} (h : RoundR a b) (k : RoundR a c) : b = c := by
 obtain ⟨b1, b2, b3⟩ := b
 obtain ⟨c1, c2, c3⟩ := c
 obtain ⟨h1, h2, h3⟩ := h
 obtain ⟨k1, k2, k3⟩ := k
 dsimp only at *
 by_cases ho : NetOk a.1 a.2.1 a.2.2
 ·rw [h1, k1, (h2 ho).1, (k2 ho).1, (h2 ho).2, (k2 ho).2]
 ·rw [h1, k1, (h3 ho).1, (k3 ho).1, (h3 ho).2, (k3 ho).2]

def RoundsR : Nat → List BR × List LK × List SY → List BR × List LK × List SY → Prop
 | 0, a, b => b = a
 | k + 1, a, b => ∃ c, RoundsR k a c ∧ RoundR c b

theorem roundsR_one : ∀ (k : Nat) {a b c : List BR × List LK × List SY}, RoundsR k a b → RoundsR k a c → b = c
 | 0, _, _, _, h, k => by rw [show _ = _ from h, show _ = _ from k]
 | n + 1, _, _, _, ⟨d, h1, h2⟩, ⟨e, k1, k2⟩ => by
  have := roundsR_one n h1 k1
  subst this
  exact roundR_one h2 k2

def FitT (a : List BR × List LK × List SY) : Prop := (∀ B ∈ a.1, bridgeOk B = true) ∧ a.1.length ≤ 6 ∧ a.2.1.length ≤ 9 ∧ a.2.2.length ≤ 40

theorem roundR_fit {a b : List BR × List LK × List SY} (h : RoundR a b) : b = a ∨ FitT b := by
 by_cases ho : NetOk a.1 a.2.1 a.2.2
 ·obtain ⟨e1, e2⟩ := h.yes ho
  refine .inr ⟨?_, ?_, ?_, ?_⟩
  ·rw [e1]; exact round_all a.2.1 ho.1.1 (fun B p v hB => hearB_ok hB p v) _
  ·rw [e1, ups_len (round_ups _ _ _)]; exact ho.1.2.2.2
  ·rw [h.l]; exact ho.2.1.1
  ·rw [e2]; simp
 ·obtain ⟨e1, e2⟩ := h.no ho
  refine .inl ?_
  obtain ⟨b1, b2, b3⟩ := b
  obtain ⟨a1, a2, a3⟩ := a
  have e3 := h.l
  dsimp only at *
  rw [e1, e2, e3]

theorem roundsR_fit : ∀ (k : Nat) {a b : List BR × List LK × List SY}, RoundsR k a b → b = a ∨ FitT b
 | 0, _, _, h => .inl h
 | n + 1, _, _, ⟨c, h1, h2⟩ => by
  rcases roundR_fit h2 with e | e
  ·subst e; exact roundsR_fit n h1
  ·exact .inr e

theorem roundR_rg {a b : List BR × List LK × List SY} (h : RoundR a b) (hr : ∀ B ∈ a.1, B.Rg) : ∀ B ∈ b.1, B.Rg := by
 by_cases ho : NetOk a.1 a.2.1 a.2.2
 ·rw [(h.yes ho).1]; exact round_all a.2.1 hr (fun B p v hB => hear_rg B p v hB) _
 ·rw [(h.no ho).1]; exact hr

theorem roundsR_rg : ∀ (k : Nat) {a b : List BR × List LK × List SY}, RoundsR k a b → (∀ B ∈ a.1, B.Rg) → ∀ B ∈ b.1, B.Rg
 | 0, _, _, h, hr => by rw [show _ = _ from h]; exact hr
 | n + 1, _, _, ⟨c, h1, h2⟩, hr => roundR_rg h2 (roundsR_rg n h1 hr)

theorem ok_tiny {w : World} {x : BV} (h : x.Reads w) (hb : bridgeOk x.B = true) : x.Tiny := by
 obtain ⟨h1, h2, h3, h4, h5, h6, -⟩ := bridgeOk_parts hb
 have q1 := h.ports.size
 have q2 := h.f.size
 have q3 := h.v.rows.size
 have q4 := h.v.own.size
 have p4 : (x.B.ports.length : Int) ≤ 6 := by unfold in3 at h4; simp at h4; omega
 have p5 : x.B.f.length ≤ 12 := ((fdbOk_iff _).1 h5).2
 have p6 : x.B.v.rows.length ≤ 6 ∧ x.B.v.own.length ≤ 6 := by
  unfold vtabOk at h6
  simp only [Bool.and_eq_true, decide_eq_true_eq, beq_iff_eq] at h6
  exact ⟨h6.1.1.1.2, by have := h6.1.1.1.1.2; omega⟩
 exact ⟨by omega, by omega, by omega, by omega⟩

theorem fits_of {w w0 : World} {N M : NV} (h : NetRow w M) (h0 : NetRow w0 N) (hf : M.t = N.t ∨ FitT M.t) (hs : sizeN N ≤ 1048576) : M.Fits := by
 rcases hf with e | ⟨f1, f2, f3, f4⟩
 ·have e' := t_same e
  refine net_fits h ?_
  have q1 := h.b.size
  have q2 := h.l.size
  have q3 := h.s.size
  have r1 := h0.b.size
  have r2 := h0.l.size
  have r3 := h0.s.size
  have e1 := congrArg List.length e'.b
  rw [List.length_map, List.length_map] at e1
  have e2 : sizeBs M.bs = sizeBs N.bs := by
   unfold sizeBs
   have := congrArg (List.map sizeB) e'.b
   rw [List.map_map, List.map_map] at this
   exact congrArg List.sum this
  rw [e'.l] at q2
  rw [e'.s] at q3
  unfold sizeN at hs ⊢
  omega
 ·have ht : ∀ x ∈ M.bs, x.Tiny := fun x hx => ok_tiny (h.item x hx) (f1 x.B (List.mem_map_of_mem hx))
  have hk := (endVs_le M.bs ht 1).2
  have q2 := h.l.size
  have q3 := h.s.size
  have f2' : M.bs.length ≤ 6 := by have : (M.bs.map BV.B).length ≤ 6 := f2; simpa using this
  have f3' : M.ls.length ≤ 9 := f3
  have f4' : M.ss.length ≤ 40 := f4
  exact ⟨by omega, by omega, by omega⟩

structure NV.Sized (N : NV) : Prop where
 n : N.bn ≤ 1048576
 l : N.ln ≤ 1048576
 s : N.sn ≤ 1048576
 m : ∀ x ∈ N.bs, x.Small20

theorem sized_of {w w0 : World} {N M : NV} (h : NetRow w M) (h0 : NetRow w0 N) (hf : M.t = N.t ∨ FitT M.t) (hs : N.Sized) : M.Sized := by
 have q1 := h.b.size
 have q2 := h.l.size
 have q3 := h.s.size
 rcases hf with e | ⟨f1, f2, f3, f4⟩
 ·have e' := t_same e
  have r1 := h0.b.size
  have r2 := h0.l.size
  have r3 := h0.s.size
  have e1 := congrArg List.length e'.b
  rw [List.length_map, List.length_map] at e1
  rw [e'.l] at q2
  rw [e'.s] at q3
  have z1 := hs.n
  have z2 := hs.l
  have z3 := hs.s
  refine ⟨by omega, by omega, by omega, sm_rows h ?_⟩
  rw [show M.brs = N.brs from e'.b]
  exact rows_sm h0 hs.m
 ·have f2' : M.bs.length ≤ 6 := by have : (M.bs.map BV.B).length ≤ 6 := f2; simpa using this
  have f3' : M.ls.length ≤ 9 := f3
  have f4' : M.ss.length ≤ 40 := f4
  refine ⟨by omega, by omega, by omega, fun x hx => ?_⟩
  obtain ⟨t1, t2, t3, t4⟩ := ok_tiny (h.item x hx) (f1 x.B (List.mem_map_of_mem hx))
  exact ⟨by omega, by omega, by omega, by omega⟩

theorem small_sized {w : World} {N : NV} (h : NetRow w N) (hs : sizeN N ≤ 1048576) : N.Sized := by
 obtain ⟨z1, z2, z3, z4⟩ := net_small h hs
 exact ⟨z1, z2, z3, z4⟩

theorem roundTo_rg {N : NV} (h : ∀ x ∈ N.bs, x.B.Rng) : ∀ B ∈ N.brs, B.Rg := by
 intro B hB
 obtain ⟨y, hy, rfl⟩ := List.mem_map.1 hB
 exact ⟨(h y hy).f, (h y hy).v⟩

def HalfO (w wr : World) (l : List BV) (n k : Nat) : Prop :=
 ∃ ys : List BV, ys.length = k ∧ ys.map BV.B = (l.take k).map BV.B ∧ wr.ownsRow w.heap.size 67 11 (.slice (some ⟨w.heap.size, 0, none⟩) n n) n (brF.all (ys ++ List.replicate (n - k) BV.zero)) ∧ (∀ y ∈ ys, y.Own wr w.heap.size) ∧ (ys.flatMap BV.blks).Nodup

set_option maxRecDepth 100000 in
set_option maxHeartbeats 4000000 in
theorem toBridges_own (ao : Option Addr) (n c : Nat) (l : List BV) (w : World) (hl : GRow brF w ao n c l) (hr : ∀ x ∈ l, x.Reads w) (hs : n ≤ 1048576) (hm : ∀ x ∈ l, x.Small) :
  Calls Tryz.prog 35 #[.slice ao n c] w fun r w' => ∃ ao' cap ys, r = .returned (.slice ao' n cap) ∧ ys.map BV.B = l.map BV.B ∧ BOs w' w.heap.size ao' n cap ys ∧ Below w.heap.size w w' := by
 obtain ⟨i0, hi, hz0, hz1, hz2⟩ := finfo_parts brInfo
 have s1 := hl.size
 go_enter Tryz.func35, Tryz.ntmps35
 go_wp2_with (at_make; refine wpList_make_full _ rfl _ _ 30 rfl w.heap.size 67 i0 (.agg #[.int .i64 0, .string ⟨#[]⟩, .slice none 0 0, .slice none 0 0, .slice none 0 0, .slice none 0 0, .int .i64 0, .int .i64 0, .int .i64 0, .int .i64 0, .int .i64 0]) 11 Tryz.underlying30 hi hz0 hz1 .i64 .i64 _ _ n rfl rfl rfl rfl ?c1 ?c2 ?c3 ?_)
 case c1 => rw [hz2]; omega
 case c2 => unfold maxLen; omega
 case c3 => exact Nat.le_refl _
 intro w1 hown hgrow
 have hb1 : Below w.heap.size w w1 := (Below.refl _ _).grown hgrow (Nat.le_refl _) (by intro k hk; cases hk)
 have hown1 : HalfO w w1 l n 0 := by
  refine ⟨[], rfl, rfl, ?_, (by intro y hy; cases hy), List.nodup_nil⟩
  rw [List.nil_append, Nat.sub_zero, ← flat_made]; exact hown
 clear hown hgrow hi hz0 hz1 hz2
 go_wp2
 go_loopw [4] (fun i wr => ∃ k : Nat, k ≤ n ∧ i = .int .i64 k ∧ HalfO w wr l n k ∧ Below w.heap.size w wr) (fun i _ => n - (intOf i).toNat)
 case atStart => exact ⟨0, Nat.zero_le _, rfl, hown1, hb1⟩
 case round =>
  obtain ⟨k, hk, rfl, hh, hb⟩ := hrel
  clear hown1 hb1
  by_cases hlt : k < n
  ·obtain ⟨x, b, off, hx, rfl, ca0, ca1, ca2, ca3, ca4, ca5, ca6, ca7, ca8, ca9, ca10⟩ := br_at (hl.below hb) k hlt
   obtain ⟨ys, rfl, hyd, hyo, hyi, hap⟩ := hh
   have HAP := hide hap
   clear hap
   have hrep : List.replicate (n - ys.length) BV.zero = BV.zero :: List.replicate (n - (ys.length + 1)) BV.zero := by rw [← List.replicate_succ]; congr 1; omega
   rw [hrep] at hyo
   have hmem := List.mem_of_getElem? hx
   obtain ⟨m1, m2, m3, m4⟩ := hm x hmem
   have hrx := (hr x hmem).below hb
   have HX := hide hx
   have HB := hide hb
   have HYD := hide hyd
   have HYO := hide hyo
   have HYI := hide hyi
   clear hx hb hyd hyo hyi hrep
   go_wp2_with fail
   refine (toBridge_made x.a x.n x.c x.fa x.fn x.fc x.ra x.rn x.rc x.oa x.on x.oc x.B _ hrx m1 m2 m3 m4).mono ?_
   rintro e w2 ⟨a2, c2, fa2, fc2, ra2, rc2, oa2, oc2, rfl, ow2, hb2⟩
   generalize hy : (⟨a2, x.n, c2, fa2, x.fn, fc2, ra2, x.rn, rc2, oa2, x.on, oc2, x.B⟩ : BV) = y
   have ho2 := gown_below HYO.out hb2
   have hz : (ys ++ BV.zero :: List.replicate (n - (ys.length + 1)) BV.zero)[ys.length]? = some BV.zero := by simp
   obtain ⟨⟨t0, t1, t2, t3, t4, t5, t6, t7, t8, t9, t10⟩, f0, f1, f2, f3, f4, f5, f6, f7, f8, f9, f10⟩ := bridge_cells ho2 hz
   have hyb : y.B = x.B := by rw [← hy]
   have yo : y.Own w2 wr.heap.size := by rw [← hy]; exact ow2
   have hnd : ((ys ++ [y]).flatMap BV.blks).Nodup := by
    rw [List.flatMap_append, List.nodup_append]
    refine ⟨HAP.out, by simpa using yo.nd, ?_⟩
    intro b hb c hc e
    subst e
    obtain ⟨z, hz, hbz⟩ := List.mem_flatMap.1 hb
    have h1 := ((HYI.out z hz).blk b hbz).2
    have h2 := (yo.blk b (by simpa using hc)).1
    omega
   have HND := hide hnd
   clear hnd yo
   have o3 := bridge_put (y := y) ho2
   have g3 := bridge_puts (w := w2) (g := w.heap.size) (j := ys.length * 11) (y := y)
   obtain ⟨cs, hblk⟩ := own_block ho2
   have ow' : y.Own w2 w.heap.size := by rw [← hy]; exact ow2.lt HB.out.size
   have hb3 := gr_trans HB.out hb2
   have i3 : ∀ W, w2.grownBy W (some w.heap.size) → ∀ z ∈ ys ++ [y], z.Own W w.heap.size := by
    intro W hgW z hz
    refine BV.Own.other (T := 67) ?_ hblk (by decide) (by decide) (by decide) (by decide) hgW
    rcases List.mem_append.1 hz with hz | hz
    ·exact (HYI.out z hz).below hb2
    ·rw [List.mem_singleton.1 hz]; exact ow'
   have i3 := i3 _ g3
   have hb4 := hb3.grown g3 hb3.size (by intro j e; cases e; exact Nat.le_refl _)
   rw [← hy] at o3 i3 hb4 HND
   have HI := hide i3
   have HO3 := hide o3
   have HB3 := hide hb4
   clear ho2 hb2 hb3 hb4 o3 hz g3 hblk ow2 ow' i3 hy ca0 ca1 ca2 ca3 ca4 ca5 ca6 ca7 ca8 ca9 ca10 HYO HYI HB
   go_wp2
   go_roundw
   case rel =>
    refine ⟨ys.length + 1, by omega, by go_num, ⟨ys ++ [⟨a2, x.n, c2, fa2, x.fn, fc2, ra2, x.rn, rc2, oa2, x.on, oc2, x.B⟩], by simp, ?_, by rw [List.append_assoc]; exact HO3.out, HI.out, HND.out⟩, HB3.out⟩
    rw [List.map_append, HYD.out, List.take_add_one, HX.out]
    simp
   case measure => simp [intOf]; omega
  ·have hkn : k = n := by omega
   subst hkn
   obtain ⟨ys, hyl, hyd, hyo, hyi, hap⟩ := hh
   rw [List.take_of_length_le (by omega)] at hyd
   rw [Nat.sub_self, List.replicate_zero, List.append_nil] at hyo
   have HYD := hide hyd
   have HO := hide hyo
   have HI := hide hyi
   have HB := hide hb
   have HAP := hide hap
   clear hyd hyo hyi hb hap
   go_wp2
   go_ret
   exact ⟨_, _, ys, rfl, HYD.out, ⟨HO.out, HI.out, HAP.out⟩, HB.out⟩

set_option maxRecDepth 100000 in
set_option maxHeartbeats 4000000 in
theorem toNet_own (N : NV) (w : World) (h : NetRow w N) (hs : sizeN N ≤ 1048576) :
  Calls Tryz.prog 9 #[.agg #[.slice N.ba N.bn N.bc, .slice N.la N.ln N.lc, .slice N.sa N.sn N.sc]] w fun r w' => ∃ M : NV, r = .returned (.agg #[.slice M.ba M.bn M.bc, .slice M.la M.ln M.lc, .slice M.sa M.sn M.sc]) ∧ NOwn w' w.heap.size M ∧ M.Same N ∧ sizeN M = sizeN N ∧ Below w.heap.size w w' := by
 obtain ⟨z1, z2, z3, z4⟩ := net_small h hs
 go_enter Tryz.func9, Tryz.ntmps9
 go_wp2_with fail
 refine (toBridges_own N.ba N.bn N.bc N.bs _ (h.b.below (below_three _ _ _ _)) (fun x hx => (h.item x hx).below (below_three _ _ _ _)) z1 z4).mono ?_
 rintro e w1 ⟨ba, bc, bs, rfl, hB, OB, hb⟩
 have oB := OB.row
 have iB := OB.item
 have HAP := hide OB.apart
 clear OB
 obtain ⟨k0, k1, k2⟩ := kept_three hb
 have b1 : Below w.heap.size w w1 := gr_trans (below_three w _ _ _) hb
 obtain ⟨x0, x1, x2⟩ := cells3n k0
 obtain ⟨y0, y1, y2⟩ := cells3n k2
 have f0 := frozen8 k2 0
 have b2 := below_set b1 (g := w.heap.size + 1 + 1) (by omega) 0 (.slice ba N.bn bc)
 have n1 := hb.size
 simp at n1
 have oB2 := gown_apart (gown_lt oB (base' := w.heap.size + 3) (by simp)) (grown_set (rb := w.heap.size + 1 + 1) 0 (.slice ba N.bn bc)) (by intro b e; cases e; omega)
 have iB2 : ∀ y ∈ bs, y.Own _ (w.heap.size + 3) := fun y hy => ((iB y hy).lt (base' := w.heap.size + 3) (by simp)).apart (grown_set (rb := w.heap.size + 1 + 1) 0 (.slice ba N.bn bc)) (by intro b e; cases e; omega)
 have k0' := kept_set (b := w.heap.size + 1 + 1) (j := 0) (u := .slice ba N.bn bc) k0 (by omega)
 have k1' := kept_set (b := w.heap.size + 1 + 1) (j := 0) (u := .slice ba N.bn bc) k1 (by omega)
 have k2' := set_block5 (j := 0) k2 (.slice ba N.bn bc)
 clear oB iB hb k0 k1 k2
 generalize hwA : w1.setCell ⟨w.heap.size + 1 + 1, 0, none⟩ (.slice ba N.bn bc) = wA at b2 oB2 iB2 k0' k1' k2'
 clear x0 x1 x2
 obtain ⟨x0, x1, x2⟩ := cells3n k0'
 go_wp2_with fail
 refine (toLinks_made N.la N.ln N.lc N.ls _ (h.l.below b2) z2).mono ?_
 rintro e w3 ⟨la, lc, rfl, oL, hb3⟩
 have k0 := kept_block k0' hb3
 have k1 := kept_block k1' hb3
 have k2 : w3.heap[w.heap.size + 1 + 1]? = some (.cells #[.slice ba N.bn bc, .slice none 0 0, .slice none 0 0] 34) := kept_block k2' hb3
 have b3 := gr_trans b2 hb3
 have n3 := b2.size
 have n3' : w.heap.size + 3 ≤ wA.heap.size := by rw [← hwA]; simpa using n1
 have n3'' := Nat.le_trans n3' hb3.size
 have oB3 := gown_below oB2 hb3
 have iB3 : ∀ y ∈ bs, y.Own _ (w.heap.size + 3) := fun y hy => (iB2 y hy).below hb3
 have oL3 := gown_lt oL n3'
 clear hb3 k0' k1' k2' oB2 iB2 oL x0 x1 x2 y0 y1 y2 f0 hwA
 obtain ⟨y0, y1, y2⟩ := cells3n k2
 have f1 := frozen8 k2 1
 have b4 := below_set b3 (g := w.heap.size + 1 + 1) (by omega) 1 (.slice la N.ln lc)
 have oB4 := gown_apart oB3 (grown_set (rb := w.heap.size + 1 + 1) 1 (.slice la N.ln lc)) (by intro b e; cases e; omega)
 have oL4 := gown_apart oL3 (grown_set (rb := w.heap.size + 1 + 1) 1 (.slice la N.ln lc)) (by intro b e; cases e; omega)
 have iB4 : ∀ y ∈ bs, y.Own _ (w.heap.size + 3) := fun y hy => (iB3 y hy).apart (grown_set (rb := w.heap.size + 1 + 1) 1 (.slice la N.ln lc)) (by intro b e; cases e; omega)
 have k0' := kept_set (b := w.heap.size + 1 + 1) (j := 1) (u := .slice la N.ln lc) k0 (by omega)
 have k1' := kept_set (b := w.heap.size + 1 + 1) (j := 1) (u := .slice la N.ln lc) k1 (by omega)
 have k2' := set_block5 (j := 1) k2 (.slice la N.ln lc)
 have n4 : w.heap.size + 3 ≤ (w3.setCell ⟨w.heap.size + 1 + 1, 1, none⟩ (.slice la N.ln lc)).heap.size := by simpa using n3''
 clear oB3 iB3 oL3 k0 k1 k2
 generalize hwB : w3.setCell ⟨w.heap.size + 1 + 1, 1, none⟩ (.slice la N.ln lc) = wB at b4 oB4 oL4 iB4 k0' k1' k2' n4
 obtain ⟨x0, x1, x2⟩ := cells3n k0'
 go_wp2_with fail
 refine (toSays_made N.sa N.sn N.sc N.ss _ (h.s.below b4) z3).mono ?_
 rintro e w5 ⟨sa, sc, rfl, oS, hb5⟩
 have k1 := kept_block k1' hb5
 have k2 : w5.heap[w.heap.size + 1 + 1]? = some (.cells #[.slice ba N.bn bc, .slice la N.ln lc, .slice none 0 0] 34) := kept_block k2' hb5
 have b5 := gr_trans b4 hb5
 have oB5 := gown_below oB4 hb5
 have oL5 := gown_below oL4 hb5
 have oS5 := gown_lt oS n4
 have iB5 : ∀ y ∈ bs, y.Own _ (w.heap.size + 3) := fun y hy => (iB4 y hy).below hb5
 clear hb5 k0' k1' k2' oB4 oL4 iB4 oS x0 x1 x2 y0 y1 y2 f1 hwB
 obtain ⟨y0, y1, y2⟩ := cells3n k2
 obtain ⟨u0, u1, u2⟩ := cells3n k1
 have f2 := frozen8 k2 2
 have g0 := frozen8 k1 0
 have g1 := frozen8 k1 1
 have g2 := frozen8 k1 2
 have ne1 : ¬ w.heap.size + 1 = w.heap.size + 1 + 1 := by omega
 have ne2 : ¬ w.heap.size + 1 + 1 = w.heap.size + 1 := by omega
 have hst : ∀ W, w5.grownBy W (some (w.heap.size + 1 + 1)) → ∀ W', W.grownBy W' (some (w.heap.size + 1)) → NOwn W' w.heap.size ⟨ba, N.bn, bc, bs, la, N.ln, lc, N.ls, sa, N.sn, sc, N.ss⟩ := by
  intro W hg W' hg'
  have l1 : ∀ b, some (w.heap.size + 1 + 1) = some b → b < w.heap.size + 3 := by intro b e; cases e; omega
  have l2 : ∀ b, some (w.heap.size + 1) = some b → b < w.heap.size + 3 := by intro b e; cases e; omega
  exact NOwn.lt (base := w.heap.size + 3) ⟨⟨gown_apart (gown_apart oB5 hg l1) hg' l2, fun y hy => ((iB5 y hy).apart hg l1).apart hg' l2, HAP.out⟩, gown_apart (gown_apart oL5 hg l1) hg' l2, gown_apart (gown_apart oS5 hg l1) hg' l2⟩ (by omega)
 have HN := hide (hst _ (grown_set (rb := w.heap.size + 1 + 1) 2 (.slice sa N.sn sc)) _ (grownTr (grownTr (grown_set (rb := w.heap.size + 1) 0 (.slice ba N.bn bc)) (grown_set (rb := w.heap.size + 1) 1 (.slice la N.ln lc))) (grown_set (rb := w.heap.size + 1) 2 (.slice sa N.sn sc))))
 have HB := hide (below_set (below_set (below_set (below_set b5 (g := w.heap.size + 1 + 1) (by omega) 2 (.slice sa N.sn sc)) (g := w.heap.size + 1) (by omega) 0 (.slice ba N.bn bc)) (g := w.heap.size + 1) (by omega) 1 (.slice la N.ln lc)) (g := w.heap.size + 1) (by omega) 2 (.slice sa N.sn sc))
 have HBB := hide hB
 clear hst k1 k2 oB5 oL5 oS5 iB5 b5 b4 b3 b2 b1 hB n1 n3 n3' n3'' n4
 go_wp2
 refine bodyPost_ret (v := .agg #[.slice ba N.bn bc, .slice la N.ln lc, .slice sa N.sn sc]) (by simp [results, Tryz.results9, go_sem, *]) rfl ⟨⟨ba, N.bn, bc, bs, la, N.ln, lc, N.ls, sa, N.sn, sc, N.ss⟩, rfl, HN.out, ⟨HBB.out, rfl, rfl⟩, ?_, HB.out⟩
 have e := HBB.out
 unfold sizeN sizeBs
 have : (bs.map fun x => sizeB x.B) = (N.bs.map fun x => sizeB x.B) := by
  have := congrArg (List.map sizeB) e
  rw [List.map_map, List.map_map] at this
  exact this
 simp only [this]

set_option maxRecDepth 100000 in
set_option maxHeartbeats 16000000 in
theorem specRounds_made (N : NV) (k : Int) (w : World) (h : NetRow w N) (hz : N.Sized) :
  Calls Tryz.prog 23 #[.agg #[.slice N.ba N.bn N.bc, .slice N.la N.ln N.lc, .slice N.sa N.sn N.sc], .int .i64 k] w fun e w' => ∃ M : NV, e = .returned (.agg #[.slice M.ba M.bn M.bc, .slice M.la M.ln M.lc, .slice M.sa M.sn M.sc]) ∧ NOwn w' w.heap.size M ∧ RoundsR (min k 30).toNat N.t M.t ∧ Below w.heap.size w w' := by
 generalize hw1 : w.alloc (Obj.cells #[.slice N.ba N.bn N.bc, .slice N.la N.ln N.lc, .slice N.sa N.sn N.sc] 34) = w1
 generalize hw2 : w1.alloc (Obj.cells #[.slice none 0 0, .slice none 0 0, .slice none 0 0] 34) = w2
 have b01 : Below w.heap.size w w1 := by rw [← hw1]; exact below_one _ _
 have b12 : Below w1.heap.size w1 w2 := by rw [← hw2]; exact below_one _ _
 have b02 := gr_trans b01 b12
 have kP : w2.heap[w.heap.size]? = some (.cells #[.slice N.ba N.bn N.bc, .slice N.la N.ln N.lc, .slice N.sa N.sn N.sc] 34) := kept_block (by rw [← hw1]; exact block_last _ _) b12
 have kJ : w2.heap[w1.heap.size]? = some (.cells #[.slice none 0 0, .slice none 0 0, .slice none 0 0] 34) := by rw [← hw2]; exact block_last _ _
 have HZR : Hid (w1.heap.size = w.heap.size + 1) := hide (by rw [← hw1]; simp)
 have HZ : Hid (w2.heap.size = w.heap.size + 2) := hide (by rw [← hw2, ← hw1]; simp)
 obtain ⟨x0, x1, x2⟩ := cells3m kP
 go_enter Tryz.func23, Tryz.ntmps23
 go_wp2_with fail
 refine (specCopyN_made N _ (h.below b02) (by have := hz.n; omega) (by have := hz.l; omega) (by have := hz.s; omega) (small_big hz.m)).mono ?_
 rintro e w3 ⟨M, rfl, oM, sM, hb3⟩
 generalize hw4 : w3.alloc (Obj.cells #[.slice M.ba M.bn M.bc, .slice M.la M.ln M.lc, .slice M.sa M.sn M.sc] 34) = w4
 have b34 : Below w3.heap.size w3 w4 := by rw [← hw4]; exact below_one _ _
 have kY : w4.heap[w3.heap.size]? = some (.cells #[.slice M.ba M.bn M.bc, .slice M.la M.ln M.lc, .slice M.sa M.sn M.sc] 34) := by rw [← hw4]; exact block_last _ _
 have oM := oM.below b34
 have b24 := gr_trans hb3 b34
 have kJ := kept_block kJ b24
 have b04 := gr_trans b02 b24
 have HYR : Hid (w.heap.size + 2 ≤ w3.heap.size) := hide (by have := hb3.size; have := HZ.out; omega)
 have HB2 : Hid (w.heap.size ≤ w2.heap.size) := hide (by have := HZ.out; omega)
 go_wp2_with fail
 generalize hY : w3.heap.size = Y at *
 generalize hRR : w1.heap.size = R at *
 skip
 clear x0 x1 x2 hb3 b34 b24 b02 b12 b01 hw1 hw2 hw4 kP 
 go_loopw [6] (fun i wr => ∃ (j : Nat) (M : NV), j ≤ 30 ∧ (j = 0 ∨ (j : Int) ≤ k) ∧ i = .int .i64 j ∧ wr.heap[Y]? = some (.cells #[.slice M.ba M.bn M.bc, .slice M.la M.ln M.lc, .slice M.sa M.sn M.sc] 34) ∧ wr.heap[R]? = some (.cells #[.slice none 0 0, .slice none 0 0, .slice none 0 0] 34) ∧ NOwn wr w.heap.size M ∧ Below w.heap.size w wr ∧ RoundsR j N.t M.t) (fun i _ => 30 - (intOf i).toNat)
 case atStart => exact ⟨0, M, by omega, .inl rfl, rfl, kY, kJ, oM.lt HB2.out, b04, same_t sM⟩
 case round =>
  clear kY kJ oM b04 sM
  obtain ⟨j, M2, hj, hjk, rfl, kY, kJ, oM, hB, hM⟩ := hrel
  have HM := hide hM
  have hz2 := sized_of oM.row h (roundsR_fit j hM) hz
  clear hM
  obtain ⟨x0, x1, x2⟩ := cells3m kY
  by_cases hlt : (j : Int) < k ∧ (j : Int) < 30
  ·obtain ⟨l1, l2⟩ := hlt
   skip
   go_wp2_with fail
   refine (specRound_made M2 _ oM.row hz2.n hz2.l hz2.s hz2.m).mono ?_
   rintro e w8 ⟨M3, rfl, o3, r3, b8⟩
   have kY := kept_block kY b8
   have kJ := kept_block kJ b8
   have o3 := o3.lt (base' := w.heap.size) hB.size
   have hB := gr_trans hB b8
   have HR3 : Hid (RoundsR (j + 1) N.t M3.t) := hide ⟨_, HM.out, r3.r⟩
   clear x0 x1 x2 b8 oM hz2
   obtain ⟨x0, x1, x2⟩ := cells3m kY
   have f0 := frozen8 kY 0
   have f1 := frozen8 kY 1
   have f2 := frozen8 kY 2
   have o4 := o3.out kY
   have b4 := below_out hB (R := Y) (by have := HYR.out; omega) (.slice M3.ba M3.bn M3.bc) (.slice M3.la M3.ln M3.lc) (.slice M3.sa M3.sn M3.sc)
   have kJ4 := kept_grown kJ (grownTr (grownTr (grown_set (rb := Y) 0 (.slice M3.ba M3.bn M3.bc)) (grown_set 1 (.slice M3.la M3.ln M3.lc))) (grown_set 2 (.slice M3.sa M3.sn M3.sc))) (by intro i e; cases e; have := HYR.out; have := HZR.out; omega)
   have kY4 := made_set3 (K := fun W => W.heap[Y]? = some (.cells #[.slice M3.ba M3.bn M3.bc, .slice M3.la M3.ln M3.lc, .slice M3.sa M3.sn M3.sc] 34)) kY (.slice M3.ba M3.bn M3.bc) (.slice M3.la M3.ln M3.lc) (.slice M3.sa M3.sn M3.sc) (fun wq kQ _ => kQ)
   have HO := hide o4
   have HB := hide b4
   have HKJ := hide kJ4
   have HKY := hide kY4
   clear o3 o4 b4 kJ4 kY4 hB kJ r3
   go_wp2
   go_roundw
   case rel => exact ⟨j + 1, M3, by omega, .inr (by omega), by go_num, HKY.out, HKJ.out, HO.out, HB.out, HR3.out⟩
   case measure => simp [intOf]; omega
  ·have hcj : (min k 30).toNat = j := by omega
   have HC : Hid (RoundsR (min k 30).toNat N.t M2.t) := hide (by rw [hcj]; exact HM.out)
   obtain ⟨r0, r1, r2⟩ := cells3m kJ
   have f0 := frozen8 kJ 0
   have f1 := frozen8 kJ 1
   have f2 := frozen8 kJ 2
   have ne1 : ¬ R = Y := by have := HYR.out; have := HZR.out; omega
   have ne2 : ¬ Y = R := by have := HYR.out; have := HZR.out; omega
   have HO := hide (oM.out kJ)
   have HB := hide (below_out hB (R := R) (by have := HZR.out; omega) (.slice M2.ba M2.bn M2.bc) (.slice M2.la M2.ln M2.lc) (.slice M2.sa M2.sn M2.sc))
   have ht : ¬ (j : Int) < k ∨ ((j : Int) < k ∧ ¬ (j : Int) < 30) := by omega
   skip
   clear oM kY kJ hB hz2 hcj hlt
   rcases ht with ht | ⟨hu, ht⟩
   ·go_wp2
    exact bodyPost_ret (v := .agg #[.slice M2.ba M2.bn M2.bc, .slice M2.la M2.ln M2.lc, .slice M2.sa M2.sn M2.sc]) (by simp [results, Tryz.results23, go_sem, *]) rfl ⟨M2, rfl, HO.out, HC.out, HB.out⟩
   ·go_wp2
    exact bodyPost_ret (v := .agg #[.slice M2.ba M2.bn M2.bc, .slice M2.la M2.ln M2.lc, .slice M2.sa M2.sn M2.sc]) (by simp [results, Tryz.results23, go_sem, *]) rfl ⟨M2, rfl, HO.out, HC.out, HB.out⟩

set_option maxRecDepth 100000 in
set_option maxHeartbeats 16000000 in
theorem implRounds_made (N : NV) (k : Int) (w : World) (h : NetRow w N) (hz : N.Sized) (hR : ∀ B ∈ N.brs, B.Rg) :
  Calls Tryz.prog 24 #[.agg #[.slice N.ba N.bn N.bc, .slice N.la N.ln N.lc, .slice N.sa N.sn N.sc], .int .i64 k] w fun e w' => ∃ M : NV, e = .returned (.agg #[.slice M.ba M.bn M.bc, .slice M.la M.ln M.lc, .slice M.sa M.sn M.sc]) ∧ NOwn w' w.heap.size M ∧ RoundsR (min k 30).toNat N.t M.t ∧ Below w.heap.size w w' := by
 generalize hw1 : w.alloc (Obj.cells #[.slice N.ba N.bn N.bc, .slice N.la N.ln N.lc, .slice N.sa N.sn N.sc] 34) = w1
 generalize hw2 : w1.alloc (Obj.cells #[.slice none 0 0, .slice none 0 0, .slice none 0 0] 34) = w2
 have b01 : Below w.heap.size w w1 := by rw [← hw1]; exact below_one _ _
 have b12 : Below w1.heap.size w1 w2 := by rw [← hw2]; exact below_one _ _
 have b02 := gr_trans b01 b12
 have kP : w2.heap[w.heap.size]? = some (.cells #[.slice N.ba N.bn N.bc, .slice N.la N.ln N.lc, .slice N.sa N.sn N.sc] 34) := kept_block (by rw [← hw1]; exact block_last _ _) b12
 have kJ : w2.heap[w1.heap.size]? = some (.cells #[.slice none 0 0, .slice none 0 0, .slice none 0 0] 34) := by rw [← hw2]; exact block_last _ _
 have HZR : Hid (w1.heap.size = w.heap.size + 1) := hide (by rw [← hw1]; simp)
 have HZ : Hid (w2.heap.size = w.heap.size + 2) := hide (by rw [← hw2, ← hw1]; simp)
 obtain ⟨x0, x1, x2⟩ := cells3m kP
 go_enter Tryz.func24, Tryz.ntmps24
 go_wp2_with fail
 refine (netWithin_made N _ (h.below b02) (by have := hz.n; omega) (by have := hz.l; omega) (by have := hz.s; omega) (small_big hz.m)).mono ?_
 rintro e w3 ⟨X0, base0, M, rfl, st0, sM, hbs0, hb3⟩
 have oM := st0.own.lt (base' := w2.heap.size) hbs0
 obtain ⟨q0, q1, q2⟩ := cells3m st0.box
 generalize hw4 : w3.alloc (Obj.cells #[.slice M.ba M.bn M.bc, .slice M.la M.ln M.lc, .slice M.sa M.sn M.sc] 34) = w4
 have b34 : Below w3.heap.size w3 w4 := by rw [← hw4]; exact below_one _ _
 have kY : w4.heap[w3.heap.size]? = some (.cells #[.slice M.ba M.bn M.bc, .slice M.la M.ln M.lc, .slice M.sa M.sn M.sc] 34) := by rw [← hw4]; exact block_last _ _
 have oM := oM.below b34
 have b24 := gr_trans hb3 b34
 have kJ := kept_block kJ b24
 have b04 := gr_trans b02 b24
 have HYR : Hid (w.heap.size + 2 ≤ w3.heap.size) := hide (by have := hb3.size; have := HZ.out; omega)
 have HB2 : Hid (w.heap.size ≤ w2.heap.size) := hide (by have := HZ.out; omega)
 go_wp2_with fail
 generalize hY : w3.heap.size = Y at *
 generalize hRR : w1.heap.size = R at *
 have HRG := hide hR
 clear x0 x1 x2 hb3 b34 b24 b02 b12 b01 hw1 hw2 hw4 kP q0 q1 q2 st0 hbs0 hR
 go_loopw [13] (fun i wr => ∃ (j : Nat) (M : NV), j ≤ 30 ∧ (j = 0 ∨ (j : Int) ≤ k) ∧ i = .int .i64 j ∧ wr.heap[Y]? = some (.cells #[.slice M.ba M.bn M.bc, .slice M.la M.ln M.lc, .slice M.sa M.sn M.sc] 34) ∧ wr.heap[R]? = some (.cells #[.slice none 0 0, .slice none 0 0, .slice none 0 0] 34) ∧ NOwn wr w.heap.size M ∧ Below w.heap.size w wr ∧ RoundsR j N.t M.t) (fun i _ => 30 - (intOf i).toNat)
 case atStart => exact ⟨0, M, by omega, .inl rfl, rfl, kY, kJ, oM.lt HB2.out, b04, same_t sM⟩
 case round =>
  clear kY kJ oM b04 sM
  obtain ⟨j, M2, hj, hjk, rfl, kY, kJ, oM, hB, hM⟩ := hrel
  have HM := hide hM
  have hz2 := sized_of oM.row h (roundsR_fit j hM) hz
  clear hM
  obtain ⟨x0, x1, x2⟩ := cells3m kY
  by_cases hlt : (j : Int) < k ∧ (j : Int) < 30
  ·obtain ⟨l1, l2⟩ := hlt
   have l3 : (j : Int) < min k 30 := by omega
   go_wp2_with fail
   refine (implRound_made M2 _ oM.row hz2.n hz2.l hz2.s hz2.m (roundsR_rg j HM.out HRG.out)).mono ?_
   rintro e w8 ⟨M3, rfl, o3, r3, b8⟩
   have kY := kept_block kY b8
   have kJ := kept_block kJ b8
   have o3 := o3.lt (base' := w.heap.size) hB.size
   have hB := gr_trans hB b8
   have HR3 : Hid (RoundsR (j + 1) N.t M3.t) := hide ⟨_, HM.out, r3.r⟩
   clear x0 x1 x2 b8 oM hz2
   obtain ⟨x0, x1, x2⟩ := cells3m kY
   have f0 := frozen8 kY 0
   have f1 := frozen8 kY 1
   have f2 := frozen8 kY 2
   have o4 := o3.out kY
   have b4 := below_out hB (R := Y) (by have := HYR.out; omega) (.slice M3.ba M3.bn M3.bc) (.slice M3.la M3.ln M3.lc) (.slice M3.sa M3.sn M3.sc)
   have kJ4 := kept_grown kJ (grownTr (grownTr (grown_set (rb := Y) 0 (.slice M3.ba M3.bn M3.bc)) (grown_set 1 (.slice M3.la M3.ln M3.lc))) (grown_set 2 (.slice M3.sa M3.sn M3.sc))) (by intro i e; cases e; have := HYR.out; have := HZR.out; omega)
   have kY4 := made_set3 (K := fun W => W.heap[Y]? = some (.cells #[.slice M3.ba M3.bn M3.bc, .slice M3.la M3.ln M3.lc, .slice M3.sa M3.sn M3.sc] 34)) kY (.slice M3.ba M3.bn M3.bc) (.slice M3.la M3.ln M3.lc) (.slice M3.sa M3.sn M3.sc) (fun wq kQ _ => kQ)
   have HO := hide o4
   have HB := hide b4
   have HKJ := hide kJ4
   have HKY := hide kY4
   clear o3 o4 b4 kJ4 kY4 hB kJ r3
   go_wp2
   go_roundw
   case rel => exact ⟨j + 1, M3, by omega, .inr (by omega), by go_num, HKY.out, HKJ.out, HO.out, HB.out, HR3.out⟩
   case measure => simp [intOf]; omega
  ·have hcj : (min k 30).toNat = j := by omega
   have HC : Hid (RoundsR (min k 30).toNat N.t M2.t) := hide (by rw [hcj]; exact HM.out)
   obtain ⟨r0, r1, r2⟩ := cells3m kJ
   have f0 := frozen8 kJ 0
   have f1 := frozen8 kJ 1
   have f2 := frozen8 kJ 2
   have ne1 : ¬ R = Y := by have := HYR.out; have := HZR.out; omega
   have ne2 : ¬ Y = R := by have := HYR.out; have := HZR.out; omega
   have HO := hide (oM.out kJ)
   have HB := hide (below_out hB (R := R) (by have := HZR.out; omega) (.slice M2.ba M2.bn M2.bc) (.slice M2.la M2.ln M2.lc) (.slice M2.sa M2.sn M2.sc))
   have ht : ¬ (j : Int) < k ∨ ((j : Int) < k ∧ ¬ (j : Int) < 30) := by omega
   have l3 : ¬ (j : Int) < min k 30 := by omega
   clear oM kY kJ hB hz2 hcj hlt
   rcases ht with ht | ⟨hu, ht⟩
   ·go_wp2
    exact bodyPost_ret (v := .agg #[.slice M2.ba M2.bn M2.bc, .slice M2.la M2.ln M2.lc, .slice M2.sa M2.sn M2.sc]) (by simp [results, Tryz.results24, go_sem, *]) rfl ⟨M2, rfl, HO.out, HC.out, HB.out⟩
   ·go_wp2
    exact bodyPost_ret (v := .agg #[.slice M2.ba M2.bn M2.bc, .slice M2.la M2.ln M2.lc, .slice M2.sa M2.sn M2.sc]) (by simp [results, Tryz.results24, go_sem, *]) rfl ⟨M2, rfl, HO.out, HC.out, HB.out⟩

end Go.Proofs.YtpgdahenmpkcnaaGreat
