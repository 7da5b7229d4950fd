/-
  Packed: StepRoundS StepIn StepWay.
-/
import Derived.Test.YtpgdahenmpkcnaaGreatPAKW
import Derived.Test.YtpgdahenmpkcnaaGreatPAK01
import Derived.Test.YtpgdahenmpkcnaaGreatPAK06
import Derived.Test.YtpgdahenmpkcnaaGreatPAK15
import Derived.Test.YtpgdahenmpkcnaaGreatPAK29
import Derived.Test.YtpgdahenmpkcnaaGreatPAStepCopy
namespace Go.Proofs.YtpgdahenmpkcnaaGreat
open Go.RowKit

set_option maxRecDepth 100000 in
set_option maxHeartbeats 16000000 in
theorem specRound_made (N : NV) (w : World) (h : NetRow w N) (hn : N.bn ≤ 1048576) (hl : N.ln ≤ 1048576) (hs : N.sn ≤ 1048576) (hm : ∀ x ∈ N.bs, x.Small20) :
  Calls Tryz.prog 21 #[.agg #[.slice N.ba N.bn N.bc, .slice N.la N.ln N.lc, .slice N.sa N.sn N.sc]] w fun e w' => ∃ M : NV, e = .returned (.agg #[.slice M.ba M.bn M.bc, .slice M.la M.ln M.lc, .slice M.sa M.sn M.sc]) ∧ NOwn w' w.heap.size M ∧ RoundIs N M ∧ Below w.heap.size w w' := by
 have hll : N.ls.length = N.ln := h.l.size
 generalize hw1 : w.alloc (Obj.cells #[.slice N.ba N.bn N.bc, .slice N.la N.ln N.lc, .slice N.sa N.sn N.sc] 34) = w1
 generalize hw2 : w1.alloc (Obj.cells #[.slice none 0 0, .slice none 0 0, .slice none 0 0] 34) = w2
 have b01 : Below w.heap.size w w1 := by rw [← hw1]; exact below_one _ _
 have b12 : Below w1.heap.size w1 w2 := by rw [← hw2]; exact below_one _ _
 have b02 := gr_trans b01 b12
 have kP : w2.heap[w.heap.size]? = some (.cells #[.slice N.ba N.bn N.bc, .slice N.la N.ln N.lc, .slice N.sa N.sn N.sc] 34) := kept_block (by rw [← hw1]; exact block_last _ _) b12
 have kJ : w2.heap[w1.heap.size]? = some (.cells #[.slice none 0 0, .slice none 0 0, .slice none 0 0] 34) := by rw [← hw2]; exact block_last _ _
 have HZR : Hid (w1.heap.size = w.heap.size + 1) := hide (by rw [← hw1]; simp)
 have HZ : Hid (w2.heap.size = w.heap.size + 2) := hide (by rw [← hw2, ← hw1]; simp)
 obtain ⟨x0, x1, x2⟩ := cells3m kP
 go_enter Tryz.func21, Tryz.ntmps21
 go_wp2_with fail
 refine (specCopyN_made N _ (h.below b02) (by omega) (by omega) (by omega) (small_big hm)).mono ?_
 rintro e w3 ⟨M, rfl, oM, sM, hb3⟩
 generalize hw4 : w3.alloc (Obj.cells #[.slice M.ba M.bn M.bc, .slice M.la M.ln M.lc, .slice M.sa M.sn M.sc] 34) = w4
 have b34 : Below w3.heap.size w3 w4 := by rw [← hw4]; exact below_one _ _
 have st : NbSt w4 w2.heap.size w3.heap.size M := ⟨by rw [← hw4]; exact block_last _ _, oM.below b34, hb3.size⟩
 have b24 := gr_trans hb3 b34
 have kP := kept_block kP b24
 have kJ := kept_block kJ b24
 have b04 := gr_trans b02 b24
 have HZX := hide hb3.size
 generalize hX : w3.heap.size = X at *
 generalize hR : w1.heap.size = R at *
 generalize hB : w2.heap.size = base at *
 clear x0 x1 x2 oM hb3 b34 b24 b02 b12 b01
 obtain ⟨x0, x1, x2⟩ := cells3m kP
 go_wp2_with fail
 refine (specNetOk_any N _ (h.below b04) (by omega)).mono ?_
 rintro e w5 ⟨q, rfl, hq, hb5⟩
 have st := st.later hb5
 have kP := kept_block kP hb5
 have kJ := kept_block kJ hb5
 have b05 := gr_trans b04 hb5
 clear x0 x1 x2 b04 hb5 hw1 hw2 hw4
 have HSM := hide sM
 cases q
 ·have HNO : Hid (¬ NetOk N.brs N.ls N.ss) := hide (fun hc => by have := hq.2 hc; cases this)
  clear hq
  obtain ⟨x0, x1, x2⟩ := cells3m st.box
  obtain ⟨r0, r1, r2⟩ := cells3m kJ
  have f0 := frozen8 kJ 0
  have f1 := frozen8 kJ 1
  have f2 := frozen8 kJ 2
  have ne1 : ¬ R = X := by have := HZX.out; have := HZR.out; have := HZ.out; omega
  have ne2 : ¬ X = R := by have := HZX.out; have := HZR.out; have := HZ.out; omega
  have HO := hide ((st.own.out kJ).lt (base' := w.heap.size) (by have := HZ.out; omega))
  have HB := hide (below_out b05 (R := R) (by have := HZR.out; omega) (.slice M.ba M.bn M.bc) (.slice M.la M.ln M.lc) (.slice M.sa M.sn M.sc))
  clear st kP kJ b05
  go_wp2
  exact bodyPost_ret (v := .agg #[.slice M.ba M.bn M.bc, .slice M.la M.ln M.lc, .slice M.sa M.sn M.sc]) (by simp [results, Tryz.results21, go_sem, *]) rfl ⟨M, rfl, HO.out, ⟨HSM.out.l, fun hc => absurd hc HNO.out, fun _ => ⟨HSM.out.b, HSM.out.s⟩⟩, HB.out⟩
 ·have hOK : NetOk N.brs N.ls N.ss := hq.1 rfl
  clear hq
  have HOK := hide hOK
  clear hOK
  generalize hw6 : w5.alloc (Obj.cells #[] 99) = w6
  have b56 : Below w5.heap.size w5 w6 := by rw [← hw6]; exact below_one _ _
  have kY : w6.heap[w5.heap.size]? = some (.cells #[] 99) := by rw [← hw6]; exact block_last _ _
  obtain ⟨kX, stN, hBN⟩ := st.saidNew b56 (flat_empty sayF (base := base) kY st.size)
  obtain ⟨x0, x1, x2⟩ := cells3m kX
  have f2 := frozen8 kX 2
  have kP := kept_under kP hBN (by have := HZ.out; omega)
  have kJ := kept_under kJ hBN (by have := HZ.out; have := HZR.out; omega)
  have b07 := b05.trans (hBN.mono (by have := HZ.out; omega))
  generalize hYY : w5.heap.size = YY at *
  go_wp2_with fail
  generalize hw7 : w6.setCell ⟨X, 2, none⟩ (.slice (some ⟨YY, 0, none⟩) 0 0) = w7 at *
  have HSMB : Hid (∀ B ∈ N.brs, B.Sm) := hide (rows_sm h hm)
  have HBL : Hid (w.heap.size ≤ base) := hide (by have := HZ.out; omega)
  have HJB : Hid (w.heap.size < base ∧ R < base ∧ w.heap.size ≤ R) := hide (by have := HZ.out; have := HZR.out; omega)
  have HXR : Hid (base ≤ X) := HZX
  clear hw6 hw7 b56 kY x0 x1 x2 f2 kX st b05 hBN hX hR hB hYY HZ HZR HZX
  go_loopw [4] (fun i wr => ∃ (k : Nat) (M : NV), k ≤ N.ln ∧ i = .int .i64 k ∧ NbSt wr base X M ∧ wr.heap[w.heap.size]? = some (.cells #[.slice N.ba N.bn N.bc, .slice N.la N.ln N.lc, .slice N.sa N.sn N.sc] 34) ∧ wr.heap[R]? = some (.cells #[.slice none 0 0, .slice none 0 0, .slice none 0 0] 34) ∧ Below w.heap.size w wr ∧ (M.ls = N.ls ∧ M.ss = [] ∧ M.brs = roundTo N.brs N.ls k)) (fun i _ => N.ln - (intOf i).toNat)
  case atStart => exact ⟨0, _, Nat.zero_le _, rfl, stN, kP, kJ, b07, sM.l, rfl, sM.b⟩
  case round =>
   clear stN kP kJ b07 sM
   obtain ⟨k, M2, hk, rfl, st, kP, kJ, hB, hM⟩ := hrel
   have HM := hide hM
   clear hM
   obtain ⟨x0, x1, x2⟩ := cells3m kP
   by_cases hlt : k < N.ln
   ·obtain ⟨x, hx⟩ : ∃ x, N.ls[k]? = some x := ⟨_, List.getElem?_eq_getElem (by omega)⟩
    obtain ⟨hnab, u, v, hpa, hpb, -⟩ := (HOK.out.2.1.2 x (List.mem_of_getElem? hx)).1
    have hpa : portOf (N.bs.map BV.B) x.a x.p = some u := hpa
    have hpb : portOf (N.bs.map BV.B) x.b x.q = some v := hpb
    obtain ⟨i, y, hi, hy⟩ := end_there hpa
    obtain ⟨j, z, hj, hz⟩ := end_there hpb
    have hml : M2.bs.length = N.bs.length := by
     have e1 := congrArg List.length HM.out.2.2
     have e2 := ups_len (round_ups N.brs N.ls k)
     unfold NV.brs at e1 e2
     simp only [List.length_map] at e1 e2
     omega
    obtain ⟨y1, hy1⟩ := there_len hy hml
    have hsm1 := sm_rows st.own.row (by rw [HM.out.2.2]; exact round_all N.ls HSMB.out (fun B p v => less_sm (hear_less B p v)) k)
    have HX := hide hx
    have HY := hide hy
    have HZz := hide hz
    have HI := hide hi
    have HJ := hide hj
    have HY1 := hide hy1
    have HS1 := hide hsm1
    have HX2 : Hid (M2.ls[k]? = some x) := hide (by rw [HM.out.1]; exact hx)
    have HML := hide hml
    have i0 : (k : Int) < (N.ln : Int) := by omega
    clear hx hy hz hi hj hy1 hsm1 hml hpa hpb hnab
    go_wp2_with fail
    refine (specLinkUp_any N (k : Int) _ (h.below hB)).mono ?_
    rintro e w8 ⟨rfl, b8⟩
    have hB := gr_trans hB b8
    have st := st.later b8
    have kP := kept_block kP b8
    have kJ := kept_block kJ b8
    clear x0 x1 x2 b8
    obtain ⟨x0, x1, x2⟩ := cells3m kP
    generalize hU : linkUp _ _ _ = U
    cases U
    ·have HS : Hid (M2.brs = roundTo N.brs N.ls (k + 1)) := hide (by rw [HM.out.2.2]; exact (round_down hU).symm)
     have HST := hide st
     have HKP := hide kP
     have HKJ := hide kJ
     have HBN := hide hB
     clear st kP kJ hB x0 x1 x2 hU
     go_wp2
     go_roundw
     case rel => exact ⟨k + 1, M2, by omega, by go_num, HST.out, HKP.out, HKJ.out, HBN.out, HM.out.1, HM.out.2.1, HS.out⟩
     case measure => simp [intOf]; omega
    ·have HU := hide hU
     clear hU
     go_wp2_with fail
     refine (say14_back N k j x z _ (h.below hB) HX.out HZz.out HJ.out).mono ?_
     rintro e w9 ⟨rfl, b9⟩
     have hB := gr_trans hB b9
     have st := st.later b9
     have kP := kept_block kP b9
     have kJ := kept_block kJ b9
     clear x0 x1 x2 b9
     obtain ⟨x0, x1, x2⟩ := cells3m kP
     go_wp2_with fail
     refine (hear14_back M2 base X k i x y1 (sayV z.B.id z.B.ports x.q) _ st HX2.out HY1.out HI.out (HS1.out y1 (List.mem_of_getElem? HY1.out))).mono ?_
     rintro e w10 ⟨rfl, y2, hy2, st2, b10⟩
     have hB := hB.trans (b10.mono HBL.out)
     have kP := kept_under kP b10 HJB.out.1
     have kJ := kept_under kJ b10 HJB.out.2.1
     have HQ1 : Hid ((M2.bs.set i y2).map BV.B = atSet (roundTo N.brs N.ls k) x.a.toNat (fun B => hearB B x.p (sayAt N.brs x.b x.q))) := hide (by
      have e1 : sayAt N.brs x.b x.q = sayV z.B.id z.B.ports x.q := by rw [HJ.out]; exact say_there HZz.out x.q
      rw [e1, HI.out, ← HM.out.2.2]
      exact set_map (f := fun B => hearB B x.p (sayV z.B.id z.B.ports x.q)) HY1.out hy2)
     clear x0 x1 x2 b10 hy2 st
     obtain ⟨z1, hz1⟩ := there_len HZz.out (bs2 := M2.bs.set i y2) (by rw [List.length_set]; exact HML.out)
     have HZ1 := hide hz1
     have hsm2 := sm_rows st2.own.row (by
      show ∀ B ∈ (M2.bs.set i y2).map BV.B, B.Sm
      rw [HQ1.out]
      exact atSet_all (round_all N.ls HSMB.out (fun B p v => less_sm (hear_less B p v)) k) (fun B => less_sm (hear_less B _ _)))
     have HS2 := hide (hsm2 z1 (List.mem_of_getElem? hz1))
     clear hz1 hsm2
     obtain ⟨x0, x1, x2⟩ := cells3m kP
     go_wp2_with fail
     refine (say14_fwd N k i x y _ (h.below hB) HX.out HY.out HI.out).mono ?_
     rintro e w11 ⟨rfl, b11⟩
     have hB := gr_trans hB b11
     have st2 := st2.later b11
     have kP := kept_block kP b11
     have kJ := kept_block kJ b11
     clear x0 x1 x2 b11
     obtain ⟨x0, x1, x2⟩ := cells3m kP
     go_wp2_with fail
     refine (hear14_fwd _ base X k j x z1 (sayV y.B.id y.B.ports x.p) _ st2 HX2.out HZ1.out HJ.out HS2.out).mono ?_
     rintro e w12 ⟨rfl, z2, hz2, st3, b12⟩
     have hB := hB.trans (b12.mono HBL.out)
     have kP := kept_under kP b12 HJB.out.1
     have kJ := kept_under kJ b12 HJB.out.2.1
     have HQ2 : Hid (((M2.bs.set i y2).set j z2).map BV.B = roundTo N.brs N.ls (k + 1)) := hide (by
      have e1 : sayAt N.brs x.a x.p = sayV y.B.id y.B.ports x.p := by rw [HI.out]; exact say_there HY.out x.p
      show _ = roundOne N.brs N.ls (roundTo N.brs N.ls k) k
      rw [round_next HX.out HU.out, ← HQ1.out, e1, HJ.out]
      exact set_map (f := fun B => hearB B x.q (sayV y.B.id y.B.ports x.p)) HZ1.out hz2)
     have HST := hide st3
     have HKP := hide kP
     have HKJ := hide kJ
     have HBN := hide hB
     clear st2 st3 kP kJ hB x0 x1 x2 b12 hz2
     go_wp2
     go_roundw
     case rel => exact ⟨k + 1, _, by omega, by go_num, HST.out, HKP.out, HKJ.out, HBN.out, HM.out.1, HM.out.2.1, HQ2.out⟩
     case measure => simp [intOf]; omega
   ·have hkn : k = N.ln := by omega
    obtain ⟨y0, y1, y2⟩ := cells3m st.box
    obtain ⟨r0, r1, r2⟩ := cells3m kJ
    have f0 := frozen8 kJ 0
    have f1 := frozen8 kJ 1
    have f2 := frozen8 kJ 2
    have ne1 : ¬ R = X := by have := HXR.out; have := HJB.out; omega
    have ne2 : ¬ X = R := by have := HXR.out; have := HJB.out; omega
    have HO := hide ((st.own.out kJ).lt (base' := w.heap.size) HBL.out)
    have HB := hide (below_out hB (R := R) HJB.out.2.2 (.slice M2.ba M2.bn M2.bc) (.slice M2.la M2.ln M2.lc) (.slice M2.sa M2.sn M2.sc))
    have HE : Hid (M2.brs = roundTo N.brs N.ls N.ls.length) := hide (by rw [HM.out.2.2, hkn, hll])
    clear st kP kJ hB
    go_wp2
    exact bodyPost_ret (v := .agg #[.slice M2.ba M2.bn M2.bc, .slice M2.la M2.ln M2.lc, .slice M2.sa M2.sn M2.sc]) (by simp [results, Tryz.results21, go_sem, *]) rfl ⟨M2, rfl, HO.out, ⟨HM.out.1, fun _ => ⟨HE.out, HM.out.2.1⟩, fun hc => absurd HOK.out hc⟩, HB.out⟩

theorem BOs.boxedI {w w' : World} {base : Nat} {ao : Option Addr} {n cap : Nat} {l : List BV} (h : BOs w base ao n cap l) {X : Nat} {cs : Array Value} (hX : w.heap[X]? = some (.cells cs 79)) (hg : w.grownBy w' (some X)) : BOs w' base ao n cap l :=
 ⟨gown_other h.row hg (box_ne h.row hX (by decide)), fun x hx => (h.item x hx).other hX (by decide) (by decide) (by decide) (by decide) hg, h.apart⟩

theorem NOwn.boxedI {w w' : World} {base : Nat} {M : NV} (h : NOwn w base M) {X : Nat} {cs : Array Value} (hX : w.heap[X]? = some (.cells cs 79)) (hg : w.grownBy w' (some X)) : NOwn w' base M :=
 ⟨h.b.boxedI hX hg, gown_other h.l hg (box_ne h.l hX (by decide)), gown_other h.s hg (box_ne h.s hX (by decide))⟩

structure NiSt (w : World) (base X : Nat) (M : NV) : Prop where
 box : w.heap[X]? = some (.cells #[.slice M.ba M.bn M.bc, .slice M.la M.ln M.lc, .slice M.sa M.sn M.sc] 79)
 own : NOwn w base M
 le : base ≤ X

theorem NiSt.later {w w' : World} {base X : Nat} {M : NV} (h : NiSt w base X M) (hb : Below w.heap.size w w') : NiSt w' base X M := ⟨kept_block h.box hb, h.own.below hb, h.le⟩
theorem NiSt.size {w : World} {base X : Nat} {M : NV} (h : NiSt w base X M) : base ≤ w.heap.size := by have h1 := blk_lt h.box; have h2 := h.le; omega

theorem NiSt.put {w w1 w2 : World} {base X g : Nat} {M : NV} {pre post : List BV} {x y : BV} (h : NiSt w base X M) (hba : M.ba = some ⟨g, 0, none⟩) (hbs : M.bs = pre ++ x :: post) (hb : Below w.heap.size w w1) (hy : y.Own w1 w.heap.size) (hg : w1.grownBy w2 (some g)) (hr : w2.ownsRow base 67 11 (.slice (some ⟨g, 0, none⟩) M.bn M.bc) M.bn (brF.all (pre ++ y :: post))) :
  NiSt w2 base X { M with bs := pre ++ y :: post } ∧ Below base w w2 := by
 have ob : BOs w base (some ⟨g, 0, none⟩) M.bn M.bc (pre ++ x :: post) := by have := h.own.b; rw [hba, hbs] at this; exact this
 have hp := ob.put hb hy h.size hg hr
 have hrw := (ob.below hb).row
 have k1 := kept_grown (kept_block h.box hb) hg (fun k hk => box_ne hrw (kept_block h.box hb) (by decide) k hk)
 have ol := gown_type (gown_below h.own.l hb) hrw (by decide) (v2 := .slice (some ⟨g, 0, none⟩) M.bn M.bc) hg
 have os := gown_type (gown_below h.own.s hb) hrw (by decide) (v2 := .slice (some ⟨g, 0, none⟩) M.bn M.bc) hg
 have b1 : Below base w w1 := hb.mono h.size
 refine ⟨⟨k1, ⟨by rw [hba]; exact hp, ol, os⟩, h.le⟩, b1.grown hg (Nat.le_trans h.size hb.size) (by intro k e; cases e; exact (ob.row.lt g rfl).1)⟩

theorem NiSt.saidNew {w w1 : World} {base X : Nat} {M : NV} (h : NiSt w base X M) (hb : Below w.heap.size w w1) {ao : Option Addr} {n cap : Nat} {ss : List SY} (hr : w1.ownsRow base 99 7 (.slice ao n cap) n (sayF.all ss)) :
  w1.heap[X]? = some (.cells #[.slice M.ba M.bn M.bc, .slice M.la M.ln M.lc, .slice M.sa M.sn M.sc] 79) ∧ NiSt (w1.setCell ⟨X, 2, none⟩ (.slice ao n cap)) base X { M with sa := ao, sn := n, sc := cap, ss := ss } ∧ Below base w (w1.setCell ⟨X, 2, none⟩ (.slice ao n cap)) := by
 have h1 := h.later hb
 have k1 := h1.box
 have hgx : w1.grownBy (w1.setCell ⟨X, 2, none⟩ (.slice ao n cap)) (some X) := grown_set 2 _
 have nb := NOwn.boxedI (M := { M with sa := ao, sn := n, sc := cap, ss := ss }) ⟨h1.own.b, h1.own.l, hr⟩ k1 hgx
 have b1 : Below base w w1 := hb.mono h.size
 have hle := h.le
 refine ⟨k1, ⟨?_, nb, h.le⟩, b1.grown hgx (by have := blk_lt k1; omega) (by intro k e; cases e; omega)⟩
 have := set_block5 (j := 2) k1 (.slice ao n cap)
 simpa using this

theorem NiSt.push {w w1 w2 : World} {base X : Nat} {M : NV} (h : NiSt w base X M) (hb : Below w.heap.size w w1) {y : BV} (hy : y.Own w1 w.heap.size) (hg : w1.grownBy w2 (Value.slice M.ba M.bn M.bc).ownBlock) {ao' : Option Addr} {cap' : Nat} (hr : w2.ownsRow base 67 11 (.slice ao' (M.bn + 1) cap') (M.bn + 1) (brF.all (M.bs ++ [y]))) :
  w2.heap[X]? = some (.cells #[.slice M.ba M.bn M.bc, .slice M.la M.ln M.lc, .slice M.sa M.sn M.sc] 79) ∧ NiSt (w2.setCell ⟨X, 0, none⟩ (.slice ao' (M.bn + 1) cap')) base X { M with ba := ao', bn := M.bn + 1, bc := cap', bs := M.bs ++ [y] } ∧ Below base w (w2.setCell ⟨X, 0, none⟩ (.slice ao' (M.bn + 1) cap')) := by
 have hp := h.own.b.push hb hy h.size hg hr
 have ho := (h.own.below hb).rows hg hp
 have hrw := (h.own.b.below hb).row
 have k1 := kept_grown (kept_block h.box hb) hg (fun k hk => box_ne hrw (kept_block h.box hb) (by decide) k hk)
 have b1 : Below base w w1 := hb.mono h.size
 have b2 := b1.grown hg (Nat.le_trans h.size hb.size) (by intro k hk; exact (hrw.lt k hk).1)
 have hgx : w2.grownBy (w2.setCell ⟨X, 0, none⟩ (.slice ao' (M.bn + 1) cap')) (some X) := grown_set 0 _
 have hle := h.le
 refine ⟨k1, ⟨?_, ho.boxedI k1 hgx, hle⟩, b2.grown hgx (by have := blk_lt k1; omega) (by intro k e; cases e; omega)⟩
 have := set_block5 (j := 0) k1 (.slice ao' (M.bn + 1) cap')
 simpa using this

set_option maxRecDepth 100000 in
set_option maxHeartbeats 1000000 in
theorem cloneS_any (ao : Option Addr) (n cap : Nat) (l : List SY) (w : World) (h : GRow sayF w ao n cap l) (hn : n ≤ 16777216) :
  Calls Tryz.prog 71 #[.slice ao n cap] w fun r w' => ∃ ao' cap', r = .returned (.slice ao' n cap') ∧ w'.ownsRow w.heap.size 99 7 (.slice ao' n cap') n (sayF.all l) ∧ Below w.heap.size w w' := by
 cases ao with
 | none =>
  have hc0 := h.nil rfl
  have hn0 : n = 0 := by have := h.le; omega
  subst hc0 hn0
  have hl : l = [] := List.eq_nil_of_length_eq_zero h.size
  subst hl
  have heq : ∀ W, (binOp .eql 32 (.slice none 0 0) (.slice none 0 0)).run Tryz.prog W = .ok (.bool true) W := fun _ => by kernel_rfl
  go_enter Tryz.func71, Tryz.ntmps71
  go_wp2
  go_ret
  exact ⟨none, 0, rfl, World.ownsRow_nil _ _ _ _, Below.refl _ _⟩
 | some a =>
  have heq : ∀ W, (binOp .eql 32 (.slice (some a) n cap) (.slice none 0 0)).run Tryz.prog W = .ok (.bool false) W := fun _ => by kernel_rfl
  go_enter Tryz.func71, Tryz.ntmps71
  go_wp2_with (at_builtin; refine wpList_append_flat (F := sayF) _ rfl _ _ 32 99 rfl w.heap.size Tryz.underlying32 sayInfo rfl (by decide) _ 0 [] rfl (flat_nil sayF w _ 99 w.heap.size (block_last w _) (Nat.le_refl _)) (some a) n cap l rfl (h.below (below_one _ _)) (by omega) (by simp) ?_)
  intro ao' cap' w' how hr hgr hb
  have how : w'.ownsRow w.heap.size 99 7 (.slice ao' n cap') n (sayF.all l) := how
  have HO := hide how
  have HB := hide ((below_one w _).trans hb)
  clear how hgr hb hr
  go_wp2
  go_ret
  exact ⟨ao', cap', (by simp), HO.out, HB.out⟩

theorem made_set2 {W : World} {X : Nat} {c0 c1 : Value} {T : TypeId} {K : World → Prop} (hk : W.heap[X]? = some (.cells #[c0, c1] T)) (v0 v1 : Value) (h : ∀ wq, wq.heap[X]? = some (.cells #[v0, v1] T) → W.grownBy wq (some X) → K wq) : K ((W.setCell ⟨X, 0, none⟩ v0).setCell ⟨X, 1, none⟩ v1) := by
 refine h _ ?_ (grownTr (grown_set 0 _) (grown_set 1 _))
 have h1 := set_block5 (j := 1) (set_block5 (j := 0) hk v0) v1
 simpa using h1

structure Way (x : LK) (back : Bool) (fb fp tb tp : Int) : Prop where
 yes : back = true → fb = x.b ∧ fp = x.q ∧ tb = x.a ∧ tp = x.p
 no : back = false → fb = x.a ∧ fp = x.p ∧ tb = x.b ∧ tp = x.q

set_option maxRecDepth 100000 in
set_option maxHeartbeats 4000000 in
theorem wayOf_any (x : LK) (back : Bool) (fb fp tb tp : Int) (w : World) (hw : Way x back fb fp tb tp) :
  Calls Tryz.prog 103 #[.agg #[.int .i64 x.a, .int .i64 x.p, .int .i64 x.b, .int .i64 x.q], .bool back] w fun e w' => e = .returned (.tuple #[.agg #[.int .i64 fb, .int .i64 fp], .agg #[.int .i64 tb, .int .i64 tp]]) ∧ Below w.heap.size w w' := by
 generalize hw1 : w.alloc (Obj.cells #[.int .i64 x.a, .int .i64 x.p, .int .i64 x.b, .int .i64 x.q] 110) = w1
 generalize hw2 : w1.alloc (Obj.cells #[.int .i64 0, .int .i64 0] 148) = w2
 generalize hw3 : w2.alloc (Obj.cells #[.int .i64 0, .int .i64 0] 148) = w3
 have b01 : Below w.heap.size w w1 := by rw [← hw1]; exact below_one _ _
 have b12 : Below w1.heap.size w1 w2 := by rw [← hw2]; exact below_one _ _
 have b23 : Below w2.heap.size w2 w3 := by rw [← hw3]; exact below_one _ _
 have b13 := gr_trans b12 b23
 have k0 : w3.heap[w.heap.size]? = some (.cells #[.int .i64 x.a, .int .i64 x.p, .int .i64 x.b, .int .i64 x.q] 110) := kept_block (by rw [← hw1]; exact block_last _ _) b13
 have k1 : w3.heap[w1.heap.size]? = some (.cells #[.int .i64 0, .int .i64 0] 148) := kept_block (by rw [← hw2]; exact block_last _ _) b23
 have k2 : w3.heap[w2.heap.size]? = some (.cells #[.int .i64 0, .int .i64 0] 148) := by rw [← hw3]; exact block_last _ _
 have b03 := gr_trans b01 b13
 have HZ : Hid (w1.heap.size = w.heap.size + 1 ∧ w2.heap.size = w.heap.size + 2) := hide ⟨by rw [← hw1]; simp, by rw [← hw2, ← hw1]; simp⟩
 have HZ3 : Hid (w3.heap.size = w.heap.size + 3) := hide (by rw [← hw3, ← hw2, ← hw1]; simp)
 obtain ⟨x0, x1, x2, x3⟩ := cells4n k0
 go_enter Tryz.func103, Tryz.ntmps103
 go_wp2_with fail
 refine (endsOf_any x _).mono ?_
 rintro e we ⟨rfl, hbe⟩
 generalize hwq : we.alloc (Obj.cells #[.int .i64 x.a, .int .i64 x.p, .int .i64 x.b, .int .i64 x.q] 174) = wq
 have bq : Below we.heap.size we wq := by rw [← hwq]; exact below_one _ _
 have kE : wq.heap[we.heap.size]? = some (.cells #[.int .i64 x.a, .int .i64 x.p, .int .i64 x.b, .int .i64 x.q] 174) := by rw [← hwq]; exact block_last _ _
 have bq := gr_trans hbe bq
 have k1 := kept_block k1 bq
 have k2 := kept_block k2 bq
 have b0 := gr_trans b03 bq
 have HZ4 : Hid (w.heap.size + 3 ≤ we.heap.size) := hide (by have := hbe.size; have := HZ3.out; omega)
 clear x0 x1 x2 x3 hbe k0 hw1 hw2 hw3 b01 b12 b23 b13 b03
 cases back
 ·obtain ⟨rfl, rfl, rfl, rfl⟩ := hw.no rfl
  clear hw
  go_upto_region 4 with fail
  clear hwq
  have vv : Below wq.heap.size wq wq.drew := gr_drew (Below.refl _ _)
  have bb := gr_trans b0 vv
  obtain ⟨p0, p1⟩ := cells2n k1
  obtain ⟨p2, p3⟩ := cells2n k2
  have p4 := frozen8 k1 0
  have p5 := frozen8 k1 1
  have p6 := frozen8 k2 0
  have p7 := frozen8 k2 1
  have k1 := kept_block k1 vv
  have k2 := kept_block k2 vv
  have kE := kept_block kE vv
  clear b0 bq vv
  refine wp_region_held_drew (S := (fun W => (W.cell? ⟨we.heap.size, 0, none⟩ = some (.int .i64 x.a) ∧ W.cell? ⟨we.heap.size, 1, none⟩ = some (.int .i64 x.p) ∧ W.cell? ⟨we.heap.size, 2, none⟩ = some (.int .i64 x.b) ∧ W.cell? ⟨we.heap.size, 3, none⟩ = some (.int .i64 x.q)))) (by kernel_rfl) (cells4n kE) (fun hHeld => ?_)
  refine kK 0 ⟨some 14, .indexAddr 174 (.tmp 6) (.const (.int .i64 0)), 0, "l14_step.go:175", #[], none⟩ ?_
  refine kK 1 ⟨some 15, .load 148 (.tmp 14), 148, "l14_step.go:175", #[⟨0, .data⟩], none⟩ ?_
  refine kK 2 ⟨some 16, .indexAddr 174 (.tmp 6) (.const (.int .i64 1)), 0, "l14_step.go:175", #[{ on := 4, ground := Ground.gcOnly Departure.lateStores }], none⟩ ?_
  refine kK 3 ⟨some 17, .load 148 (.tmp 16), 148, "l14_step.go:175", #[⟨2, .data⟩, { on := 4, ground := Ground.gcOnly Departure.lateStores }], none⟩ ?_
  refine kR 4 ⟨none, .store 148 (.tmp 4) (.tmp 15), 0, "l14_step.go:175", #[⟨1, .data⟩, ⟨0, .phase⟩, ⟨1, .phase⟩, { on := 2, ground := Ground.textOnly Departure.lateStores }, { on := 3, ground := Ground.textOnly Departure.lateStores }], none⟩ (fun K hK => ?_)
  obtain ⟨xx0, xx1⟩ := cells2n k1
  have ff0 := frozen8 k1 0
  have ff1 := frozen8 k1 1
  go_simp
  refine made_set2 (K := K _) k1 _ _ (fun wq kQ hgq => ?_)
  have bb := bb.grown hgq bb.size (by intro j e; cases e; have := HZ.out; omega)
  have kE := kept_grown kE hgq (by intro j e; cases e; have := HZ.out; have := HZ4.out; omega)
  try have k2 := kept_grown k2 hgq (by intro j e; cases e; have := HZ.out; omega)
  try have kA := kept_grown kA hgq (by intro j e; cases e; have := HZ.out; omega)
  try have kB := kept_grown kB hgq (by intro j e; cases e; have := HZ.out; omega)
  have kA := kQ
  clear hgq kQ xx0 xx1 ff0 ff1
  refine hK.out _ _ (cells4n kE) (fun hHeld => ?_)
  clear hK K
  try simp only [Act.put, lA, lB, lC]
  refine kR 5 ⟨none, .store 148 (.tmp 5) (.tmp 17), 0, "l14_step.go:175", #[⟨3, .data⟩, ⟨4, .chain⟩, ⟨0, .phase⟩, ⟨1, .phase⟩, ⟨2, .phase⟩, ⟨3, .phase⟩, ⟨4, .phase⟩], none⟩ (fun K hK => ?_)
  obtain ⟨xx0, xx1⟩ := cells2n k2
  have ff0 := frozen8 k2 0
  have ff1 := frozen8 k2 1
  go_simp
  refine made_set2 (K := K _) k2 _ _ (fun wq kQ hgq => ?_)
  have bb := bb.grown hgq bb.size (by intro j e; cases e; have := HZ.out; omega)
  have kE := kept_grown kE hgq (by intro j e; cases e; have := HZ.out; have := HZ4.out; omega)
  try have k1 := kept_grown k1 hgq (by intro j e; cases e; have := HZ.out; omega)
  try have kA := kept_grown kA hgq (by intro j e; cases e; have := HZ.out; omega)
  try have kB := kept_grown kB hgq (by intro j e; cases e; have := HZ.out; omega)
  have kB := kQ
  clear hgq kQ xx0 xx1 ff0 ff1
  refine hK.out _ _ (cells4n kE) (fun hHeld => ?_)
  clear hK K
  try simp only [Act.put, lA, lB, lC]
  refine wpAnyH_done (by kernel_rfl) ?_ _
  have HB := hide bb
  obtain ⟨r0, r1⟩ := cells2n kA
  obtain ⟨t0, t1⟩ := cells2n kB
  clear hHeld kE k1 k2 kA kB bb
  go_wp2
  exact bodyPost_ret (v := .tuple #[.agg #[.int .i64 x.a, .int .i64 x.p], .agg #[.int .i64 x.b, .int .i64 x.q]]) (by simp [results, Tryz.results103, go_sem, *]) rfl ⟨rfl, HB.out⟩
 ·obtain ⟨rfl, rfl, rfl, rfl⟩ := hw.yes rfl
  clear hw
  go_upto_region 3 with fail
  clear hwq
  have vv : Below wq.heap.size wq wq.drew := gr_drew (Below.refl _ _)
  have bb := gr_trans b0 vv
  obtain ⟨p0, p1⟩ := cells2n k1
  obtain ⟨p2, p3⟩ := cells2n k2
  have p4 := frozen8 k1 0
  have p5 := frozen8 k1 1
  have p6 := frozen8 k2 0
  have p7 := frozen8 k2 1
  have k1 := kept_block k1 vv
  have k2 := kept_block k2 vv
  have kE := kept_block kE vv
  clear b0 bq vv
  refine wp_region_held_drew (S := (fun W => (W.cell? ⟨we.heap.size, 0, none⟩ = some (.int .i64 x.a) ∧ W.cell? ⟨we.heap.size, 1, none⟩ = some (.int .i64 x.p) ∧ W.cell? ⟨we.heap.size, 2, none⟩ = some (.int .i64 x.b) ∧ W.cell? ⟨we.heap.size, 3, none⟩ = some (.int .i64 x.q)))) (by kernel_rfl) (cells4n kE) (fun hHeld => ?_)
  refine kK 0 ⟨some 10, .indexAddr 174 (.tmp 6) (.const (.int .i64 1)), 0, "l14_step.go:173", #[], none⟩ ?_
  refine kK 1 ⟨some 11, .load 148 (.tmp 10), 148, "l14_step.go:173", #[⟨0, .data⟩], none⟩ ?_
  refine kK 2 ⟨some 12, .indexAddr 174 (.tmp 6) (.const (.int .i64 0)), 0, "l14_step.go:173", #[{ on := 4, ground := Ground.gcOnly Departure.lateStores }], none⟩ ?_
  refine kK 3 ⟨some 13, .load 148 (.tmp 12), 148, "l14_step.go:173", #[⟨2, .data⟩, { on := 4, ground := Ground.gcOnly Departure.lateStores }], none⟩ ?_
  refine kR 4 ⟨none, .store 148 (.tmp 4) (.tmp 11), 0, "l14_step.go:173", #[⟨1, .data⟩, ⟨0, .phase⟩, ⟨1, .phase⟩, { on := 2, ground := Ground.textOnly Departure.lateStores }, { on := 3, ground := Ground.textOnly Departure.lateStores }], none⟩ (fun K hK => ?_)
  obtain ⟨xx0, xx1⟩ := cells2n k1
  have ff0 := frozen8 k1 0
  have ff1 := frozen8 k1 1
  go_simp
  refine made_set2 (K := K _) k1 _ _ (fun wq kQ hgq => ?_)
  have bb := bb.grown hgq bb.size (by intro j e; cases e; have := HZ.out; omega)
  have kE := kept_grown kE hgq (by intro j e; cases e; have := HZ.out; have := HZ4.out; omega)
  try have k2 := kept_grown k2 hgq (by intro j e; cases e; have := HZ.out; omega)
  try have kA := kept_grown kA hgq (by intro j e; cases e; have := HZ.out; omega)
  try have kB := kept_grown kB hgq (by intro j e; cases e; have := HZ.out; omega)
  have kA := kQ
  clear hgq kQ xx0 xx1 ff0 ff1
  refine hK.out _ _ (cells4n kE) (fun hHeld => ?_)
  clear hK K
  try simp only [Act.put, lA, lB, lC]
  refine kR 5 ⟨none, .store 148 (.tmp 5) (.tmp 13), 0, "l14_step.go:173", #[⟨3, .data⟩, ⟨4, .chain⟩, ⟨0, .phase⟩, ⟨1, .phase⟩, ⟨2, .phase⟩, ⟨3, .phase⟩, ⟨4, .phase⟩], none⟩ (fun K hK => ?_)
  obtain ⟨xx0, xx1⟩ := cells2n k2
  have ff0 := frozen8 k2 0
  have ff1 := frozen8 k2 1
  go_simp
  refine made_set2 (K := K _) k2 _ _ (fun wq kQ hgq => ?_)
  have bb := bb.grown hgq bb.size (by intro j e; cases e; have := HZ.out; omega)
  have kE := kept_grown kE hgq (by intro j e; cases e; have := HZ.out; have := HZ4.out; omega)
  try have k1 := kept_grown k1 hgq (by intro j e; cases e; have := HZ.out; omega)
  try have kA := kept_grown kA hgq (by intro j e; cases e; have := HZ.out; omega)
  try have kB := kept_grown kB hgq (by intro j e; cases e; have := HZ.out; omega)
  have kB := kQ
  clear hgq kQ xx0 xx1 ff0 ff1
  refine hK.out _ _ (cells4n kE) (fun hHeld => ?_)
  clear hK K
  try simp only [Act.put, lA, lB, lC]
  refine wpAnyH_done (by kernel_rfl) ?_ _
  have HB := hide bb
  obtain ⟨r0, r1⟩ := cells2n kA
  obtain ⟨t0, t1⟩ := cells2n kB
  clear hHeld kE k1 k2 kA kB bb
  go_wp2
  exact bodyPost_ret (v := .tuple #[.agg #[.int .i64 x.b, .int .i64 x.q], .agg #[.int .i64 x.a, .int .i64 x.p]]) (by simp [results, Tryz.results103, go_sem, *]) rfl ⟨rfl, HB.out⟩

set_option maxRecDepth 100000 in
set_option maxHeartbeats 8000000 in
theorem sayOn_any (N : NV) (k i : Nat) (x : LK) (y : BV) (back : Bool) (fp tb tp : Int) (w : World) (h : NetRow w N) (hx : N.ls[k]? = some x) (hy0 : N.bs[i]? = some y) (hwy : Way x back (i : Int) fp tb tp) :
  Calls Tryz.prog 56 #[.agg #[.slice N.ba N.bn N.bc, .slice N.la N.ln N.lc, .slice N.sa N.sn N.sc], .int .i64 (k : Int), .bool back] w fun e w' => e = .returned (.agg #[.int .i64 (k : Int), .bool back, .int .i64 (sayV y.B.id y.B.ports fp).r, .int .i64 (sayV y.B.id y.B.ports fp).c, .int .i64 (sayV y.B.id y.B.ports fp).h, .int .i64 (sayV y.B.id y.B.ports fp).b, .int .i64 (sayV y.B.id y.B.ports fp).p]) ∧ Below w.heap.size w w' := by
 have hk : k < N.ln := by have := (List.getElem?_eq_some_iff.1 hx).1; have := h.l.size; omega
 have hib : i < N.bn := by have := (List.getElem?_eq_some_iff.1 hy0).1; have := h.b.size; omega
 have hle := Nat.le_trans h.b.le h.b.top
 unfold maxLen at hle
 generalize hw1 : w.alloc (Obj.cells #[.slice N.ba N.bn N.bc, .slice N.la N.ln N.lc, .slice N.sa N.sn N.sc] 34) = w1
 generalize hw2 : w1.alloc (Obj.cells #[.int .i64 0, .bool false, .int .i64 0, .int .i64 0, .int .i64 0, .int .i64 0, .int .i64 0] 99) = w2
 have b01 : Below w.heap.size w w1 := by rw [← hw1]; exact below_one _ _
 have b12 : Below w1.heap.size w1 w2 := by rw [← hw2]; exact below_one _ _
 have b02 := gr_trans b01 b12
 have kP : w2.heap[w.heap.size]? = some (.cells #[.slice N.ba N.bn N.bc, .slice N.la N.ln N.lc, .slice N.sa N.sn N.sc] 34) := kept_block (by rw [← hw1]; exact block_last _ _) b12
 have kJ : w2.heap[w1.heap.size]? = some (.cells #[.int .i64 0, .bool false, .int .i64 0, .int .i64 0, .int .i64 0, .int .i64 0, .int .i64 0] 99) := by rw [← hw2]; exact block_last _ _
 have HZ1 : Hid (w1.heap.size = w.heap.size + 1) := hide (by rw [← hw1]; simp)
 have HZ2 : Hid (w2.heap.size = w.heap.size + 2) := hide (by rw [← hw2, ← hw1]; simp)
 obtain ⟨x', lb, lo, hx', hla, a0, a1, a2, a3⟩ := link_at (h.l.below b02) k hk
 rw [hx] at hx'
 cases hx'
 obtain ⟨y', bb, off, hy', hba, -⟩ := br_at h.b i hib
 rw [hy0] at hy'
 cases hy'
 have hy := h.item y (List.mem_of_getElem? hy0)
 have hG : GRow brF w (some ⟨bb, off, none⟩) N.bn N.bc N.bs := by rw [← hba]; exact h.b
 have HBC : Hid (∀ W, Below w.heap.size w W → W.cell? ⟨bb, off + i * 11, none⟩ = some (.int .i64 y.B.id) ∧ W.cell? ⟨bb, off + i * 11 + 2, none⟩ = some (.slice y.a y.n y.c)) := hide (fun W hW => by have := bridge_later hG hW hy0; exact ⟨this.1, this.2.2.1⟩)
 have HBA := hide hba
 obtain ⟨x0, x1, x2⟩ := cells3m kP
 rw [hla] at x1
 have i1 : (0 : Int) ≤ (k : Int) := by omega
 have i2 : (k : Int) < (N.ln : Int) := by omega
 clear hla hba hx hy0 hG b01 b12
 go_enter Tryz.func56, Tryz.ntmps56
 go_wp2_with fail
 refine (wayOf_any x back (i : Int) fp tb tp _ hwy).mono ?_
 rintro e w4 ⟨rfl, b24⟩
 generalize hz5 : w4.alloc (Obj.cells #[.int .i64 0, .int .i64 0] 148) = z5
 generalize hz6 : z5.alloc (Obj.cells #[.int .i64 0, .int .i64 0] 148) = z6
 have b45 : Below w4.heap.size w4 z5 := by rw [← hz5]; exact below_one _ _
 have b56 : Below z5.heap.size z5 z6 := by rw [← hz6]; exact below_one _ _
 have kF : z6.heap[w4.heap.size]? = some (.cells #[.int .i64 0, .int .i64 0] 148) := kept_block (by rw [← hz5]; exact block_last _ _) b56
 have kG : z6.heap[z5.heap.size]? = some (.cells #[.int .i64 0, .int .i64 0] 148) := by rw [← hz6]; exact block_last _ _
 have HZ5 : Hid (z5.heap.size = w4.heap.size + 1) := hide (by rw [← hz5]; simp)
 obtain ⟨p0, p1⟩ := cells2n kF
 obtain ⟨p2, p3⟩ := cells2n kG
 have p4 := frozen8 kF 0
 have p5 := frozen8 kF 1
 have p6 := frozen8 kG 0
 have p7 := frozen8 kG 1
 have ne1 : ¬ w4.heap.size = z5.heap.size := by have := HZ5.out; omega
 have ne2 : ¬ z5.heap.size = w4.heap.size := by have := HZ5.out; omega
 have b26 := gr_trans b24 (gr_trans b45 b56)
 have kP := kept_block kP b26
 have kJ := kept_block kJ b26
 have b06 := gr_trans b02 b26
 have HZ4 : Hid (w.heap.size + 2 ≤ w4.heap.size) := hide (by have := b24.size; have := HZ2.out; omega)
 clear x0 x1 x2 a0 a1 a2 a3 b24 b45 b56 b26 b02 hw1 hw2
 go_upto_region 2 with fail
 generalize hw6 : (((z6.setCell ⟨w4.heap.size, 0, none⟩ (.int .i64 (i : Int))).setCell ⟨w4.heap.size, 1, none⟩ (.int .i64 fp)).setCell ⟨z5.heap.size, 0, none⟩ (.int .i64 tb)).setCell ⟨z5.heap.size, 1, none⟩ (.int .i64 tp) = w6
 obtain ⟨w5, hw5⟩ : ∃ w5 : World, w5 = (z6.setCell ⟨w4.heap.size, 0, none⟩ (.int .i64 (i : Int))).setCell ⟨w4.heap.size, 1, none⟩ (.int .i64 fp) := ⟨_, rfl⟩
 have kF5 : w5.heap[w4.heap.size]? = some (.cells #[.int .i64 (i : Int), .int .i64 fp] 148) := by rw [hw5]; exact made_set2 (K := fun W => W.heap[w4.heap.size]? = some (.cells #[.int .i64 (i : Int), .int .i64 fp] 148)) kF _ _ (fun wq kQ _ => kQ)
 have hgA : z6.grownBy w5 (some w4.heap.size) := by rw [hw5]; exact grownTr (grown_set 0 _) (grown_set 1 _)
 have hgB : w5.grownBy w6 (some z5.heap.size) := by rw [← hw6, ← hw5]; exact grownTr (grown_set 0 _) (grown_set 1 _)
 have kF := kept_grown kF5 hgB (by intro j e; cases e; exact ne2)
 have kP := kept_grown (kept_grown kP hgA (by intro j e; cases e; have := HZ4.out; omega)) hgB (by intro j e; cases e; have := HZ4.out; have := HZ5.out; omega)
 have kJ := kept_grown (kept_grown kJ hgA (by intro j e; cases e; have := HZ4.out; have := HZ1.out; omega)) hgB (by intro j e; cases e; have := HZ4.out; have := HZ5.out; have := HZ1.out; omega)
 have b06 := (b06.grown hgA b06.size (by intro j e; cases e; have := HZ4.out; omega)).grown hgB (Nat.le_trans b06.size hgA.size) (by intro j e; cases e; have := HZ4.out; have := HZ5.out; omega)
 clear hw6 hw5 hgA hgB kF5 p0 p1 p2 p3 p4 p5 p6 p7 kG hz5 hz6 ne1 ne2
 obtain ⟨x0, x1, x2⟩ := cells3m kP
 obtain ⟨e0, e1⟩ := cells2n kF
 go_wp2_with fail
 refine (bridgeAt_yes N i bb off _ hle hib HBA.out).mono ?_
 rintro e w7 ⟨rfl, b67⟩
 have kF := kept_block kF b67
 have kJ := kept_block kJ b67
 have b0 := gr_trans b06 b67
 clear x0 x1 x2 e0 e1 b67 b06 kP hwy
 have vv : Below w7.heap.size w7 w7.drew := gr_drew (Below.refl _ _)
 have kF := kept_block kF vv
 have kJ := kept_block kJ vv
 have hc := HBC.out _ (gr_trans b0 vv)
 go_upto_region 3 with fail
 refine wp_region_held_drew (S := (fun W => (W.cell? ⟨w4.heap.size, 0, none⟩ = some (.int .i64 (i : Int)) ∧ W.cell? ⟨w4.heap.size, 1, none⟩ = some (.int .i64 fp)) ∧ (W.cell? ⟨bb, off + i * 11, none⟩ = some (.int .i64 y.B.id) ∧ W.cell? ⟨bb, off + i * 11 + 2, none⟩ = some (.slice y.a y.n y.c)))) (by kernel_rfl) (⟨cells2n kF, hc⟩) (fun hHeld => ?_)
 refine kK 0 ⟨some 24, .move (.tmp 1), 3, "l14_step.go:182", #[], none⟩ ?_
 refine kK 1 ⟨some 25, .move (.tmp 2), 4, "l14_step.go:182", #[], none⟩ ?_
 refine kK 2 ⟨some 26, .move (.tmp 9), 151, "l14_step.go:182", #[], none⟩ ?_
 refine kK 3 ⟨some 27, .nilCheck (.tmp 26), 0, "l14_step.go:182", #[⟨2, .data⟩], none⟩ ?_
 refine kK 4 ⟨some 28, .fieldAddr 67 (.tmp 27) 0, 0, "l14_step.go:182", #[⟨3, .data⟩], none⟩ ?_
 refine kK 5 ⟨some 29, .load 3 (.tmp 28), 3, "l14_step.go:182", #[⟨4, .data⟩], none⟩ ?_
 refine kK 6 ⟨some 30, .move (.tmp 9), 151, "l14_step.go:182", #[], none⟩ ?_
 refine kK 7 ⟨some 31, .nilCheck (.tmp 30), 0, "l14_step.go:182", #[⟨6, .data⟩], none⟩ ?_
 refine kK 8 ⟨some 32, .fieldAddr 67 (.tmp 31) 2, 0, "l14_step.go:182", #[⟨7, .data⟩], none⟩ ?_
 refine kK 9 ⟨some 33, .load 60 (.tmp 32), 60, "l14_step.go:182", #[⟨8, .data⟩], none⟩ ?_
 refine kK 10 ⟨some 34, .fieldAddr 148 (.tmp 7) 1, 0, "l14_step.go:182", #[], none⟩ ?_
 refine kK 11 ⟨some 35, .load 3 (.tmp 34), 3, "l14_step.go:182", #[⟨10, .data⟩], none⟩ ?_
 refine kR 12 ⟨some 36, .call ⟨.value (.func 106), #[.tmp 29, .tmp 33, .tmp 35], #[3, 60, 3]⟩, 95, "l14_step.go:182", #[⟨5, .data⟩, ⟨9, .data⟩, ⟨11, .data⟩], none⟩ (fun K hK => ?_)
 go_simp
 refine (implSayVec_any y.B.id y.a y.n y.c y.B.ports fp _ (hy.ports.below (gr_trans b0 vv))).mono ?_
 rintro e wz ⟨rfl, hbz⟩
 have vv := gr_trans vv hbz
 have kF := kept_block kF hbz
 have kJ := kept_block kJ hbz
 have hc := HBC.out _ (gr_trans b0 vv)
 generalize hSV : sayV y.B.id y.B.ports fp = SV at *
 go_wp2_with fail
 refine hK.out _ _ (⟨cells2n kF, hc⟩) (fun hHeld => ?_)
 clear hK K
 try simp only [Act.put, lA, lB, lC]
 refine kK 13 ⟨some 37, .build 99 #[(0, .tmp 24), (1, .tmp 25), (2, .tmp 36)], 99, "l14_step.go:182", #[⟨0, .data⟩, ⟨1, .data⟩, ⟨12, .data⟩], none⟩ ?_
 refine kR 14 ⟨none, .store 99 (.tmp 6) (.tmp 37), 0, "l14_step.go:182", #[⟨13, .data⟩, ⟨12, .chain⟩, ⟨0, .phase⟩, ⟨1, .phase⟩, ⟨2, .phase⟩, ⟨3, .phase⟩, ⟨4, .phase⟩, ⟨5, .phase⟩, ⟨6, .phase⟩, ⟨7, .phase⟩, ⟨8, .phase⟩, ⟨9, .phase⟩, ⟨10, .phase⟩, ⟨11, .phase⟩, ⟨12, .phase⟩, ⟨13, .phase⟩], none⟩ (fun K hK => ?_)
 obtain ⟨xx0, xx1, xx2, xx3, xx4, xx5, xx6⟩ := cells7 kJ
 have ff0 := frozen8 kJ 0
 have ff1 := frozen8 kJ 1
 have ff2 := frozen8 kJ 2
 have ff3 := frozen8 kJ 3
 have ff4 := frozen8 kJ 4
 have ff5 := frozen8 kJ 5
 have ff6 := frozen8 kJ 6
 go_simp
 refine made_set7 (K := K _) kJ _ _ _ _ _ _ _ (fun wq kQ hgq => ?_)
 have bq := (gr_trans b0 vv).grown hgq (gr_trans b0 vv).size (by intro j e; cases e; have := HZ1.out; omega)
 have kF := kept_grown kF hgq (by intro j e; cases e; have := HZ1.out; have := HZ4.out; omega)
 have hc := HBC.out _ bq
 refine hK.out _ _ (⟨cells2n kF, hc⟩) (fun hHeld => ?_)
 clear hK K
 try simp only [Act.put, lA, lB, lC]
 refine wpAnyH_done (by kernel_rfl) ?_ _
 have HB := hide bq
 obtain ⟨r0, r1, r2, r3, r4, r5, r6⟩ := cells7 kQ
 clear hHeld kF kQ hgq bq vv hc kJ xx0 xx1 xx2 xx3 xx4 xx5 xx6 ff0 ff1 ff2 ff3 ff4 ff5 ff6
 go_wp2
 exact bodyPost_ret (v := .agg #[.int .i64 (k : Int), .bool back, .int .i64 SV.r, .int .i64 SV.c, .int .i64 SV.h, .int .i64 SV.b, .int .i64 SV.p]) (by simp [results, Tryz.results56, go_sem, *]) rfl ⟨by rw [hSV], HB.out⟩

end Go.Proofs.YtpgdahenmpkcnaaGreat
