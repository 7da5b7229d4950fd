/-
  FnExactJoined answers true at all arguments: Joined answers as the specification; it writes into no argument; its answer owns its memory, behind another call too.
-/
import Derived.Test.YtgmkhoakindpkaaPJKW
import Derived.Test.YtgmkhoakindpkaaPJK01
import Derived.Test.YtgmkhoakindpkaaPJK02
import Derived.Test.YtgmkhoakindpkaaPJK11
import Derived.Test.YtgmkhoakindpkaaPJK12
import Derived.Test.YtgmkhoakindpkaaPJK13
import Derived.WalkKit
import Derived.ProofKit
import Derived.OpenShut
import Derived.ShutString
import Derived.ChangeOld
import Derived.Below
import Derived.Lib.SmallJoins
namespace Go.Proofs.Ytgmkhoakindpkaa
open Go.RowKit

theorem specJoined_l (N : NV) (kb : Int) (a : Option Addr) (ln0 c : Nat) (zl LL : List Int) (w : World) (h : NetRow w N) (hl : GRow intF w a ln0 c zl) (hL : LL = joined N.bn N.ls kb zl) (hbn : N.bn ≤ 1048576) (_hn : ln0 ≤ 1048576) :
  Calls Try.prog 17 #[.agg #[.slice N.ba N.bn N.bc, .slice N.la N.ln N.lc, .slice N.sa N.sn N.sc], .int .i64 kb, .slice a ln0 c] w fun e w' => ∃ ao cap, e = .returned (.slice ao LL.length cap) ∧ w'.ownsRow w.heap.size 3 1 (.slice ao LL.length cap) LL.length (cI LL) ∧ Below w.heap.size w w' := by
 refine (specJoined_made N kb a ln0 c zl w h hl hbn).mono ?_
 rintro e w' ⟨ao, cap, rfl, ho, hb⟩
 rw [← hL] at ho ⊢
 exact ⟨ao, cap, rfl, by rw [← intF_all]; exact ho, hb⟩

theorem implJoined_l (N : NV) (kb : Int) (a : Option Addr) (ln0 c : Nat) (zl LL : List Int) (w : World) (h : NetRow w N) (hl : GRow intF w a ln0 c zl) (hL : LL = joined N.bn N.ls kb zl) (hbn : N.bn ≤ 1048576) (hn : ln0 ≤ 1048576) :
  Calls Try.prog 19 #[.agg #[.slice N.ba N.bn N.bc, .slice N.la N.ln N.lc, .slice N.sa N.sn N.sc], .int .i64 kb, .slice a ln0 c] w fun e w' => ∃ ao cap, e = .returned (.slice ao LL.length cap) ∧ w'.ownsRow w.heap.size 3 1 (.slice ao LL.length cap) LL.length (cI LL) ∧ Below w.heap.size w w' := by
 refine (implJoined_made N kb a ln0 c zl w h hl hn hbn).mono ?_
 rintro e w' ⟨ao, cap, rfl, ho, hb⟩
 rw [← hL] at ho ⊢
 exact ⟨ao, cap, rfl, by rw [← intF_all]; exact ho, hb⟩

theorem same_bn {N M : NV} {w0 w : World} (h : NetRow w M) (h0 : NetRow w0 N) (s : M.Same N) : M.bn = N.bn := by
 have h1 := congrArg List.length s.b
 rw [List.length_map, List.length_map] at h1
 have h2 := h.b.size
 have h3 := h0.b.size
 omega
theorem joined_in (nb : Nat) (ls : List LK) (b : Int) (l : List Int) : (joined nb ls b l).length ≤ nb ∧ ∀ z ∈ joined nb ls b l, 0 ≤ z ∧ z < (nb : Int) := by
 unfold joined
 split
 ·exact ⟨join_len _ _, fun z hz => (join_mem.1 hz).2⟩
 ·exact ⟨Nat.zero_le _, fun z hz => by simp at hz⟩

set_option maxRecDepth 100000 in
set_option maxHeartbeats 16000000 in
theorem exactJoined_walk (N0 : NV) (kb : Int) (a0 : Option Addr) (ln0 c0 : Nat) (zl : List Int) (w : World) (h0 : NetRow w N0) (g0 : N0.Rng) (_w1 : (Lit.int .i64 kb).wf = true) (hi0 : IRow w a0 ln0 c0 zl) :
  Calls Try.prog 5 #[.agg #[.slice N0.ba N0.bn N0.bc, .slice N0.la N0.ln N0.lc, .slice N0.sa N0.sn N0.sc], .int .i64 kb, .slice a0 ln0 c0] w fun e w' => e = .returned (.bool true) ∧ Below w.heap.size w w' := by
 generalize hwA : w.alloc (Obj.cells #[.slice N0.ba N0.bn N0.bc, .slice N0.la N0.ln N0.lc, .slice N0.sa N0.sn N0.sc] 26) = wA
 have uA : Below w.heap.size w wA := by subst hwA; exact below_one _ _
 have kA : wA.heap[w.heap.size]? = some (.cells #[.slice N0.ba N0.bn N0.bc, .slice N0.la N0.ln N0.lc, .slice N0.sa N0.sn N0.sc] 26) := by rw [← hwA]; exact block_last _ _
 have HZA : Hid (wA.heap.size = w.heap.size + 1) := hide (by rw [← hwA]; simp)
 obtain ⟨x0, x1, x2⟩ := cells3n kA
 by_cases gl : 1048576 < (ln0 : Int)
 ·have HB := hide uA
  go_enter Try.func5, Try.ntmps5
  go_wp2
  go_ret
  exact ⟨rfl, HB.out⟩
 have HL0 : Hid (ln0 ≤ 1048576) := hide (by omega)
 have HIL := hide hi0.byte
 by_cases gb : ¬ sizeN N0 ≤ 1048576
 ·go_enter Try.func5, Try.ntmps5
  go_wp2_with fail
  refine (szNet_any N0 1048576 _ (h0.below uA) g0 (by omega) (by omega)).mono ?_
  rintro e w1 ⟨rfl, hb1⟩
  rw [if_neg (show ¬ sizeN N0 ≤ 1048576 by omega)]
  have HB := hide (gr_trans uA hb1)
  clear x0 x1 x2
  go_wp2
  go_ret
  exact ⟨rfl, HB.out⟩
 have gb : sizeN N0 ≤ 1048576 := by omega
 have gs : ¬ ((1048576 : Int) - sizeN N0 < 0) := by omega
 obtain ⟨LL, hLL⟩ : ∃ l : List Int, l = joined N0.bn N0.ls kb zl := ⟨_, rfl⟩
 have HN20 : Hid (LL.length ≤ 1048576) := hide (by have := (net_small h0 gb).1; rw [hLL]; exact Nat.le_trans (joined_in _ _ _ _).1 this)
 have HI : Hid (I64s LL) := hide (by intro z hz; rw [hLL] at hz; have h1 := (joined_in _ _ _ _).2 z hz; have := (net_small h0 gb).1; omega)
 have HIM : Hid (I64s (marksI 1 LL.length)) := hide (marksI_byte 1 LL.length (by omega) (by omega) (by have := HN20.out; omega))
 have HLL := hide hLL
 clear hLL
 go_enter Try.func5, Try.ntmps5
 go_wp2_with fail
 refine (szNet_any N0 1048576 _ (h0.below uA) g0 (by omega) (by omega)).mono ?_
 rintro e w1 ⟨rfl, hb1⟩
 rw [if_pos gb]
 have kA := kept_block kA hb1
 have u1 := gr_trans uA hb1
 have HZ1 : Hid (w.heap.size < w1.heap.size) := hide (by have := hb1.size; have := HZA.out; omega)
 clear hb1 x0 x1 x2
 obtain ⟨x0, x1, x2⟩ := cells3n kA
 have HZ := hide gb
 generalize hSZ : sizeN N0 = SZ at gs
 clear gb hSZ
 go_wp2_with fail
 refine (toNet_own N0 _ (h0.below u1) HZ.out).mono ?_
 rintro e w2 ⟨M2, rfl, o2, s2, z2, hb2⟩
 go_wp2_with fail
 refine (copyI_made a0 ln0 c0 zl _ (hi0.below (gr_trans u1 hb2)) (by have := HL0.out; omega)).mono ?_
 rintro e w3 ⟨aB, cB, rfl, bO, -, hb3⟩
 have o2 := o2.below hb3
 go_wp2_with fail
 refine (specJoined_l M2 kb aB ln0 cB zl LL _ (o2.row) (grow_own (F := intF) (by rw [intF_all]; exact bO)) (by rw [HLL.out, same_bn (o2.row) h0 s2, s2.l]) (by rw [same_bn (o2.row) h0 s2]; exact (net_small h0 HZ.out).1) HL0.out).mono ?_
 rintro e w4 ⟨aS, cS, rfl, sO, hb4⟩
 have d := gr_trans (gr_trans hb2 hb3) hb4
 have kA := kept_block kA d
 have uS := gr_trans u1 d
 have HZS : Hid (w.heap.size < w4.heap.size) := hide (by have := d.size; have := HZ1.out; omega)
 have HS4 : Hid (∀ b, (Value.slice aS LL.length cS).ownBlock = some b → b < w4.heap.size) := hide (fun b hb => (sO.lt b hb).2)
 clear hb2 hb3 hb4 o2 x0 x1 x2 u1 d z2 bO
 obtain ⟨x0, x1, x2⟩ := cells3n kA
 go_wp2_with fail
 refine (toNet_own N0 _ (h0.below uS) HZ.out).mono ?_
 rintro e w6 ⟨M6, rfl, o6, s6, z6, hb6⟩
 generalize hwX : w6.alloc (Obj.cells #[.slice M6.ba M6.bn M6.bc, .slice M6.la M6.ln M6.lc, .slice M6.sa M6.sn M6.sc] 33) = wX
 have bX : Below w6.heap.size w6 wX := by rw [← hwX]; exact below_one _ _
 have kX : wX.heap[w6.heap.size]? = some (.cells #[.slice M6.ba M6.bn M6.bc, .slice M6.la M6.ln M6.lc, .slice M6.sa M6.sn M6.sc] 33) := by rw [← hwX]; exact block_last _ _
 have o6 := o6.below bX
 have pS := gr_trans hb6 bX
 have kA := kept_block kA pS
 have sO := own5_below sO pS
 have uX := gr_trans uS pS
 have HF6 := hide (net_fits o6.row (by rw [z6]; exact HZ.out))
 have HU6 : Hid (w.heap.size ≤ w4.heap.size) := hide uS.size
 have HU7 : Hid (w.heap.size < w4.heap.size) := HZS
 have HU8 : Hid (w.heap.size < wX.heap.size) := hide (by have := pS.size; have := HZS.out; omega)
 have HU9 : Hid (w.heap.size ≤ wX.heap.size) := hide uX.size
 have HX6 : Hid (∀ b ∈ M6.blksA, b < wX.heap.size) := hide (fun b hb => (o6.blk b hb).2)
 have HP4 : Hid (w4.heap.size ≤ wX.heap.size) := hide pS.size
 clear hb6 bX x0 x1 x2 z6 pS
 generalize hXX : w6.heap.size = X at *
 go_wp2_with fail
 refine (copyI_made a0 ln0 c0 zl _ (hi0.below uX) (by have := HL0.out; omega)).mono ?_
 rintro e w7 ⟨aL, cL, rfl, lO, -, hb7⟩
 have HL8 : Hid (∀ b, (Value.slice aL ln0 cL).ownBlock = some b → b < w7.heap.size) := hide (fun b hb => (lO.lt b hb).2)
 have HX7 : Hid (wX.heap.size ≤ w7.heap.size) := hide hb7.size
 have HX6 : Hid (∀ b ∈ M6.blksA, b < w7.heap.size ∧ b < wX.heap.size) := hide (fun b hb => ⟨Nat.lt_of_lt_of_le (HX6.out b hb) HX7.out, HX6.out b hb⟩)
 have uX := gr_trans uX hb7
 have HUA : Hid (w.heap.size ≤ w7.heap.size) := hide uX.size
 have HUB : Hid (w.heap.size < w7.heap.size) := hide (by have := HX7.out; have := HU8.out; omega)
 have kA := kept_block kA hb7
 have kX := kept_block kX hb7
 have sO := own5_below sO hb7
 have o6 := o6.below hb7
 clear hb7
 obtain ⟨y0, y1, y2⟩ := cells3n kX
 go_wp2_with fail
 refine (implJoined_l M6 kb aL ln0 cL zl LL _ (o6.row) (grow_own (F := intF) (by rw [intF_all]; exact lO)) (by rw [HLL.out, same_bn (o6.row) h0 s6, s6.l]) (by rw [same_bn (o6.row) h0 s6]; exact (net_small h0 HZ.out).1) HL0.out).mono ?_
 rintro e w8 ⟨aG, cG, rfl, gO, hb8⟩
 have HNE : Hid (∀ b, (Value.slice aS LL.length cS).ownBlock = some b → (Value.slice aG LL.length cG).ownBlock ≠ some b) := hide (fun b hb hc => by have h1 := (gO.lt b hc).1; have h2 := HS4.out b hb; have h3 := HP4.out; have h4 := HX7.out; omega)
 have sO := own5_below sO hb8
 have lO := own5_below lO hb8
 have uG := gr_trans uX hb8
 have kA := kept_block kA hb8
 have kX := kept_block kX hb8
 have o6 := o6.below hb8
 clear hb8 y0 y1 y2 uX
 go_wp2_with fail
 refine (eqI_same aG LL.length cG aS LL.length cS LL _ (irow_own gO HI.out) (irow_own sO HI.out)).mono ?_
 rintro e w9 ⟨rfl, n9, rfl⟩
 have d9 := below_drewN (Below.refl w8.heap.size w8) n9
 generalize w8.drewN n9 = w9 at *
 have sO := own5_below sO d9
 have gO := own5_below gO d9
 have uG := gr_trans uG d9
 have kA := kept_block kA d9
 have lO := own5_below lO d9
 have kX := kept_block kX d9
 have o6 := o6.below d9
 clear d9
 have vv : Below w9.heap.size w9 w9.drew := gr_drew (Below.refl _ _)
 go_wp2_with fail
 refine wp_region_held_drew (S := (fun W => (W.cell? ⟨w.heap.size, 0, none⟩ = some (.slice N0.ba N0.bn N0.bc) ∧ W.cell? ⟨w.heap.size, 1, none⟩ = some (.slice N0.la N0.ln N0.lc) ∧ W.cell? ⟨w.heap.size, 2, none⟩ = some (.slice N0.sa N0.sn N0.sc)) ∧ (W.cell? ⟨X, 0, none⟩ = some (.slice M6.ba M6.bn M6.bc) ∧ W.cell? ⟨X, 1, none⟩ = some (.slice M6.la M6.ln M6.lc) ∧ W.cell? ⟨X, 2, none⟩ = some (.slice M6.sa M6.sn M6.sc)))) (by kernel_rfl) (⟨cells3n (kept_block kA vv), cells3n (kept_block kX vv)⟩) (fun hHeld => ?_)
 refine kK 0 ⟨some 42, .load 33 (.tmp 9), 33, "exact.go:4629", #[], none⟩ ?_
 refine kK 1 ⟨some 43, .load 26 (.tmp 3), 26, "exact.go:4629", #[], none⟩ ?_
 refine kR 2 ⟨some 44, .call ⟨.value (.func 8), #[.tmp 43], #[26]⟩, 33, "exact.go:4629", #[⟨1, .data⟩], none⟩ (fun K hK => ?_)
 go_simp
 refine (toNet_own N0 _ (h0.below (gr_trans uG vv)) HZ.out).mono ?_
 rintro r wz ⟨M7, rfl, o7, s7, z7, hbz⟩
 have vv := gr_trans vv hbz
 go_wp2_with fail
 refine hK.out _ _ (⟨cells3n (kept_block kA vv), cells3n (kept_block kX vv)⟩) (fun hHeld => ?_)
 clear hK K
 try simp only [Act.put, lA, lB, lC]
 refine kR 3 ⟨some 45, .call ⟨.value (.func 10), #[.tmp 42, .tmp 44], #[33, 33]⟩, 4, "exact.go:4629", #[⟨0, .data⟩, ⟨2, .data⟩, ⟨2, .chain⟩], none⟩ (fun K hK => ?_)
 go_simp
 refine (eqNet_same M6 M7 _ (o6.row.below vv) o7.row ⟨s6.b.trans s7.b.symm, s6.l.trans s7.l.symm, s6.s.trans s7.s.symm⟩).mono ?_
 rintro r wy ⟨rfl, hby⟩
 have vv := gr_trans vv hby
 go_wp2_with fail
 refine hK.out _ _ (⟨cells3n (kept_block kA vv), cells3n (kept_block kX vv)⟩) (fun hHeld => ?_)
 clear hK K
 try simp only [Act.put, lA, lB, lC]
 refine kK 4 ⟨some 46, .unOp .not 4 (.tmp 45), 4, "exact.go:4629", #[⟨3, .data⟩], none⟩ ?_
 refine wpAnyH_done (by kernel_rfl) ?_ _
 have sO := own5_below sO vv
 have gO := own5_below gO vv
 have lO := own5_below lO vv
 have kX := kept_block kX vv
 have kA := kept_block kA vv
 have o6 := o6.below vv
 have uG := gr_trans uG vv
 obtain ⟨w11, hw11⟩ : ∃ u, u = wy := ⟨_, rfl⟩
 subst hw11
 clear hHeld vv hbz hby o7 s7 z7
 obtain ⟨x0, x1, x2⟩ := cells3n kX
 go_wp2_with fail
 refine (copyI_made a0 ln0 c0 zl _ (hi0.below uG) (by have := HL0.out; omega)).mono ?_
 rintro e wc ⟨aC, cC, rfl, -, rC, hbc⟩
 have kX := kept_block kX hbc
 have o6 := o6.below hbc
 have sO := own5_below sO hbc
 have gO := own5_below gO hbc
 have uG := gr_trans uG hbc
 have kA := kept_block kA hbc
 have lO := own5_below lO hbc
 clear hbc
 go_wp2_with fail
 refine (eqI_same aL ln0 cL aC ln0 cC zl _ (irow_own lO HIL.out) (rC)).mono ?_
 rintro e wc2 ⟨rfl, nc2, rfl⟩
 have dc2 := below_drewN (Below.refl wc.heap.size wc) nc2
 generalize wc.drewN nc2 = wc2 at *
 have kX := kept_block kX dc2
 have o6 := o6.below dc2
 have sO := own5_below sO dc2
 have gO := own5_below gO dc2
 have uG := gr_trans uG dc2
 have kA := kept_block kA dc2
 have lO := own5_below lO dc2
 clear dc2 rC x0 x1 x2
 obtain ⟨x0, x1, x2⟩ := cells3n kX
 go_wp2_with fail
 refine (markNet_big _ M6 _ o6 HF6.out).mono ?_
 rintro e w12 ⟨rfl, oM6, O⟩
 have gO := O.own gO (fun b hb hc => by have h1 := (gO.lt b hb).1; have h2 := HX6.out b hc; omega)
 have lO := O.own lO (fun b hb hc => by have h1 := (lO.lt b hb).1; have h2 := HX6.out b hc; omega)
 have sO := O.own sO (fun b hb hc => by have h1 := HS4.out b hb; have h2 := (o6.blk b hc).1; omega)
 have uG := uG.trans (O.below uG.size (fun b hb => Nat.le_trans HU6.out (o6.blk b hb).1))
 have kA := O.kept kA (fun hc => by have h1 := (o6.blk _ hc).1; have h2 := HU7.out; omega)
 have HE6 : Hid (0 ≤ endM M6 ∧ endM M6 ≤ 1099511627776) := hide (by have h1 := HF6.out; unfold NV.Fits at h1; unfold endM; have := endVs_up M6.bs 1; omega)
 clear x0 x1 x2 o6 oM6 O kX
 generalize hE6 : endM M6 = E6 at *
 go_wp2_with fail
 refine (markI_grown _ aL ln0 cL zl E6 _ lO (by have := HL0.out; omega) HE6.out.1 HE6.out.2).mono ?_
 rintro e w13 ⟨rfl, -, hg13⟩
 have gO := (Only.of_grown hg13).own gO (fun b hb hc => by have h1 := (gO.lt b hb).1; have h2 := HL8.out b (mem_blkL.2 hc); omega)
 have sO := (Only.of_grown hg13).own sO (fun b hb hc => by have h1 := HS4.out b hb; have h2 := (lO.lt b (mem_blkL.2 hc)).1; have h3 := HP4.out; omega)
 have uG := uG.trans ((Only.of_grown hg13).below uG.size (fun b hb => Nat.le_trans HU9.out (lO.lt b (mem_blkL.2 hb)).1))
 have kA := (Only.of_grown hg13).kept kA (fun hc => by have h1 := (lO.lt _ (mem_blkL.2 hc)).1; have h2 := HU8.out; omega)
 clear lO hg13
 have j0 : ¬ (E6 + (ln0 : Int) < 0) := by have := HE6.out; omega
 go_wp2_with fail
 refine (eqI_same aG LL.length cG aS LL.length cS LL _ (irow_own gO HI.out) (irow_own sO HI.out)).mono ?_
 rintro e w16 ⟨rfl, n16, rfl⟩
 have d16 := below_drewN (Below.refl w13.heap.size w13) n16
 generalize w13.drewN n16 = w16 at *
 have sO := own5_below sO d16
 have gO := own5_below gO d16
 have uG := gr_trans uG d16
 have kA := kept_block kA d16
 clear d16
 go_wp2_with fail
 refine (markI_grown _ aG LL.length cG LL 1 _ gO (by have := HN20.out; omega) (by omega) (by omega)).mono ?_
 rintro e w17 ⟨rfl, gM, hg17⟩
 have sO := (Only.of_grown hg17).own sO (fun b hb hc => HNE.out b hb (mem_blkL.2 hc))
 have uG := uG.trans ((Only.of_grown hg17).below uG.size (fun b hb => Nat.le_trans HUA.out (gO.lt b (mem_blkL.2 hb)).1))
 have kA := (Only.of_grown hg17).kept kA (fun hc => by have h1 := (gO.lt _ (mem_blkL.2 hc)).1; have h2 := HUB.out; omega)
 clear gO hg17
 have j1 : ¬ ((1 : Int) + (LL.length : Int) < 0) := by omega
 go_wp2_with fail
 refine (heldI_any aG LL.length cG 1 _ (irow_own gM HIM.out) (by have := HN20.out; omega) (by omega) (by omega)).mono ?_
 rintro e w18 ⟨rfl, e18⟩
 obtain rfl := e18.symm
 obtain ⟨x0, x1, x2⟩ := cells3n kA
 go_wp2_with fail
 refine (toNet_own N0 _ (h0.below uG) HZ.out).mono ?_
 rintro e w19 ⟨M9, rfl, o9, s9, z9, hb⟩
 have sO := own5_below sO hb
 have gM := own5_below gM hb
 have uG := gr_trans uG hb
 clear hb z9 x0 x1 x2
 go_wp2_with fail
 refine (copyI_made a0 ln0 c0 zl _ (hi0.below uG) (by have := HL0.out; omega)).mono ?_
 rintro e w20 ⟨aD, cD, rfl, dO, -, hb⟩
 have sO := own5_below sO hb
 have gM := own5_below gM hb
 have uG := gr_trans uG hb
 have o9 := o9.below hb
 clear hb
 go_wp2_with fail
 refine (implJoined_l M9 kb aD ln0 cD zl LL _ (o9.row) (grow_own (F := intF) (by rw [intF_all]; exact dO)) (by rw [HLL.out, same_bn (o9.row) h0 s9, s9.l]) (by rw [same_bn (o9.row) h0 s9]; exact (net_small h0 HZ.out).1) HL0.out).mono ?_
 rintro e w21 ⟨aH, cH, rfl, hO, hb⟩
 have sO := own5_below sO hb
 have gM := own5_below gM hb
 have uG := gr_trans uG hb
 clear hb o9 dO
 go_wp2_with fail
 refine (eqI_same aH LL.length cH aS LL.length cS LL _ (irow_own hO HI.out) (irow_own sO HI.out)).mono ?_
 rintro e w22 ⟨rfl, n22, rfl⟩
 have d22 := below_drewN (Below.refl w21.heap.size w21) n22
 generalize w21.drewN n22 = w22 at *
 have gM := own5_below gM d22
 have uG := gr_trans uG d22
 clear d22 sO hO
 go_wp2_with fail
 refine (heldI_any aG LL.length cG 1 _ (irow_own gM HIM.out) (by have := HN20.out; omega) (by omega) (by omega)).mono ?_
 rintro e w23 ⟨rfl, e23⟩
 obtain rfl := e23.symm
 have HB := hide uG
 clear uG gM kA
 go_wp2
 go_ret
 exact ⟨rfl, HB.out⟩

theorem fnExactJoined_own : ownKnob Try.prog.godebug = none := by kernel_rfl
theorem fnExactJoined_laid : laidOutB Try.prog = true := by kernel_rfl

open Go.ChangeShapes Go.WideShapes Go.ChangeAt in
open Go.ChangeMaps (open_string shut_string) in
set_option maxRecDepth 100000 in
theorem fnExactJoined_lifted (os : Os) (started : os.Started) (H : Type) (enc : TypeId × Value → H) :
  ReturnsInHanded {} Try.checked os 5 .any (Rows.fnExactJoinedSpec.pre6 enc Try.prog Try.f5 Rows.fnExactJoinedRow.domain false) (Rows.fnExactJoinedSpec.post enc Try.prog Try.f5 false true false false) := by
 refine returnsInHanded_of_change (C := Try.checked) fnExactJoined_own started (by kernel_rfl) Try.func5
  (ChangeSpec.witness6 (enc := enc) (C := Try.checked) false ⟨#[], #[.agg #[.slice none 0 0, .slice none 0 0, .slice none 0 0], .int .i64 0, .slice none 0 0], []⟩ 8 (by kernel_rfl) (by kernel_rfl) (by kernel_rfl) (by kernel_rfl)) ?_
 intro W base args ds gs before hval0 hW hcnd _
 have hval : ∀ (j : Nat) t v, Try.f5.params[j]? = some t → args[j]? = some v → Value.okWide Try.prog W .any base t v := hval0
 have hW' := hW
 obtain ⟨p, q, hA0, hV, rfl, hfz, hnd⟩ := hW
 have hA : DataW.TrodAll enc Try.prog W 0 (fun _ => true) true Try.f5.params.toList args.toList ds p := hA0
 rw [Try.params5] at hA hval
 obtain ⟨v0, vs0, d0, ds0, p0, q0, hargs, rfl, rfl, h0, r0⟩ := trodAll_cons hA
 obtain ⟨v1, vs1, d1, ds1, p1, q1, rfl, rfl, rfl, h1, r1⟩ := trodAll_cons r0
 obtain ⟨v2, vs2, d2, ds2, p2, q2, rfl, rfl, rfl, h2, r2⟩ := trodAll_cons r1
 obtain ⟨rfl, rfl, rfl⟩ := trodAll_nil r2
 obtain rfl : args = #[v0, v1, v2] := by cases args; simp_all
 obtain ⟨rfl, rfl⟩ := trodVars_none hV
 have k0 := h0
 have lt0 : ∀ x ∈ p0, x.block < W.heap.size := by obtain ⟨m, hm⟩ := k0; exact DataW.trod_lt m _ _ _ hm
 have bt : BrTypes Try.prog 87 9 81 158 106 82 160 85 83 179 37 3 4 _ _ _ _ _ _ _ _ _ _ _ _ _ _ _ _ _ _ _ _ _ _ _ _ _ _ _ _ _ := ⟨Try.underlying87, Try.underlying9, Try.underlying81, Try.underlying158, Try.underlying106, Try.underlying82, Try.underlying160, Try.underlying85, Try.underlying83, Try.underlying179, Try.underlying37, Try.underlying3, Try.underlying4, ⟨rfl, rfl⟩, ⟨rfl, rfl⟩, ⟨rfl, rfl⟩, ⟨rfl, rfl⟩, ⟨rfl, rfl⟩, ⟨rfl, rfl⟩, ⟨rfl, rfl⟩, ⟨rfl, rfl⟩, ⟨rfl, rfl⟩, ⟨rfl, rfl⟩, ⟨rfl, rfl⟩, ⟨rfl, rfl⟩, ⟨rfl, rfl⟩, ⟨rfl, rfl⟩, ⟨rfl, rfl⟩, ⟨rfl, rfl⟩, ⟨rfl, rfl⟩, ⟨rfl, rfl⟩, ⟨rfl, rfl⟩, ⟨rfl, rfl⟩, ⟨rfl, rfl⟩, ⟨rfl, rfl⟩, ⟨rfl, rfl⟩, ⟨rfl, rfl⟩, ⟨rfl, rfl⟩, ⟨rfl, rfl⟩, ⟨rfl, rfl⟩, ⟨rfl, rfl⟩, ⟨rfl, rfl⟩, (by kernel_rfl), (by kernel_rfl), (by kernel_rfl), (by kernel_rfl), (by kernel_rfl), (by kernel_rfl), (by kernel_rfl), (by kernel_rfl), (by kernel_rfl), (by kernel_rfl), (by kernel_rfl), (by kernel_rfl), (by kernel_rfl)⟩
 have bl : LkTypes Try.prog 23 102 3 _ _ _ _ := ⟨Try.underlying23, Try.underlying102, Try.underlying3, ⟨rfl, rfl⟩, ⟨rfl, rfl⟩, ⟨rfl, rfl⟩, ⟨rfl, rfl⟩, (by kernel_rfl), (by kernel_rfl)⟩
 have bn : NtTypes Try.prog 26 22 87 23 24 108 106 3 4 _ _ _ _ _ _ _ _ _ _ _ := ⟨Try.underlying26, Try.underlying22, Try.underlying24, Try.underlying108, Try.underlying106, Try.underlying3, Try.underlying4, ⟨rfl, rfl⟩, ⟨rfl, rfl⟩, ⟨rfl, rfl⟩, ⟨rfl, rfl⟩, ⟨rfl, rfl⟩, ⟨rfl, rfl⟩, ⟨rfl, rfl⟩, ⟨rfl, rfl⟩, ⟨rfl, rfl⟩, ⟨rfl, rfl⟩, ⟨rfl, rfl⟩, (by kernel_rfl), (by kernel_rfl), (by kernel_rfl), (by kernel_rfl), (by kernel_rfl), (by kernel_rfl), (by kernel_rfl), (by kernel_rfl)⟩
 obtain ⟨N0, rfl, w0, g0⟩ := open_net bt bl bn (hval 0 26 v0 rfl rfl) h0
 obtain ⟨a1, rfl, rfl, rfl, w1⟩ := open_int Try.underlying3 (hval 1 3 v1 rfl rfl) h1
 obtain ⟨a2, len2, cap2, rfl⟩ := okWide_slice Try.underlying37 (hval 2 37 v2 rfl rfl)
 have k2 := h2
 have lt2 : ∀ x ∈ p2, x.block < W.heap.size := by obtain ⟨m, hm⟩ := k2; exact DataW.trod_lt m _ _ _ hm
 obtain ⟨z2, w2⟩ : ∃ zs, IRow W a2 len2 cap2 zs := by
  obtain ⟨fuel, hf⟩ := h2
  rcases open_ints Try.underlying37 Try.underlying3 (by kernel_rfl) hf with ⟨hcs, _⟩ | ⟨x, l, c, zs, hcs, _, hl, hm, hz, _, hcell, hwz⟩
  ·simp [Value.cells] at hcs
   obtain ⟨rfl, rfl, rfl⟩ := hcs
   exact ⟨[], irow_nil W⟩
  ·simp [Value.cells] at hcs
   obtain ⟨rfl, rfl, rfl⟩ := hcs
   exact ⟨zs.take len2, irow_open hl hm (by simpa using hz) hcell hwz⟩
 clear hA0 hval0
 refine (exactJoined_walk N0 a1 a2 len2 cap2 z2 W w0 g0 w1 w2).mono fun e W' ⟨he, bel⟩ => ?_
 subst he
 exact ⟨_, rfl, _, _, _, [], _, [], hW', trodAll_mk1 (shut_bool Try.underlying4 _), (trodAll_cons_mk (Below.trod fnExactJoined_laid (by kernel_rfl) (of_decide_eq_true (by kernel_rfl)) k0 bel lt0) (trodAll_cons_mk (shut_int Try.underlying3 w1) (trodAll_cons_mk (Below.trod fnExactJoined_laid (by kernel_rfl) (of_decide_eq_true (by kernel_rfl)) k2 bel lt2) trodAll_mk0))), rfl, bel.frame _, fun h => by cases h⟩

theorem fnExactJoined_holds : Rows.FnExactJoinedSaid :=
 OpenClaim.holds_of_wide 5 Try.f5 rfl rfl rfl rfl rfl rfl rfl ⟨rfl, rfl, rfl, rfl, rfl⟩ rfl rfl rfl rfl rfl (by kernel_rfl) Try.func5 (by kernel_rfl)
  (of_decide_eq_true (by kernel_rfl)) (by unfold Func.isWrapper; first | (rw [if_pos (by decide +kernel)]; kernel_rfl) | (rw [if_neg (by decide +kernel)]; exact ⟨rfl, rfl⟩))
  (fun os started H enc _ => fnExactJoined_lifted os started H enc)

#print axioms fnExactJoined_holds

end Go.Proofs.Ytgmkhoakindpkaa
