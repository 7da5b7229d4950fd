/-
  The bytes of a vector as the specification has them.
-/
import Derived.Test.YtanonfdgckanhaaVecSpec
import Derived.Test.YtanonfdgckanhaaFrameSpecPut
namespace Go.Proofs.Ytanonfdgckanhaa
open Go.RowKit

set_option maxRecDepth 100000 in
set_option maxHeartbeats 4000000 in
theorem specPutVec_made (R C H B P : Int) (Q : List Int) (hP : putVc R C H B P = Q) (w : World) :
    Calls Try.prog 61 #[.agg #[.int .i64 R, .int .i64 C, .int .i64 H, .int .i64 B, .int .i64 P]] w fun e w' => ∃ ao' cap, e = .returned (.slice ao' Q.length cap) ∧
      w'.ownsRow w.heap.size 5 1 (.slice ao' Q.length cap) Q.length (cB Q) ∧ Row w' ao' Q.length cap Q ∧ Below w.heap.size w w' := by
  have q0 := below_one w (.cells #[.int .i64 R, .int .i64 C, .int .i64 H, .int .i64 B, .int .i64 P] 38)
  have HBX : Hid (∀ W, Below (w.alloc (.cells #[.int .i64 R, .int .i64 C, .int .i64 H, .int .i64 B, .int .i64 P] 38)).heap.size (w.alloc (.cells #[.int .i64 R, .int .i64 C, .int .i64 H, .int .i64 B, .int .i64 P] 38)) W → _) := fun W h => box5_cells W h
  cases hk : okVc R C H B P
  · rw [putVc_no hk] at hP
    subst hP
    have HK := hide hk
    clear hk
    go_enter Try.func61, Try.ntmps61
    go_wp2_with fail
    generalize (w.alloc (.cells #[.int .i64 R, .int .i64 C, .int .i64 H, .int .i64 B, .int .i64 P] 38)) = wb at *
    refine (specVecOk_any R C H B P _).mono ?_
    rintro e w1 ⟨rfl, u1⟩
    rw [HK.out]
    have b1 := gr_trans q0 u1
    go_wp2
    go_ret
    exact ⟨_, _, rfl, made_nil w _ _ (block_last _ _) b1.size, empty_row _ _, gr_trans b1 (below_one w1 _)⟩
  · rw [putVc_is hk] at hP
    unfold bodyVc at hP
    have hi1 := putInt_length R
    have hi2 := putInt_length C
    have hi3 := putInt_length H
    have hi4 := putInt_length B
    have hi5 := putInt_length P
    generalize p1 : putInt R = P1 at *
    generalize p2 : putInt C = P2 at *
    generalize p3 : putInt H = P3 at *
    generalize p4 : putInt B = P4 at *
    generalize p5 : putInt P = P5 at *
    generalize g1 : putTlv [] 2 P1 = H1 at *
    generalize g2 : putTlv H1 2 P2 = H2 at *
    generalize g3 : putTlv H2 2 P3 = H3 at *
    generalize g4 : putTlv H3 2 P4 = H4 at *
    have l1' : H1.length ≤ 300 := by rw [← g1]; have := putTlv_length [] 2 P1; simp at this; omega
    have l2' : H2.length ≤ 600 := by rw [← g2]; have := putTlv_length H1 2 P2; omega
    have l3' : H3.length ≤ 900 := by rw [← g3]; have := putTlv_length H2 2 P3; omega
    have l4' : H4.length ≤ 1200 := by rw [← g4]; have := putTlv_length H3 2 P4; omega
    have HK := hide hk
    have E1 := hide p1
    have E2 := hide p2
    have E3 := hide p3
    have E4 := hide p4
    have E5 := hide p5
    have G1 := hide g1
    have G2 := hide g2
    have G3 := hide g3
    have G4 := hide g4
    have HP := hide hP
    clear hk p1 p2 p3 p4 p5 g1 g2 g3 g4 hP
    go_enter Try.func61, Try.ntmps61
    go_wp2_with fail
    generalize (w.alloc (.cells #[.int .i64 R, .int .i64 C, .int .i64 H, .int .i64 B, .int .i64 P] 38)) = wb at *
    refine (specVecOk_any R C H B P _).mono ?_
    rintro e w1 ⟨rfl, u1⟩
    rw [HK.out]
    obtain ⟨x0, x1, x2, x3, x4⟩ := HBX.out _ u1
    go_wp2_with fail
    go_region_held3 (fun W => (W.cell? ⟨w.heap.size, 0, none⟩ = some (.int .i64 R) ∧ W.cell? ⟨w.heap.size, 1, none⟩ = some (.int .i64 C) ∧ W.cell? ⟨w.heap.size, 2, none⟩ = some (.int .i64 H) ∧ W.cell? ⟨w.heap.size, 3, none⟩ = some (.int .i64 B) ∧ W.cell? ⟨w.heap.size, 4, none⟩ = some (.int .i64 P))) (first | exact HBX.out _ (gr_trans u1 v7) | exact HBX.out _ (gr_trans u1 v6) | exact HBX.out _ (gr_trans u1 v5) | exact HBX.out _ (gr_trans u1 v4) | exact HBX.out _ (gr_trans u1 v3) | exact HBX.out _ (gr_trans u1 v2) | go_keep) (first
      | (go_at_call 73; have u := v5; refine (specInt_made H P3 E3.out _).mono ?_; rintro e w6 ⟨ao6, cp6, rfl, -, r6, hb6⟩; have v6 := gr_trans v5 hb6)
      | (go_at_call 73; have u := v3; refine (specInt_made C P2 E2.out _).mono ?_; rintro e w4 ⟨ao4, cp4, rfl, -, r4, hb4⟩; have v4 := gr_trans v3 hb4)
      | (go_at_call 73; refine (specInt_made R P1 E1.out _).mono ?_; rintro e w2 ⟨ao2, cp2, rfl, -, r2, hb2⟩; have v2 : Below w1.heap.size w1 w2 := (by first | exact (Below.refl _ w1).drew.trans hb2 | exact (below_one w1 (.cells #[] 5)).drew.trans (hb2.mono (by simp))))
      | (go_at_call 72; have u := v6; refine (specTlv_made _ _ _ H2 2 _ _ _ P3 H3 G3.out _ (r5.below hb6) r6 (by omega)).mono ?_; rintro e w7 ⟨ao7, cp7, rfl, -, r7, hb7⟩; have v7 := gr_trans v6 hb7)
      | (go_at_call 72; have u := v4; refine (specTlv_made _ _ _ H1 2 _ _ _ P2 H2 G2.out _ (r3.below hb4) r4 (by omega)).mono ?_; rintro e w5 ⟨ao5, cp5, rfl, -, r5, hb5⟩; have v5 := gr_trans v4 hb5)
      | (go_at_call 72; refine (specTlv_made _ _ _ [] 2 _ _ _ P1 H1 G1.out _ (empty_row _ _) r2 (by omega)).mono ?_; rintro e w3 ⟨ao3, cp3, rfl, -, r3, hb3⟩; have v3 := gr_trans v2 hb3)
      | (go_at_call 72; refine (specTlv_made _ _ _ [] 2 _ _ _ P1 H1 G1.out _ (empty_row _ _) (r2.below (below_one _ _)) (by omega)).mono ?_; rintro e w3 ⟨ao3, cp3, rfl, -, r3, hb3⟩; have v2' := gr_trans v2 (below_one w2 (.cells #[] 5)); have v3 := gr_trans v2' hb3))
    all_goals
      have u7 := gr_trans u1 v7
      clear x0 x1 x2 x3 x4 r2 r3 r4 r5 r6 hb2 hb3 hb4 hb5 hb6 hb7 v2 v3 v4 v5 v6 v7 u1
      obtain ⟨x0, x1, x2, x3, x4⟩ := HBX.out _ u7
      go_wp2_with fail
      go_region_held3 (fun W => (W.cell? ⟨w.heap.size, 0, none⟩ = some (.int .i64 R) ∧ W.cell? ⟨w.heap.size, 1, none⟩ = some (.int .i64 C) ∧ W.cell? ⟨w.heap.size, 2, none⟩ = some (.int .i64 H) ∧ W.cell? ⟨w.heap.size, 3, none⟩ = some (.int .i64 B) ∧ W.cell? ⟨w.heap.size, 4, none⟩ = some (.int .i64 P))) (first | exact HBX.out _ (gr_trans u7 y11) | exact HBX.out _ (gr_trans u7 y10) | exact HBX.out _ (gr_trans u7 y9) | exact HBX.out _ (gr_trans u7 y8) | go_keep) (first
        | (go_at_call 73; have u := y9; refine (specInt_made P P5 E5.out _).mono ?_; rintro e w10 ⟨ao10, cp10, rfl, -, r10, hb10⟩; have y10 := gr_trans y9 hb10)
        | (go_at_call 73; refine (specInt_made B P4 E4.out _).mono ?_; rintro e w8 ⟨ao8, cp8, rfl, -, r8, hb8⟩; have y8 : Below w7.heap.size w7 w8 := (Below.refl _ w7).drew.trans hb8)
        | (go_at_call 72; have u := y10; refine (specTlv_made _ _ _ H4 2 _ _ _ P5 Q HP.out _ (r9.below hb10) r10 (by omega)).mono ?_; rintro e w11 ⟨ao11, cp11, rfl, ho11, r11, hb11⟩; have y11 := gr_trans y10 hb11)
        | (go_at_call 72; refine (specTlv_made _ _ _ H3 2 _ _ _ P4 H4 G4.out _ (r7.below y8) r8 (by omega)).mono ?_; rintro e w9 ⟨ao9, cp9, rfl, -, r9, hb9⟩; have y9 := gr_trans y8 hb9))
      have b8 := gr_trans q0 (gr_trans u7 y10)
      have HO := hide (own_lt ho11 b8.size)
      have HB := hide (gr_trans q0 (gr_trans u7 y11))
      clear x0 x1 x2 x3 x4 ho11 b8 u7 r7 r8 r9 r10 hb8 hb9 hb10 hb11 y8 y9 y10 y11
      go_wp2
      go_ret
      exact ⟨_, _, rfl, HO.out, r11, HB.out⟩

end Go.Proofs.Ytanonfdgckanhaa
