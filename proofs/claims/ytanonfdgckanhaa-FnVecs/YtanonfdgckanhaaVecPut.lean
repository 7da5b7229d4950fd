/-
  The bytes of a vector as the program makes them.
-/
import Derived.Test.YtanonfdgckanhaaVecOk
import Derived.Test.YtanonfdgckanhaaPieces
namespace Go.Proofs.Ytanonfdgckanhaa
open Go.RowKit

set_option maxRecDepth 100000 in
set_option maxHeartbeats 4000000 in
theorem implPutVec_made (R C H B P : Int) (Q : List Int) (hP : putVc R C H B P = Q) (w : World) :
    Calls Try.prog 22 #[.agg #[.int .i64 R, .int .i64 C, .int .i64 H, .int .i64 B, .int .i64 P]] w fun e w' => ∃ ao' cap, e = .returned (.slice ao' Q.length cap) ∧
      w'.ownsRow w.heap.size 5 1 (.slice ao' Q.length cap) Q.length (cB Q) ∧ Row w' ao' Q.length cap Q ∧ Below w.heap.size w w' := by
  have q0 := below_one w (.cells #[.int .i64 R, .int .i64 C, .int .i64 H, .int .i64 B, .int .i64 P] 38)
  have HBX : Hid (∀ W, Below (w.alloc (.cells #[.int .i64 R, .int .i64 C, .int .i64 H, .int .i64 B, .int .i64 P] 38)).heap.size (w.alloc (.cells #[.int .i64 R, .int .i64 C, .int .i64 H, .int .i64 B, .int .i64 P] 38)) W → _) := fun W h => box5_cells W h
  cases hk : okVc R C H B P
  · rw [putVc_no hk] at hP
    subst hP
    have HK := hide hk
    clear hk
    go_enter Try.func22, Try.ntmps22
    go_wp2_with fail
    generalize (w.alloc (.cells #[.int .i64 R, .int .i64 C, .int .i64 H, .int .i64 B, .int .i64 P] 38)) = wb at *
    refine (implVecOk_any R C H B P _).mono ?_
    rintro e w1 ⟨rfl, u1⟩
    rw [HK.out]
    have b1 := gr_trans q0 u1
    go_wp2
    go_ret
    exact ⟨_, _, rfl, World.ownsRow_nil _ _ _ _, row_nil _, b1⟩
  · rw [putVc_is hk] at hP
    unfold bodyVc at hP
    have hi1 := putInt_length R
    have hi2 := putInt_length C
    have hi3 := putInt_length H
    have hi4 := putInt_length B
    have hi5 := putInt_length P
    generalize p1 : putInt R = P1 at *
    generalize p2 : putInt C = P2 at *
    generalize p3 : putInt H = P3 at *
    generalize p4 : putInt B = P4 at *
    generalize p5 : putInt P = P5 at *
    generalize g1 : putTlv [] 2 P1 = H1 at *
    generalize g2 : putTlv H1 2 P2 = H2 at *
    generalize g3 : putTlv H2 2 P3 = H3 at *
    generalize g4 : putTlv H3 2 P4 = H4 at *
    have l1' : H1.length ≤ 300 := by rw [← g1]; have := putTlv_length [] 2 P1; simp at this; omega
    have l2' : H2.length ≤ 600 := by rw [← g2]; have := putTlv_length H1 2 P2; omega
    have l3' : H3.length ≤ 900 := by rw [← g3]; have := putTlv_length H2 2 P3; omega
    have l4' : H4.length ≤ 1200 := by rw [← g4]; have := putTlv_length H3 2 P4; omega
    have HK := hide hk
    have E1 := hide p1
    have E2 := hide p2
    have E3 := hide p3
    have E4 := hide p4
    have E5 := hide p5
    have G1 := hide g1
    have G2 := hide g2
    have G3 := hide g3
    have G4 := hide g4
    have HP := hide hP
    clear hk p1 p2 p3 p4 p5 g1 g2 g3 g4 hP
    go_enter Try.func22, Try.ntmps22
    go_wp2_with fail
    generalize (w.alloc (.cells #[.int .i64 R, .int .i64 C, .int .i64 H, .int .i64 B, .int .i64 P] 38)) = wb at *
    refine (implVecOk_any R C H B P _).mono ?_
    rintro e w1 ⟨rfl, u1⟩
    rw [HK.out]
    obtain ⟨x0, x1, x2, x3, x4⟩ := HBX.out _ u1
    go_wp2_with fail
    refine (numbersOf_any R C H B P _).mono ?_
    rintro e w2 ⟨rfl, hb2⟩
    have b2 := gr_trans q0 (gr_trans u1 hb2)
    clear x0 x1 x2 x3 x4 u1 hb2 q0 HBX
    go_wp2_with fail
    go_loopw [3, 11] (fun b i wr => ∃ (k : Nat) (ao : Option Addr) (cap : Nat), k ≤ 5 ∧ i = .int .i64 k ∧ b = .slice ao ([[], H1, H2, H3, H4, Q].getD k []).length cap ∧ wr.ownsRow w.heap.size 5 1 (.slice ao ([[], H1, H2, H3, H4, Q].getD k []).length cap) ([[], H1, H2, H3, H4, Q].getD k []).length (cB ([[], H1, H2, H3, H4, Q].getD k [])) ∧ Row wr ao ([[], H1, H2, H3, H4, Q].getD k []).length cap ([[], H1, H2, H3, H4, Q].getD k []) ∧ Below w.heap.size w wr) (fun _ i _ => 5 - (intOf i).toNat)
    case atStart => exact ⟨0, none, 0, Nat.zero_le _, rfl, rfl, World.ownsRow_nil _ _ _ _, row_nil _, b2⟩
    case round =>
      obtain ⟨k, ao, cap, hk, hi, hb, ho, hr, hbel⟩ := hrel
      clear b2
      rcases (show k = 0 ∨ k = 1 ∨ k = 2 ∨ k = 3 ∨ k = 4 ∨ k = 5 by omega) with rfl | rfl | rfl | rfl | rfl | rfl
      · have hi : _ = Value.int .i64 0 := hi
        subst hi
        have hr : Row wr ao ([] : List Int).length cap [] := hr
        have hb : _ = Value.slice ao ([] : List Int).length cap := hb
        subst hb
        have ix := index5_0 R C H B P wr
        clear ho
        go_wp2_with fail
        refine (implInt_made R P1 E1.out _).mono ?_
        rintro e w3 ⟨ao3, cp3, rfl, -, r3, hb3⟩
        have r2 := hr.below hb3
        have b3 := gr_trans hbel hb3
        clear hr hb3 hbel ix
        go_wp2_with fail
        refine (implTlv_made _ _ _ [] 2 _ _ _ P1 H1 G1.out _ r2 r3 (by simp; omega)).mono ?_
        rintro e w4 ⟨ao4, cp4, rfl, ho4, r4, hb4⟩
        have HO := hide (own_lt ho4 b3.size)
        have HB := hide (gr_trans b3 hb4)
        have HR := hide r4
        clear ho4 hb4 b3 r2 r3 r4
        go_wp2
        go_roundw
        case rel => exact ⟨0 + 1, ao4, cp4, by omega, by go_num, rfl, HO.out, HR.out, HB.out⟩
        case measure => simp [intOf]
      · have hi : _ = Value.int .i64 1 := hi
        subst hi
        have hr : Row wr ao (H1 : List Int).length cap H1 := hr
        have hb : _ = Value.slice ao (H1 : List Int).length cap := hb
        subst hb
        have ix := index5_1 R C H B P wr
        clear ho
        go_wp2_with fail
        refine (implInt_made C P2 E2.out _).mono ?_
        rintro e w3 ⟨ao3, cp3, rfl, -, r3, hb3⟩
        have r2 := hr.below hb3
        have b3 := gr_trans hbel hb3
        clear hr hb3 hbel ix
        go_wp2_with fail
        refine (implTlv_made _ _ _ H1 2 _ _ _ P2 H2 G2.out _ r2 r3 (by omega)).mono ?_
        rintro e w4 ⟨ao4, cp4, rfl, ho4, r4, hb4⟩
        have HO := hide (own_lt ho4 b3.size)
        have HB := hide (gr_trans b3 hb4)
        have HR := hide r4
        clear ho4 hb4 b3 r2 r3 r4
        go_wp2
        go_roundw
        case rel => exact ⟨1 + 1, ao4, cp4, by omega, by go_num, rfl, HO.out, HR.out, HB.out⟩
        case measure => simp [intOf]
      · have hi : _ = Value.int .i64 2 := hi
        subst hi
        have hr : Row wr ao (H2 : List Int).length cap H2 := hr
        have hb : _ = Value.slice ao (H2 : List Int).length cap := hb
        subst hb
        have ix := index5_2 R C H B P wr
        clear ho
        go_wp2_with fail
        refine (implInt_made H P3 E3.out _).mono ?_
        rintro e w3 ⟨ao3, cp3, rfl, -, r3, hb3⟩
        have r2 := hr.below hb3
        have b3 := gr_trans hbel hb3
        clear hr hb3 hbel ix
        go_wp2_with fail
        refine (implTlv_made _ _ _ H2 2 _ _ _ P3 H3 G3.out _ r2 r3 (by omega)).mono ?_
        rintro e w4 ⟨ao4, cp4, rfl, ho4, r4, hb4⟩
        have HO := hide (own_lt ho4 b3.size)
        have HB := hide (gr_trans b3 hb4)
        have HR := hide r4
        clear ho4 hb4 b3 r2 r3 r4
        go_wp2
        go_roundw
        case rel => exact ⟨2 + 1, ao4, cp4, by omega, by go_num, rfl, HO.out, HR.out, HB.out⟩
        case measure => simp [intOf]
      · have hi : _ = Value.int .i64 3 := hi
        subst hi
        have hr : Row wr ao (H3 : List Int).length cap H3 := hr
        have hb : _ = Value.slice ao (H3 : List Int).length cap := hb
        subst hb
        have ix := index5_3 R C H B P wr
        clear ho
        go_wp2_with fail
        refine (implInt_made B P4 E4.out _).mono ?_
        rintro e w3 ⟨ao3, cp3, rfl, -, r3, hb3⟩
        have r2 := hr.below hb3
        have b3 := gr_trans hbel hb3
        clear hr hb3 hbel ix
        go_wp2_with fail
        refine (implTlv_made _ _ _ H3 2 _ _ _ P4 H4 G4.out _ r2 r3 (by omega)).mono ?_
        rintro e w4 ⟨ao4, cp4, rfl, ho4, r4, hb4⟩
        have HO := hide (own_lt ho4 b3.size)
        have HB := hide (gr_trans b3 hb4)
        have HR := hide r4
        clear ho4 hb4 b3 r2 r3 r4
        go_wp2
        go_roundw
        case rel => exact ⟨3 + 1, ao4, cp4, by omega, by go_num, rfl, HO.out, HR.out, HB.out⟩
        case measure => simp [intOf]
      · have hi : _ = Value.int .i64 4 := hi
        subst hi
        have hr : Row wr ao (H4 : List Int).length cap H4 := hr
        have hb : _ = Value.slice ao (H4 : List Int).length cap := hb
        subst hb
        have ix := index5_4 R C H B P wr
        clear ho
        go_wp2_with fail
        refine (implInt_made P P5 E5.out _).mono ?_
        rintro e w3 ⟨ao3, cp3, rfl, -, r3, hb3⟩
        have r2 := hr.below hb3
        have b3 := gr_trans hbel hb3
        clear hr hb3 hbel ix
        go_wp2_with fail
        refine (implTlv_made _ _ _ H4 2 _ _ _ P5 Q HP.out _ r2 r3 (by omega)).mono ?_
        rintro e w4 ⟨ao4, cp4, rfl, ho4, r4, hb4⟩
        have HO := hide (own_lt ho4 b3.size)
        have HB := hide (gr_trans b3 hb4)
        have HR := hide r4
        clear ho4 hb4 b3 r2 r3 r4
        go_wp2
        go_roundw
        case rel => exact ⟨4 + 1, ao4, cp4, by omega, by go_num, rfl, HO.out, HR.out, HB.out⟩
        case measure => simp [intOf]
      · have hi : _ = Value.int .i64 5 := hi
        subst hi
        have hr : Row wr ao Q.length cap Q := hr
        have hb : _ = Value.slice ao Q.length cap := hb
        subst hb
        have ho : wr.ownsRow w.heap.size 5 1 (.slice ao Q.length cap) Q.length (cB Q) := ho
        have HO := hide ho
        have HB := hide hbel
        clear ho hbel
        go_wp2
        go_ret
        exact ⟨_, _, rfl, HO.out, hr, HB.out⟩

end Go.Proofs.Ytanonfdgckanhaa
