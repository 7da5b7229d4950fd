/-
  The bytes of a frame as the program makes them.
-/
import Derived.Test.YtanonfdgckanhaaFrameOk
namespace Go.Proofs.Ytanonfdgckanhaa
open Go.RowKit

set_option maxRecDepth 100000 in
set_option maxHeartbeats 4000000 in
theorem implPutFrame_made (K N S : Int) (a1 : Option Addr) (l1 c1 : Nat) (z1 : List Int) (P : List Int) (hP : putF K N S z1 = P) (w : World) (h1 : Row w a1 l1 c1 z1) (_hs : l1 ≤ 16000000) :
    Calls Try.prog 11 #[.agg #[.int .i64 K, .int .i64 N, .int .i64 S, .slice a1 l1 c1]] w fun e w' => ∃ ao' cap, e = .returned (.slice ao' P.length cap) ∧
      w'.ownsRow w.heap.size 5 1 (.slice ao' P.length cap) P.length (cB P) ∧ Row w' ao' P.length cap P ∧ Below w.heap.size w w' := by
  have HBX : Hid (∀ W, Below (w.alloc (.cells #[.int .i64 K, .int .i64 N, .int .i64 S, .slice a1 l1 c1] 25)).heap.size (w.alloc (.cells #[.int .i64 K, .int .i64 N, .int .i64 S, .slice a1 l1 c1] 25)) W → _) := fun W h => box_cells W h
  have q0 := below_one w (.cells #[.int .i64 K, .int .i64 N, .int .i64 S, .slice a1 l1 c1] 25)
  have rb := h1.below q0
  have hz := h1.size
  cases hk : okF K N S l1
  · have e : putF K N S z1 = [] := by unfold putF; rw [hz, hk]; rfl
    rw [e] at hP
    subst hP
    have HK := hide hk
    clear hk e
    go_enter Try.func11, Try.ntmps11
    go_wp2_with fail
    generalize (w.alloc (.cells #[.int .i64 K, .int .i64 N, .int .i64 S, .slice a1 l1 c1] 25)) = wb at *
    refine (implFrameOk_any K N S a1 l1 c1 z1 _ rb).mono ?_
    rintro e w1 ⟨rfl, u1⟩
    rw [HK.out]
    have b1 := q0.trans (u1.mono q0.size)
    go_wp2
    go_ret
    exact ⟨_, _, rfl, World.ownsRow_nil _ _ _ _, row_nil _, b1⟩
  · have e : putF K N S z1 = bodyF K N S z1 := by unfold putF; rw [hz, hk]; rfl
    rw [e] at hP
    clear e
    obtain ⟨-, -, -, hl20⟩ := okF_parts hk
    have hi1 := putInt_length K
    have hi2 := putInt_length N
    have hi3 := putInt_length S
    unfold bodyF headF at hP
    generalize p1 : putInt K = P1 at *
    generalize p2 : putInt N = P2 at *
    generalize p3 : putInt S = P3 at *
    generalize g1 : putTlv [] 1 P1 = H1 at *
    generalize g2 : putTlv H1 1 P2 = H2 at *
    generalize g3 : putTlv H2 2 P3 = H3 at *
    have l1' : H1.length ≤ 300 := by rw [← g1]; have := putTlv_length [] 1 P1; simp at this; omega
    have l2' : H2.length ≤ 600 := by rw [← g2]; have := putTlv_length H1 1 P2; omega
    have l3' : H3.length ≤ 900 := by rw [← g3]; have := putTlv_length H2 2 P3; omega
    have HK := hide hk
    have E1 := hide p1
    have E2 := hide p2
    have E3 := hide p3
    have G1 := hide g1
    have G2 := hide g2
    have G3 := hide g3
    clear hk p1 p2 p3 g1 g2 g3
    by_cases hg : S = 0
    · subst hg
      rw [if_pos rfl] at hP
      have HP := hide hP
      clear hP
      go_enter Try.func11, Try.ntmps11
      go_wp2_with fail
      generalize (w.alloc (.cells #[.int .i64 K, .int .i64 N, .int .i64 0, .slice a1 l1 c1] 25)) = wb at *
      refine (implFrameOk_any K N 0 a1 l1 c1 z1 _ rb).mono ?_
      rintro e w0 ⟨rfl, u0⟩
      rw [HK.out]
      obtain ⟨x0, x1, x2, x3⟩ := HBX.out _ u0
      go_wp2_with fail
      refine (implInt_made K P1 E1.out _).mono ?_
      rintro e w1 ⟨ao1, cp1, rfl, -, r1, hb1⟩
      have u1 := u0.trans (hb1.mono u0.size)
      clear x0 x1 x2 x3 u0 hb1
      go_wp2_with fail
      refine (implTlv_made _ _ _ [] 1 _ _ _ P1 H1 G1.out _ (row_nil _) r1 (by omega)).mono ?_
      rintro e w2 ⟨ao2, cp2, rfl, -, r2, hb2⟩
      have u2 := u1.trans (hb2.mono u1.size)
      clear u1 hb2 r1
      obtain ⟨x0, x1, x2, x3⟩ := HBX.out _ u2
      go_wp2_with fail
      refine (implInt_made N P2 E2.out _).mono ?_
      rintro e w3 ⟨ao3, cp3, rfl, -, r3, hb3⟩
      have u3 := u2.trans (hb3.mono u2.size)
      have r2 := r2.below hb3
      clear x0 x1 x2 x3 u2 hb3
      go_wp2_with fail
      refine (implTlv_made _ _ _ H1 1 _ _ _ P2 H2 G2.out _ r2 r3 (by omega)).mono ?_
      rintro e w4 ⟨ao4, cp4, rfl, -, r4, hb4⟩
      have u4 := u3.trans (hb4.mono u3.size)
      clear u3 hb4 r2 r3
      obtain ⟨x0, x1, x2, x3⟩ := HBX.out _ u4
      go_wp2_with fail
      refine (implTlv_made _ _ _ H2 3 _ _ _ z1 P HP.out _ r4 (rb.below u4) (by omega)).mono ?_
      rintro e w9 ⟨ao9, cp9, rfl, ho9, r9, hb9⟩
      have b8 := q0.trans (u4.mono q0.size)
      have HO := hide (own_lt ho9 b8.size)
      have HB := hide (b8.trans (hb9.mono b8.size))
      clear x0 x1 x2 x3 ho9 hb9 b8 u4 r4
      go_wp2
      go_ret
      exact ⟨_, _, rfl, HO.out, r9, HB.out⟩
    · rw [if_neg hg] at hP
      have hg' : (S != 0) = true := by simpa using hg
      have HP := hide hP
      clear hP hg
      go_enter Try.func11, Try.ntmps11
      go_wp2_with fail
      generalize (w.alloc (.cells #[.int .i64 K, .int .i64 N, .int .i64 S, .slice a1 l1 c1] 25)) = wb at *
      refine (implFrameOk_any K N S a1 l1 c1 z1 _ rb).mono ?_
      rintro e w0 ⟨rfl, u0⟩
      rw [HK.out]
      obtain ⟨x0, x1, x2, x3⟩ := HBX.out _ u0
      go_wp2_with fail
      refine (implInt_made K P1 E1.out _).mono ?_
      rintro e w1 ⟨ao1, cp1, rfl, -, r1, hb1⟩
      have u1 := u0.trans (hb1.mono u0.size)
      clear x0 x1 x2 x3 u0 hb1
      go_wp2_with fail
      refine (implTlv_made _ _ _ [] 1 _ _ _ P1 H1 G1.out _ (row_nil _) r1 (by omega)).mono ?_
      rintro e w2 ⟨ao2, cp2, rfl, -, r2, hb2⟩
      have u2 := u1.trans (hb2.mono u1.size)
      clear u1 hb2 r1
      obtain ⟨x0, x1, x2, x3⟩ := HBX.out _ u2
      go_wp2_with fail
      refine (implInt_made N P2 E2.out _).mono ?_
      rintro e w3 ⟨ao3, cp3, rfl, -, r3, hb3⟩
      have u3 := u2.trans (hb3.mono u2.size)
      have r2 := r2.below hb3
      clear x0 x1 x2 x3 u2 hb3
      go_wp2_with fail
      refine (implTlv_made _ _ _ H1 1 _ _ _ P2 H2 G2.out _ r2 r3 (by omega)).mono ?_
      rintro e w4 ⟨ao4, cp4, rfl, -, r4, hb4⟩
      have u4 := u3.trans (hb4.mono u3.size)
      clear u3 hb4 r2 r3
      obtain ⟨x0, x1, x2, x3⟩ := HBX.out _ u4
      go_wp2_with fail
      refine (implInt_made S P3 E3.out _).mono ?_
      rintro e w5 ⟨ao5, cp5, rfl, -, r5, hb5⟩
      have u5 := u4.trans (hb5.mono u4.size)
      have r4 := r4.below hb5
      clear x0 x1 x2 x3 u4 hb5
      go_wp2_with fail
      refine (implTlv_made _ _ _ H2 2 _ _ _ P3 H3 G3.out _ r4 r5 (by omega)).mono ?_
      rintro e w6 ⟨ao6, cp6, rfl, -, r6, hb6⟩
      have u6 := u5.trans (hb6.mono u5.size)
      clear u5 hb6 r4 r5
      obtain ⟨x0, x1, x2, x3⟩ := HBX.out _ u6
      go_wp2_with fail
      refine (implTlv_made _ _ _ H3 3 _ _ _ z1 P HP.out _ r6 (rb.below u6) (by omega)).mono ?_
      rintro e w9 ⟨ao9, cp9, rfl, ho9, r9, hb9⟩
      have b8 := q0.trans (u6.mono q0.size)
      have HO := hide (own_lt ho9 b8.size)
      have HB := hide (b8.trans (hb9.mono b8.size))
      clear x0 x1 x2 x3 ho9 hb9 b8 u6 r6
      go_wp2
      go_ret
      exact ⟨_, _, rfl, HO.out, r9, HB.out⟩

end Go.Proofs.Ytanonfdgckanhaa
