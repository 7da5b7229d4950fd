/-
  The bytes of a frame as the specification has them.
-/
import Derived.Test.YtanonfdgckanhaaFrameSpec
namespace Go.Proofs.Ytanonfdgckanhaa
open Go.RowKit

theorem empty_row (w : World) (b : Nat) : Row w (some ⟨b, 0, none⟩) 0 0 [] := ⟨rfl, Nat.le_refl _, Nat.zero_le _, (by intro h; cases h), byte_nil, .inl rfl⟩

theorem made_nil (w w' : World) (b : Nat) (h : w'.heap[b]? = some (.cells #[] 5)) (hb : w.heap.size ≤ b) : w'.ownsRow w.heap.size 5 1 (.slice (some ⟨b, 0, none⟩) 0 0) 0 (cB []) :=
  ⟨rfl, .inr ⟨b, 0, #[], rfl, hb, h, Nat.le_refl _, Nat.zero_le _, rfl, rfl⟩⟩

set_option maxRecDepth 100000 in
set_option maxHeartbeats 4000000 in
theorem specPutFrame_made (K N S : Int) (a1 : Option Addr) (l1 c1 : Nat) (z1 : List Int) (P : List Int) (hP : putF K N S z1 = P) (w : World) (h1 : Row w a1 l1 c1 z1) (_hs : l1 ≤ 16000000) :
    Calls Try.prog 46 #[.agg #[.int .i64 K, .int .i64 N, .int .i64 S, .slice a1 l1 c1]] w fun e w' => ∃ ao' cap, e = .returned (.slice ao' P.length cap) ∧
      w'.ownsRow w.heap.size 5 1 (.slice ao' P.length cap) P.length (cB P) ∧ Row w' ao' P.length cap P ∧ Below w.heap.size w w' := by
  have HBX : Hid (∀ W, Below (w.alloc (.cells #[.int .i64 K, .int .i64 N, .int .i64 S, .slice a1 l1 c1] 25)).heap.size (w.alloc (.cells #[.int .i64 K, .int .i64 N, .int .i64 S, .slice a1 l1 c1] 25)) W → _) := fun W h => box_cells W h
  have q0 := below_one w (.cells #[.int .i64 K, .int .i64 N, .int .i64 S, .slice a1 l1 c1] 25)
  have rb := h1.below q0
  have hz := h1.size
  cases hk : okF K N S l1
  · have e : putF K N S z1 = [] := by unfold putF; rw [hz, hk]; rfl
    rw [e] at hP
    subst hP
    have HK := hide hk
    clear hk e
    go_enter Try.func46, Try.ntmps46
    go_wp2_with fail
    generalize (w.alloc (.cells #[.int .i64 K, .int .i64 N, .int .i64 S, .slice a1 l1 c1] 25)) = wb at *
    refine (specFrameOk_any K N S a1 l1 c1 z1 _ rb).mono ?_
    rintro e w1 ⟨rfl, u1⟩
    rw [HK.out]
    have b1 := q0.trans (u1.mono q0.size)
    go_wp2
    go_ret
    exact ⟨_, _, rfl, made_nil w _ _ (block_last _ _) b1.size, empty_row _ _, b1.trans ((below_one w1 _).mono b1.size)⟩
  · have e : putF K N S z1 = bodyF K N S z1 := by unfold putF; rw [hz, hk]; rfl
    rw [e] at hP
    clear e
    obtain ⟨-, -, -, hl20⟩ := okF_parts hk
    have hi1 := putInt_length K
    have hi2 := putInt_length N
    have hi3 := putInt_length S
    unfold bodyF headF at hP
    generalize p1 : putInt K = P1 at *
    generalize p2 : putInt N = P2 at *
    generalize p3 : putInt S = P3 at *
    generalize g1 : putTlv [] 1 P1 = H1 at *
    generalize g2 : putTlv H1 1 P2 = H2 at *
    generalize g3 : putTlv H2 2 P3 = H3 at *
    have l1' : H1.length ≤ 300 := by rw [← g1]; have := putTlv_length [] 1 P1; simp at this; omega
    have l2' : H2.length ≤ 600 := by rw [← g2]; have := putTlv_length H1 1 P2; omega
    have l3' : H3.length ≤ 900 := by rw [← g3]; have := putTlv_length H2 2 P3; omega
    have HK := hide hk
    have E1 := hide p1
    have E2 := hide p2
    have E3 := hide p3
    have G1 := hide g1
    have G2 := hide g2
    have G3 := hide g3
    clear hk p1 p2 p3 g1 g2 g3
    by_cases hg : S = 0
    · subst hg
      rw [if_pos rfl] at hP
      have HP := hide hP
      clear hP
      go_enter Try.func46, Try.ntmps46
      go_wp2_with fail
      generalize (w.alloc (.cells #[.int .i64 K, .int .i64 N, .int .i64 0, .slice a1 l1 c1] 25)) = wb at *
      refine (specFrameOk_any K N 0 a1 l1 c1 z1 _ rb).mono ?_
      rintro e w1 ⟨rfl, u1⟩
      rw [HK.out]
      obtain ⟨x0, x1, x2, x3⟩ := HBX.out _ u1
      go_wp2_with fail
      go_region_held3 (fun W => (W.cell? ⟨w.heap.size, 0, none⟩ = some (.int .i64 K) ∧ W.cell? ⟨w.heap.size, 1, none⟩ = some (.int .i64 N) ∧ W.cell? ⟨w.heap.size, 2, none⟩ = some (.int .i64 0) ∧ W.cell? ⟨w.heap.size, 3, none⟩ = some (.slice a1 l1 c1))) (first | exact HBX.out _ (u1.trans (v5.mono u1.size)) | exact HBX.out _ (u1.trans (v4.mono u1.size)) | exact HBX.out _ (u1.trans (v3.mono u1.size)) | exact HBX.out _ (u1.trans (v2.mono u1.size)) | go_keep) (first
        | (go_at_call 73; have v3' := v3; refine (specInt_made N P2 E2.out _).mono ?_; rintro e w4 ⟨ao4, cp4, rfl, -, r4, hb4⟩; have v4 := v3.trans (hb4.mono v3.size))
        | (go_at_call 73; refine (specInt_made K P1 E1.out _).mono ?_; rintro e w2 ⟨ao2, cp2, rfl, -, r2, hb2⟩; have v2 : Below w1.heap.size w1 w2 := (by first | exact (Below.refl _ w1).drew.trans hb2 | exact (below_one w1 (.cells #[] 5)).drew.trans (hb2.mono (by simp))))
        | (go_at_call 72; have v4' := v4; refine (specTlv_made _ _ _ H1 1 _ _ _ P2 H2 G2.out _ (r3.below hb4) r4 (by omega)).mono ?_; rintro e w5 ⟨ao5, cp5, rfl, -, r5, hb5⟩; have v5 := v4.trans (hb5.mono v4.size))
        | (go_at_call 72; refine (specTlv_made _ _ _ [] 1 _ _ _ P1 H1 G1.out _ (empty_row _ _) r2 (by omega)).mono ?_; rintro e w3 ⟨ao3, cp3, rfl, -, r3, hb3⟩; have v3 := v2.trans (hb3.mono v2.size))
        | (go_at_call 72; refine (specTlv_made _ _ _ [] 1 _ _ _ P1 H1 G1.out _ (empty_row _ _) (r2.below (below_one _ _)) (by omega)).mono ?_; rintro e w3 ⟨ao3, cp3, rfl, -, r3, hb3⟩; have v2' := v2.trans ((below_one w2 (.cells #[] 5)).mono v2.size); have v3 := v2'.trans (hb3.mono v2'.size)))
      all_goals
        clear x0 x1 x2 x3 r2 r3 r4 hb2 hb3 hb4 hb5 v2 v3 v4
        have u5 := u1.trans (v5.mono u1.size)
        obtain ⟨x0, x1, x2, x3⟩ := HBX.out _ u5
        clear v5 u1
        go_wp2_with fail
        refine (specTlv_made _ _ _ H2 3 _ _ _ z1 P HP.out _ r5 (rb.below u5) (by omega)).mono ?_
        rintro e w9 ⟨ao9, cp9, rfl, ho9, r9, hb9⟩
        have b8 := q0.trans (u5.mono q0.size)
        have HO := hide (own_lt ho9 b8.size)
        have HB := hide (b8.trans (hb9.mono b8.size))
        clear x0 x1 x2 x3 ho9 hb9 b8 u5 r5
        go_wp2
        go_ret
        exact ⟨_, _, rfl, HO.out, r9, HB.out⟩
    · rw [if_neg hg] at hP
      have hg' : (S != 0) = true := by simpa using hg
      have HP := hide hP
      clear hP hg
      go_enter Try.func46, Try.ntmps46
      go_wp2_with fail
      generalize (w.alloc (.cells #[.int .i64 K, .int .i64 N, .int .i64 S, .slice a1 l1 c1] 25)) = wb at *
      refine (specFrameOk_any K N S a1 l1 c1 z1 _ rb).mono ?_
      rintro e w1 ⟨rfl, u1⟩
      rw [HK.out]
      obtain ⟨x0, x1, x2, x3⟩ := HBX.out _ u1
      go_wp2_with fail
      go_region_held3 (fun W => (W.cell? ⟨w.heap.size, 0, none⟩ = some (.int .i64 K) ∧ W.cell? ⟨w.heap.size, 1, none⟩ = some (.int .i64 N) ∧ W.cell? ⟨w.heap.size, 2, none⟩ = some (.int .i64 S) ∧ W.cell? ⟨w.heap.size, 3, none⟩ = some (.slice a1 l1 c1))) (first | exact HBX.out _ (u1.trans (v5.mono u1.size)) | exact HBX.out _ (u1.trans (v4.mono u1.size)) | exact HBX.out _ (u1.trans (v3.mono u1.size)) | exact HBX.out _ (u1.trans (v2.mono u1.size)) | go_keep) (first
        | (go_at_call 73; have v3' := v3; refine (specInt_made N P2 E2.out _).mono ?_; rintro e w4 ⟨ao4, cp4, rfl, -, r4, hb4⟩; have v4 := v3.trans (hb4.mono v3.size))
        | (go_at_call 73; refine (specInt_made K P1 E1.out _).mono ?_; rintro e w2 ⟨ao2, cp2, rfl, -, r2, hb2⟩; have v2 : Below w1.heap.size w1 w2 := (by first | exact (Below.refl _ w1).drew.trans hb2 | exact (below_one w1 (.cells #[] 5)).drew.trans (hb2.mono (by simp))))
        | (go_at_call 72; have v4' := v4; refine (specTlv_made _ _ _ H1 1 _ _ _ P2 H2 G2.out _ (r3.below hb4) r4 (by omega)).mono ?_; rintro e w5 ⟨ao5, cp5, rfl, -, r5, hb5⟩; have v5 := v4.trans (hb5.mono v4.size))
        | (go_at_call 72; refine (specTlv_made _ _ _ [] 1 _ _ _ P1 H1 G1.out _ (empty_row _ _) r2 (by omega)).mono ?_; rintro e w3 ⟨ao3, cp3, rfl, -, r3, hb3⟩; have v3 := v2.trans (hb3.mono v2.size))
        | (go_at_call 72; refine (specTlv_made _ _ _ [] 1 _ _ _ P1 H1 G1.out _ (empty_row _ _) (r2.below (below_one _ _)) (by omega)).mono ?_; rintro e w3 ⟨ao3, cp3, rfl, -, r3, hb3⟩; have v2' := v2.trans ((below_one w2 (.cells #[] 5)).mono v2.size); have v3 := v2'.trans (hb3.mono v2'.size)))
      all_goals
        clear x0 x1 x2 x3 r2 r3 r4 hb2 hb3 hb4 hb5 v2 v3 v4
        have u5 := u1.trans (v5.mono u1.size)
        obtain ⟨x0, x1, x2, x3⟩ := HBX.out _ u5
        clear v5 u1
        go_wp2_with fail
        refine (specInt_made S P3 E3.out _).mono ?_
        rintro e w6 ⟨ao6, cp6, rfl, -, r6, hb6⟩
        have u6 := u5.trans (hb6.mono u5.size)
        have r5 := r5.below hb6
        clear x0 x1 x2 x3 u5 hb6
        go_wp2_with fail
        refine (specTlv_made _ _ _ H2 2 _ _ _ P3 H3 G3.out _ r5 r6 (by omega)).mono ?_
        rintro e w7 ⟨ao7, cp7, rfl, -, r7, hb7⟩
        have u7 := u6.trans (hb7.mono u6.size)
        clear u6 hb7 r5 r6
        obtain ⟨x0, x1, x2, x3⟩ := HBX.out _ u7
        go_wp2_with fail
        refine (specTlv_made _ _ _ H3 3 _ _ _ z1 P HP.out _ r7 (rb.below u7) (by omega)).mono ?_
        rintro e w9 ⟨ao9, cp9, rfl, ho9, r9, hb9⟩
        have b8 := q0.trans (u7.mono q0.size)
        have HO := hide (own_lt ho9 b8.size)
        have HB := hide (b8.trans (hb9.mono b8.size))
        clear x0 x1 x2 x3 ho9 hb9 b8 u7 r7
        go_wp2
        go_ret
        exact ⟨_, _, rfl, HO.out, r9, HB.out⟩

end Go.Proofs.Ytanonfdgckanhaa
