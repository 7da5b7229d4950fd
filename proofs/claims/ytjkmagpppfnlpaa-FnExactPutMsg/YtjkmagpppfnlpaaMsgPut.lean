/-
  The bytes of a message, by the contracts of the specification and of the program.
-/
import Derived.Test.YtjkmagpppfnlpaaMsgHelp
import Derived.Test.YtjkmagpppfnlpaaPduPut4
import Derived.Test.YtjkmagpppfnlpaaPduPut5
import Derived.Deep.RegionHeldLaw
namespace Go.Proofs.Ytjkmagpppfnlpaa
open Go.RowKit

/-- A text turned into bytes: what the world is then. -/
theorem conv_world (S : ByteArray) (hS : S.size ≤ maxLen) : ∃ (bw : World → World) (gc : World → Nat), (∀ W, (convert 9 26 (.string S)).run Try.prog W = .ok (.slice (some ⟨W.heap.size, 0, none⟩) S.size (gc W)) (bw W)) ∧
    (∀ W, Below W.heap.size W (bw W)) ∧ (∀ W, Row (bw W) (some ⟨W.heap.size, 0, none⟩) S.size (gc W) (strB S)) :=
  ⟨fun W => Go.Lib.bytesWorld W 5 S, fun W => grownCap W S.size 0 5, fun W => Go.Lib.run_convert_string_bytes (P := Try.prog) W 9 26 5 S Try.underlying9 Try.underlying26 Try.underlying5,
    fun W => Go.Lib.bytesWorld_below W 5 S, fun W => row_str W S hS⟩

theorem putM_none {word : List Int} {K I A B : Int} {bs : List BD} (h : (putP K I A B bs).length = 0 ∨ 20 < word.length) : putM word K I A B bs = [] := by
  unfold putM
  rw [if_neg]
  rintro ⟨h1, h2, -⟩
  rcases h with h | h
  · exact h1 h
  · omega

theorem putM_some {word : List Int} {K I A B : Int} {bs : List BD} (h0 : ¬ (putP K I A B bs).length = 0) (h1 : word.length ≤ 20) : putM word K I A B bs = putTlv [] 48 (msgB word (putP K I A B bs)) := by
  unfold putM
  by_cases h : (msgB word (putP K I A B bs)).length ≤ 250
  · rw [if_pos ⟨h0, h1, h⟩]
  · rw [if_neg (fun k => h k.2.2)]
    unfold putTlv
    rw [if_pos (by omega)]

theorem putP_le (k id a b : Int) (bs : List BD) : (putP k id a b bs).length ≤ 1000 := by
  unfold putP
  split
  · have := putTlv_length [] k (bodyP id a b bs)
    simp at this
    omega
  · simp

theorem two_rows {w : World} {a b : Piece} (ha : Row w a.ao a.len a.cap a.zs) (hb : Row w b.ao b.len b.cap b.zs) :
    ∀ i, i < 2 → Row w (([a, b] : List Piece).getD i noPiece).ao (([a, b] : List Piece).getD i noPiece).len (([a, b] : List Piece).getD i noPiece).cap (([a, b] : List Piece).getD i noPiece).zs := by
  intro i hi
  match i, hi with
  | 0, _ => exact ha
  | 1, _ => exact hb

theorem pieces2_made (a1 : Option Addr) (c1 : Nat) (N1 : List Int) (a2 : Option Addr) (c2 : Nat) (N2 : List Int) (a3 : Option Addr) (c3 : Nat) (N3 : List Int) (P : List Int) (hP : N1 ++ (N2 ++ N3) = P) (hl : P.length ≤ 10000) (w : World) (e : TypeId)
    (h1 : Row w a1 N1.length c1 N1) (h2 : Row w a2 N2.length c2 N2) (h3 : Row w a3 N3.length c3 N3) :
    Calls Try.prog 20 #[.slice a1 N1.length c1, .slice (some ⟨w.heap.size, 0, none⟩) 2 2] (w.alloc (.cells #[.slice a2 N2.length c2, .slice a3 N3.length c3] e)) fun e w' => ∃ ao cap, e = .returned (.slice ao P.length cap) ∧ Row w' ao P.length cap P ∧ Below w.heap.size w w' := by
  have hlen : P.length = N1.length + (N2.length + N3.length) := by rw [← hP]; simp
  have ht : tot [⟨a2, N2.length, c2, N2⟩, ⟨a3, N3.length, c3, N3⟩] 2 = N2.length + N3.length := by simp [tot]
  have hf : flat [⟨a2, N2.length, c2, N2⟩, ⟨a3, N3.length, c3, N3⟩] 2 = N2 ++ N3 := by simp [flat]
  refine (pieces_any a1 N1.length c1 N1 _ 2 2 [⟨a2, N2.length, c2, N2⟩, ⟨a3, N3.length, c3, N3⟩] _ (h1.below (below_one _ _)) (pieces_lit w _ [⟨a2, N2.length, c2, N2⟩, ⟨a3, N3.length, c3, N3⟩] 2 e rfl rfl (by omega) (two_rows h2 h3)) (by rw [ht]; omega)).mono ?_
  rintro e' w' ⟨rfl, ho, hb⟩
  rw [hf, hP] at ho
  have r := row_own ho (by rw [← hP]; exact byte_append h1.byte (byte_append h2.byte h3.byte))
  rw [ht, ← hlen] at r
  exact ⟨_, _, by rw [ht, ← hlen], r, (below_one w (.cells #[.slice a2 N2.length c2, .slice a3 N3.length c3] e)).trans (hb.mono (by simp))⟩

set_option maxRecDepth 100000 in
set_option maxHeartbeats 4000000 in
theorem implPutMsg_made (S : ByteArray) (hS : S.size ≤ maxLen) (K I A B : Int) (ao : Option Addr) (n c : Nat) (l : List BI) (P : List Int) (hP : putM (strB S) K I A B (l.map BI.d) = P) (w : World) (hl : BRow w ao n c l) :
    Calls Try.prog 7 #[.string S, .agg #[.int .i64 K, .int .i64 I, .int .i64 A, .int .i64 B, .slice ao n c]] w fun e w' => ∃ ao' cap, e = .returned (.slice ao' P.length cap) ∧
      w'.ownsRow w.heap.size 5 1 (.slice ao' P.length cap) P.length (cB P) ∧ Row w' ao' P.length cap P ∧ Below w.heap.size w w' := by
  have q0 := below_one w (.cells #[.int .i64 K, .int .i64 I, .int .i64 A, .int .i64 B, .slice ao n c] 30)
  have rb := hl.below q0
  have hXl := putP_le K I A B (l.map BI.d)
  have hWl := strB_length S
  by_cases hno : (putP K I A B (l.map BI.d)).length = 0 ∨ 20 < S.size
  · rw [putM_none (by rw [hWl]; exact hno)] at hP
    subst hP
    generalize hX : putP K I A B (l.map BI.d) = X at *
    have HX := hide hX
    clear hX
    by_cases h20 : 20 < S.size
    · clear hno
      go_enter Try.func7, Try.ntmps7
      go_wp2_with fail
      generalize (w.alloc (.cells #[.int .i64 K, .int .i64 I, .int .i64 A, .int .i64 B, .slice ao n c] 30)) = wb at *
      refine (implPutPdu_made K I A B ao n c l X HX.out _ rb).mono ?_
      rintro e w1 ⟨aox, cx, rfl, -, rx, u1⟩
      have b1 := q0.trans (u1.mono q0.size)
      go_wp2
      go_ret
      exact ⟨_, _, rfl, World.ownsRow_nil _ _ _ _, row_nil _, b1⟩
    · have hX0 : X.length = 0 := by omega
      clear hno
      have HX0 := hide hX0
      clear hX0
      go_enter Try.func7, Try.ntmps7
      go_wp2_with fail
      generalize (w.alloc (.cells #[.int .i64 K, .int .i64 I, .int .i64 A, .int .i64 B, .slice ao n c] 30)) = wb at *
      refine (implPutPdu_made K I A B ao n c l X HX.out _ rb).mono ?_
      rintro e w1 ⟨aox, cx, rfl, -, rx, u1⟩
      have b1 := q0.trans (u1.mono q0.size)
      rw [HX0.out]
      go_wp2
      go_ret
      exact ⟨_, _, rfl, World.ownsRow_nil _ _ _ _, row_nil _, b1⟩
  · have h0 : ¬ (putP K I A B (l.map BI.d)).length = 0 := fun h => hno (.inl h)
    have h20 : S.size ≤ 20 := by omega
    rw [putM_some h0 (by omega), msgB_eq (by omega)] at hP
    generalize hX : putP K I A B (l.map BI.d) = X at *
    have hx0 : ((X.length : Int) == 0) = false := by rw [beq_eq_false_iff_ne]; omega
    have hx1 : decide ((20 : Int) < (S.size : Int)) = false := by rw [decide_eq_false_iff_not]; omega
    have HX := hide hX
    have e1 : putTlv [] 2 (putInt 1) = numB 1 := by rw [put_part (numB_ok 1)]; rfl
    have e2 : putTlv [] 4 (strB S) = tlvB 4 (strB S) := by rw [put_part (by unfold TlvOk; omega)]; rfl
    have hi1 := putInt_length 1
    have l1 : (numB 1).length ≤ 300 := by rw [← e1]; have := putTlv_length [] 2 (putInt 1); simp at this; omega
    have l2 : (tlvB 4 (strB S)).length ≤ 300 := by rw [← e2]; have := putTlv_length [] 4 (strB S); simp at this; omega
    generalize numB 1 = N1 at *
    generalize tlvB 4 (strB S) = N2 at *
    have hl5 : (N1 ++ (N2 ++ X)).length ≤ 10000 := by simp only [List.length_append]; omega
    generalize hN : N1 ++ (N2 ++ X) = N5 at *
    have EN := hide hN
    have HP := hide hP
    have E1 := hide e1
    have E2 := hide e2
    obtain ⟨bw, gc, hcv, hbw, hrw⟩ := conv_world S hS
    clear hX hN hP e1 e2 hno
    go_enter Try.func7, Try.ntmps7
    go_wp2_with fail
    generalize (w.alloc (.cells #[.int .i64 K, .int .i64 I, .int .i64 A, .int .i64 B, .slice ao n c] 30)) = wb at *
    refine (implPutPdu_made K I A B ao n c l X HX.out _ rb).mono ?_
    rintro e w1 ⟨aox, cx, rfl, -, rx, u1⟩
    have b1 := q0.trans (u1.mono q0.size)
    clear rb u1 hl
    go_wp2_with fail
    refine (numPart_made 1 N1 E1.out _).mono ?_
    rintro e w2 ⟨ao2, cp2, rfl, -, r2, hb2⟩
    go_wp2_with fail
    refine (implTlv_made _ _ _ [] 4 _ _ _ (strB S) N2 E2.out _ (row_nil _) (hrw w2) (by omega)).mono ?_
    rintro e w3 ⟨ao3, cp3, rfl, -, r3, hb3⟩
    have g23 : Below w2.heap.size w2 w3 := gr_trans (hbw w2) hb3
    have rx3 := (rx.below hb2).below g23
    have r23 := r2.below g23
    have v3 : Below w1.heap.size w1 w3 := gr_trans hb2 g23
    clear r2 hb3 g23 hb2 rx
    go_wp2_with fail
    refine (pieces2_made _ _ N1 _ _ N2 _ _ X N5 EN.out hl5 w3 _ r23 r3 rx3).mono ?_
    rintro e w5 ⟨ao5, cp5, rfl, r5, hb5⟩
    have v5 : Below w1.heap.size w1 w5 := gr_trans v3 hb5
    clear r23 r3 rx3 hb5 v3
    go_wp2_with fail
    refine (implTlv_made _ _ _ [] 48 _ _ _ N5 P HP.out _ (row_nil _) r5 (by omega)).mono ?_
    rintro e w6 ⟨ao6, cp6, rfl, ho6, r6, hb6⟩
    have b5 := b1.trans (v5.mono b1.size)
    have HO := hide (own_lt ho6 b5.size)
    have HB := hide (b5.trans (hb6.mono b5.size))
    clear ho6 hb6 b5 v5 r5
    go_wp2
    go_ret
    exact ⟨_, _, rfl, HO.out, r6, HB.out⟩

set_option maxRecDepth 100000 in
set_option maxHeartbeats 4000000 in
theorem specPutMsg_made (S : ByteArray) (hS : S.size ≤ maxLen) (K I A B : Int) (ao : Option Addr) (n c : Nat) (l : List BI) (P : List Int) (hP : putM (strB S) K I A B (l.map BI.d) = P) (w : World) (hl : BRow w ao n c l) :
    Calls Try.prog 5 #[.string S, .agg #[.int .i64 K, .int .i64 I, .int .i64 A, .int .i64 B, .slice ao n c]] w fun e w' => ∃ ao' cap, e = .returned (.slice ao' P.length cap) ∧
      w'.ownsRow w.heap.size 5 1 (.slice ao' P.length cap) P.length (cB P) ∧ Row w' ao' P.length cap P ∧ Below w.heap.size w w' := by
  have q0 := below_one w (.cells #[.int .i64 K, .int .i64 I, .int .i64 A, .int .i64 B, .slice ao n c] 30)
  have rb := hl.below q0
  have hXl := putP_le K I A B (l.map BI.d)
  have hWl := strB_length S
  by_cases hno : (putP K I A B (l.map BI.d)).length = 0 ∨ 20 < S.size
  · rw [putM_none (by rw [hWl]; exact hno)] at hP
    subst hP
    generalize hX : putP K I A B (l.map BI.d) = X at *
    have HX := hide hX
    clear hX
    by_cases hX0 : X.length = 0
    · clear hno
      have HX0 := hide hX0
      clear hX0
      go_enter Try.func5, Try.ntmps5
      go_wp2_with fail
      generalize (w.alloc (.cells #[.int .i64 K, .int .i64 I, .int .i64 A, .int .i64 B, .slice ao n c] 30)) = wb at *
      refine (specPutPdu_made K I A B ao n c l X HX.out _ rb).mono ?_
      rintro e w1 ⟨aox, cx, rfl, -, rx, u1⟩
      have b1 := q0.trans (u1.mono q0.size)
      rw [HX0.out]
      go_wp2
      go_ret
      exact ⟨_, _, rfl, made_nil w _ _ (block_last _ _) b1.size, empty_row _ _, b1.trans ((below_one w1 _).mono b1.size)⟩
    · have h20 : 20 < S.size := by omega
      clear hno
      go_enter Try.func5, Try.ntmps5
      go_wp2_with fail
      generalize (w.alloc (.cells #[.int .i64 K, .int .i64 I, .int .i64 A, .int .i64 B, .slice ao n c] 30)) = wb at *
      refine (specPutPdu_made K I A B ao n c l X HX.out _ rb).mono ?_
      rintro e w1 ⟨aox, cx, rfl, -, rx, u1⟩
      have b1 := q0.trans (u1.mono q0.size)
      go_wp2
      go_ret
      exact ⟨_, _, rfl, made_nil w _ _ (block_last _ _) b1.size, empty_row _ _, b1.trans ((below_one w1 _).mono b1.size)⟩
  · have h0 : ¬ (putP K I A B (l.map BI.d)).length = 0 := fun h => hno (.inl h)
    have h20 : S.size ≤ 20 := by omega
    rw [putM_some h0 (by omega)] at hP
    generalize hX : putP K I A B (l.map BI.d) = X at *
    have hx0 : ((X.length : Int) == 0) = false := by rw [beq_eq_false_iff_ne]; omega
    have hx1 : decide ((20 : Int) < (S.size : Int)) = false := by rw [decide_eq_false_iff_not]; omega
    have HX := hide hX
    unfold msgB at hP
    generalize h1 : putInt 1 = P1 at *
    have hi1 : P1.length ≤ 8 := by rw [← h1]; have := putInt_length 1; omega
    generalize g1 : putTlv [] 2 P1 = H1 at *
    generalize g2 : putTlv H1 4 (strB S) = H2 at *
    have l1 : H1.length ≤ 300 := by rw [← g1]; have := putTlv_length [] 2 P1; simp at this; omega
    have l2 : H2.length ≤ 600 := by rw [← g2]; have := putTlv_length H1 4 (strB S); omega
    have E1 := hide h1
    have G1 := hide g1
    have G2 := hide g2
    have hML : H2.length + X.length = (H2 ++ X).length := by simp
    generalize hM : H2 ++ X = M at *
    have EM := hide hM
    have HP := hide hP
    obtain ⟨bw, gc, hcv, hbw, hrw⟩ := conv_world S hS
    clear hX hP h1 g1 g2 hno hM
    go_enter Try.func5, Try.ntmps5
    go_wp2_with fail
    generalize (w.alloc (.cells #[.int .i64 K, .int .i64 I, .int .i64 A, .int .i64 B, .slice ao n c] 30)) = wb at *
    refine (specPutPdu_made K I A B ao n c l X HX.out _ rb).mono ?_
    rintro e w1 ⟨aox, cx, rfl, -, rx, u1⟩
    have b1 := q0.trans (u1.mono q0.size)
    clear rb u1 hl
    go_wp2_with fail
    refine (specInt_made 1 P1 E1.out _).mono ?_
    rintro e w2 ⟨ao2, cp2, rfl, -, r2, hb2⟩
    have v2 : Below w1.heap.size w1 w2 := gr_trans (below_one _ _) hb2
    clear hb2
    go_wp2_with fail
    refine (specTlv_made _ _ _ [] 2 _ _ _ P1 H1 G1.out _ (empty_row _ _) r2 (by omega)).mono ?_
    rintro e w3 ⟨ao3, cp3, rfl, -, r3, hb3⟩
    have v3 := gr_trans v2 hb3
    clear r2 v2 hb3
    go_wp2_with fail
    refine (specTlv_made _ _ _ H1 4 _ _ _ (strB S) H2 G2.out _ (r3.below (hbw w3)) (hrw w3) (by omega)).mono ?_
    rintro e w4 ⟨ao4, cp4, rfl, ho4, r4, hb4⟩
    have v3' := gr_trans v3 (hbw w3)
    have v4 := gr_trans v3' hb4
    have o4 := own_lt ho4 (base' := w1.heap.size) v3'.size
    have rx4 := rx.below v4
    clear r3 v3 v3' ho4 hb4
    go_wp2_with (at_builtin; refine wpList_append_row _ rfl _ _ 26 rfl w1.heap.size Try.underlying26 Try.infoU8 _ H2.length H2 rfl o4 r4.byte _ _ _ X rfl rx4 (by omega) v4.size ?_)
    intro ao5 cp5 w5 ho5 r5 hb5
    have v5 : Below w1.heap.size w1 w5 := v4.trans hb5
    clear o4 v4 r4 hb5 rx4
    rw [EM.out] at ho5 r5
    try rw [hML] at ho5 r5
    try rw [hML]
    have b5 := b1.trans (v5.mono b1.size)
    by_cases hM : M.length ≤ 250
    · go_wp2_with fail
      refine (specTlv_made _ _ _ [] 48 _ _ _ M P HP.out _ (empty_row _ _) (r5.below (below_one _ _)) (by omega)).mono ?_
      rintro e w6 ⟨ao6, cp6, rfl, ho6, r6, hb6⟩
      have b6 := b5.trans ((below_one w5 (.cells #[] 5)).mono b5.size)
      have HO := hide (own_lt ho6 b6.size)
      have HB := hide (b6.trans (hb6.mono b6.size))
      clear ho6 hb6 b6 b5 v5 ho5 r5
      go_wp2
      go_ret
      exact ⟨_, _, rfl, HO.out, r6, HB.out⟩
    · have hPn : P = [] := by rw [← HP.out]; unfold putTlv; rw [if_pos (by omega)]
      subst hPn
      go_wp2
      go_ret
      exact ⟨_, _, rfl, made_nil w _ _ (block_last _ _) b5.size, empty_row _ _, b5.trans ((below_one w5 _).mono b5.size)⟩

end Go.Proofs.Ytjkmagpppfnlpaa
