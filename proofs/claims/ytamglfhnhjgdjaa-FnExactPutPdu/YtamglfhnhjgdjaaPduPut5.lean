/-
  The bytes of a request as the program makes them.
-/
import Derived.Test.YtamglfhnhjgdjaaPduPut3
namespace Go.Proofs.Ytamglfhnhjgdjaa
open Go.RowKit

theorem putP_impl {K I A B : Int} {bs : List BD} (h : okP K I A B bs = true) (hq : (putBs [] bs).length ≤ 250) : putP K I A B bs = putTlv [] K (bodyP I A B bs) := by
  unfold putP
  by_cases hb : (bodyP I A B bs).length ≤ 250
  · rw [if_pos ⟨h, hq, hb⟩]
  · rw [if_neg (fun h => hb h.2.2)]
    unfold putTlv
    rw [if_pos (by omega)]

theorem three_rows {w : World} {a b c : Piece} (ha : Row w a.ao a.len a.cap a.zs) (hb : Row w b.ao b.len b.cap b.zs) (hc : Row w c.ao c.len c.cap c.zs) :
    ∀ i, i < 3 → Row w (([a, b, c] : List Piece).getD i noPiece).ao (([a, b, c] : List Piece).getD i noPiece).len (([a, b, c] : List Piece).getD i noPiece).cap (([a, b, c] : List Piece).getD i noPiece).zs := by
  intro i hi
  match i, hi with
  | 0, _ => exact ha
  | 1, _ => exact hb
  | 2, _ => exact hc

theorem four_row {w : World} {base : Nat} {a1 a2 a3 : Option Addr} {c1 c2 c3 m cap : Nat} {b : Option Addr} {N1 N2 N3 N4 : List Int} (h1 : Byt N1) (h2 : Byt N2) (h3 : Byt N3) (h4 : Byt N4)
    (ho : w.ownsRow base 5 1 (.slice b m cap) m (cB (N1 ++ flat [⟨a1, N2.length, c1, N2⟩, ⟨a2, N3.length, c2, N3⟩, ⟨a3, N4.length, c3, N4⟩] 3))) : Row w b m cap (N1 ++ (N2 ++ (N3 ++ N4))) := by
  have e : flat [⟨a1, N2.length, c1, N2⟩, ⟨a2, N3.length, c2, N3⟩, ⟨a3, N4.length, c3, N4⟩] 3 = N2 ++ (N3 ++ N4) := by simp [flat]
  rw [e] at ho
  exact row_own ho (byte_append h1 (byte_append h2 (byte_append h3 h4)))

theorem pieces3_made (a1 : Option Addr) (c1 : Nat) (N1 : List Int) (a2 : Option Addr) (c2 : Nat) (N2 : List Int) (a3 : Option Addr) (c3 : Nat) (N3 : List Int) (a4 : Option Addr) (c4 : Nat) (N4 : List Int) (P : List Int) (hP : N1 ++ (N2 ++ (N3 ++ N4)) = P) (hl : P.length ≤ 10000) (w : World) (e : TypeId)
    (h1 : Row w a1 N1.length c1 N1) (h2 : Row w a2 N2.length c2 N2) (h3 : Row w a3 N3.length c3 N3) (h4 : Row w a4 N4.length c4 N4) :
    Calls Try.prog 41 #[.slice a1 N1.length c1, .slice (some ⟨w.heap.size, 0, none⟩) 3 3] (w.alloc (.cells #[.slice a2 N2.length c2, .slice a3 N3.length c3, .slice a4 N4.length c4] e)) fun e w' => ∃ ao cap, e = .returned (.slice ao P.length cap) ∧ Row w' ao P.length cap P ∧ Below w.heap.size w w' := by
  have hlen : P.length = N1.length + (N2.length + (N3.length + N4.length)) := by rw [← hP]; simp
  have ht : tot [⟨a2, N2.length, c2, N2⟩, ⟨a3, N3.length, c3, N3⟩, ⟨a4, N4.length, c4, N4⟩] 3 = N2.length + (N3.length + N4.length) := by simp [tot]
  refine (pieces_any a1 N1.length c1 N1 _ 3 3 [⟨a2, N2.length, c2, N2⟩, ⟨a3, N3.length, c3, N3⟩, ⟨a4, N4.length, c4, N4⟩] _ (h1.below (below_one _ _)) (pieces_lit w _ [⟨a2, N2.length, c2, N2⟩, ⟨a3, N3.length, c3, N3⟩, ⟨a4, N4.length, c4, N4⟩] 3 e rfl rfl (by omega) (three_rows h2 h3 h4)) (by rw [ht]; omega)).mono ?_
  rintro e' w' ⟨rfl, ho, hb⟩
  have r := four_row h1.byte h2.byte h3.byte h4.byte ho
  rw [hP, ht, ← hlen] at r
  refine ⟨_, _, by rw [ht, ← hlen], r, (below_one w (.cells #[.slice a2 N2.length c2, .slice a3 N3.length c3, .slice a4 N4.length c4] e)).trans (hb.mono (by simp))⟩

set_option maxRecDepth 100000 in
set_option maxHeartbeats 4000000 in
theorem implPutPdu_made (K I A B : Int) (ao : Option Addr) (n c : Nat) (l : List BI) (P : List Int) (hP : putP K I A B (l.map BI.d) = P) (w : World) (hl : BRow w ao n c l) :
    Calls Try.prog 17 #[.agg #[.int .i64 K, .int .i64 I, .int .i64 A, .int .i64 B, .slice ao n c]] w fun e w' => ∃ ao' cap, e = .returned (.slice ao' P.length cap) ∧
      w'.ownsRow w.heap.size 5 1 (.slice ao' P.length cap) P.length (cB P) ∧ Row w' ao' P.length cap P ∧ Below w.heap.size w w' := by
  have HBX : Hid (∀ W, Below (w.alloc (.cells #[.int .i64 K, .int .i64 I, .int .i64 A, .int .i64 B, .slice ao n c] 29)).heap.size (w.alloc (.cells #[.int .i64 K, .int .i64 I, .int .i64 A, .int .i64 B, .slice ao n c] 29)) W → _) := fun W h => (cells5 (kept_block (block_last w _) h)).1
  have q0 := below_one w (.cells #[.int .i64 K, .int .i64 I, .int .i64 A, .int .i64 B, .slice ao n c] 29)
  have rb := hl.below q0
  cases hk : okP K I A B (l.map BI.d)
  · have e : putP K I A B (l.map BI.d) = [] := by unfold putP; rw [if_neg (by simp [hk])]
    rw [e] at hP
    subst hP
    have HK := hide hk
    clear hk e
    go_enter Try.func17, Try.ntmps17
    go_wp2_with fail
    generalize (w.alloc (.cells #[.int .i64 K, .int .i64 I, .int .i64 A, .int .i64 B, .slice ao n c] 29)) = wb at *
    refine (implPduOk_any K I A B ao n c l _ rb).mono ?_
    rintro e w1 ⟨rfl, u1⟩
    rw [HK.out]
    go_wp2
    go_ret
    exact ⟨_, _, rfl, World.ownsRow_nil _ _ _ _, row_nil _, q0.trans (u1.mono q0.size)⟩
  · obtain ⟨hok, hn⟩ := okP_binds hk
    rw [hl.size] at hn
    have hQl : (putBs [] (l.map BI.d)).length ≤ 730 := by
      have hs := hl.size
      have h1 := oks_take hok n
      rw [List.take_of_length_le (by omega)] at h1
      have h2 := flatB_length h1
      rw [← okBs_flat h1] at h2
      simp only [List.length_map] at h2
      omega
    by_cases hq : (putBs [] (l.map BI.d)).length ≤ 250
    · rw [putP_impl hk hq] at hP
      rw [bodyP_eq hq] at hP
      have hi1 := putInt_length I
      have hi2 := putInt_length A
      have hi3 := putInt_length B
      generalize hQ : putBs [] (l.map BI.d) = Q at *
      have e1 : putTlv [] 2 (putInt I) = numB I := by rw [put_part (numB_ok I)]; rfl
      have e2 : putTlv [] 2 (putInt A) = numB A := by rw [put_part (numB_ok A)]; rfl
      have e3 : putTlv [] 2 (putInt B) = numB B := by rw [put_part (numB_ok B)]; rfl
      have e4 : putTlv [] 48 Q = tlvB 48 Q := by rw [put_part (by unfold TlvOk; omega)]; rfl
      have l1 : (numB I).length ≤ 300 := by rw [← e1]; have := putTlv_length [] 2 (putInt I); simp at this; omega
      have l2 : (numB A).length ≤ 300 := by rw [← e2]; have := putTlv_length [] 2 (putInt A); simp at this; omega
      have l3 : (numB B).length ≤ 300 := by rw [← e3]; have := putTlv_length [] 2 (putInt B); simp at this; omega
      have l4 : (tlvB 48 Q).length ≤ 1000 := by rw [← e4]; have := putTlv_length [] 48 Q; simp at this; omega
      generalize numB I = N1 at *
      generalize numB A = N2 at *
      generalize numB B = N3 at *
      generalize tlvB 48 Q = N4 at *
      have hl5 : (N1 ++ (N2 ++ (N3 ++ N4))).length ≤ 10000 := by simp only [List.length_append]; omega
      generalize hN : N1 ++ (N2 ++ (N3 ++ N4)) = N5 at *
      have EN := hide hN
      have HK := hide hk
      have HQ := hide hQ
      have HP := hide hP
      clear hN
      have E1 := hide e1
      have E2 := hide e2
      have E3 := hide e3
      have E4 := hide e4
      clear hk hQ hP e1 e2 e3 e4
      go_enter Try.func17, Try.ntmps17
      go_wp2_with fail
      generalize (w.alloc (.cells #[.int .i64 K, .int .i64 I, .int .i64 A, .int .i64 B, .slice ao n c] 29)) = wb at *
      refine (implPduOk_any K I A B ao n c l _ rb).mono ?_
      rintro e w0 ⟨rfl, u0⟩
      rw [HK.out]
      obtain ⟨x0, x1, x2, x3, x4⟩ := HBX.out _ u0
      go_wp2_with fail
      refine (implBinds_made ao n c l Q HQ.out _ (rb.below u0) hok hn).mono ?_
      rintro e w1 ⟨ao1, cp1, rfl, -, rq, hb1⟩
      have u1 := u0.trans (hb1.mono u0.size)
      clear x0 x1 x2 x3 x4 u0 hb1
      obtain ⟨x0, x1, x2, x3, x4⟩ := HBX.out _ u1
      go_wp2_with fail
      go_region_held3 (fun W => (W.cell? ⟨w.heap.size, 0, none⟩ = some (.int .i64 K) ∧ W.cell? ⟨w.heap.size, 1, none⟩ = some (.int .i64 I) ∧ W.cell? ⟨w.heap.size, 2, none⟩ = some (.int .i64 A) ∧ W.cell? ⟨w.heap.size, 3, none⟩ = some (.int .i64 B) ∧ W.cell? ⟨w.heap.size, 4, none⟩ = some (.slice ao n c))) (first | exact HBX.out _ (u1.trans (v7.mono u1.size)) | exact HBX.out _ (u1.trans (v6.mono u1.size)) | exact HBX.out _ (u1.trans (v5.mono u1.size)) | exact HBX.out _ (u1.trans (v4.mono u1.size)) | exact HBX.out _ (u1.trans (v3.mono u1.size)) | exact HBX.out _ (u1.trans (v2.mono u1.size)) | go_keep) (first
        | (go_at_call 42; have v3' := v3; refine (numPart_made B N3 E3.out _).mono ?_; rintro e w4 ⟨ao4, cp4, rfl, -, r4, hb4⟩; have v4 := v3.trans (hb4.mono v3.size))
        | (go_at_call 42; have v2' := v2; refine (numPart_made A N2 E2.out _).mono ?_; rintro e w3 ⟨ao3, cp3, rfl, -, r3, hb3⟩; have v3 := v2.trans (hb3.mono v2.size))
        | (go_at_call 42; refine (numPart_made I N1 E1.out _).mono ?_; rintro e w2 ⟨ao2, cp2, rfl, -, r2, hb2⟩; have v2 : Below w1.heap.size w1 w2 := (Below.refl _ w1).drew.trans hb2)
        | (go_at_call 40; have v6' := v6; refine (implTlv_made _ _ _ [] K _ _ _ N5 P HP.out _ (row_nil _) r6 (by omega)).mono ?_; rintro e w7 ⟨ao7, cp7, rfl, ho7, r7, hb7⟩; have v7 := v6.trans (hb7.mono v6.size))
        | (go_at_call 40; refine (implTlv_made _ _ _ [] 48 _ _ _ Q N4 E4.out _ (row_nil _) (rq.below v4) (by omega)).mono ?_; rintro e w5 ⟨ao5, cp5, rfl, -, r5, hb5⟩; have v5 := v4.trans (hb5.mono v4.size))
        | (go_at_call 41; refine (pieces3_made _ _ N1 _ _ N2 _ _ N3 _ _ N4 N5 EN.out hl5 w5 _ (((r2.below hb3).below hb4).below hb5) ((r3.below hb4).below hb5) (r4.below hb5) r5).mono ?_; rintro e w6 ⟨ao6, cp6, rfl, r6, hb6⟩; have v6 := v5.trans (hb6.mono v5.size)))
      have bw := q0.trans (u1.mono q0.size)
      have HO := hide (own_lt ho7 (Nat.le_trans bw.size v6.size))
      have HB := hide (bw.trans (v7.mono bw.size))
      clear x0 x1 x2 x3 x4 r2 r3 r4 r5 r6 hb2 hb3 hb4 hb5 hb6 hb7 v2 v3 v4 v5 v6 v7 ho7 bw
      go_wp2
      go_ret
      exact ⟨_, _, rfl, HO.out, r7, HB.out⟩
    · have e : putP K I A B (l.map BI.d) = [] := by unfold putP; rw [if_neg (fun h => hq h.2.1)]
      rw [e] at hP
      subst hP
      generalize hQ : putBs [] (l.map BI.d) = Q at *
      have HK := hide hk
      have HQ := hide hQ
      clear hk e hQ
      go_enter Try.func17, Try.ntmps17
      go_wp2_with fail
      generalize (w.alloc (.cells #[.int .i64 K, .int .i64 I, .int .i64 A, .int .i64 B, .slice ao n c] 29)) = wb at *
      refine (implPduOk_any K I A B ao n c l _ rb).mono ?_
      rintro e w0 ⟨rfl, u0⟩
      rw [HK.out]
      obtain ⟨x0, x1, x2, x3, x4⟩ := HBX.out _ u0
      go_wp2_with fail
      refine (implBinds_made ao n c l Q HQ.out _ (rb.below u0) hok hn).mono ?_
      rintro e w1 ⟨ao1, cp1, rfl, -, rq, hb1⟩
      have u1 := u0.trans (hb1.mono u0.size)
      clear x0 x1 x2 x3 x4 u0 hb1
      go_wp2
      go_ret
      exact ⟨_, _, rfl, World.ownsRow_nil _ _ _ _, row_nil _, q0.trans (u1.mono q0.size)⟩

end Go.Proofs.Ytamglfhnhjgdjaa
