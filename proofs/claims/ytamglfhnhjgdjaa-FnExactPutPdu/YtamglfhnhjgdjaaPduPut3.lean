/-
  The bytes of a request: the specification's PutPdu and the program's by contracts.
-/
import Derived.Test.YtamglfhnhjgdjaaPduPut2
import Derived.Test.YtamglfhnhjgdjaaPieces
namespace Go.Proofs.Ytamglfhnhjgdjaa
open Go.RowKit

theorem putP_byte (k id a b : Int) (bs : List BD) : Byt (putP k id a b bs) := by
  unfold putP
  split
  · refine putTlv_byte _ _ _ byte_nil ?_
    unfold bodyP headP
    exact putTlv_byte _ _ _ (putTlv_byte _ _ _ (putTlv_byte _ _ _ (putTlv_byte _ _ _ byte_nil (putInt_byte _)) (putInt_byte _)) (putInt_byte _)) (putBs_byte _ _ byte_nil)
  · exact byte_nil

theorem okP_binds {k id a b : Int} {l : List BI} (h : okP k id a b (l.map BI.d) = true) : oks l = true ∧ l.length ≤ 10 := by
  obtain ⟨c1, -, -, -, -, -, c7⟩ := okP_parts h
  refine ⟨?_, by simpa using c7⟩
  rw [← oks_map]
  exact List.all_eq_true.2 c1

theorem headP_length (id a b : Int) : (headP id a b).length ≤ 21 := by
  rw [headP_eq]
  have h1 := putInt_length id
  have h2 := putInt_length a
  have h3 := putInt_length b
  have g1 := lenB_le (putInt id).length
  have g2 := lenB_le (putInt a).length
  have g3 := lenB_le (putInt b).length
  unfold numB tlvB
  simp only [List.length_append, List.length_cons, List.length_nil]
  omega

theorem ret_sb {v : Value} {a b : Bool} (h : a = b) : Ending.returned (.tuple #[v, .bool a]) = .returned (.tuple #[v, .bool b]) := by rw [h]

set_option maxRecDepth 100000 in
set_option maxHeartbeats 4000000 in
theorem specBody_made (K I A B : Int) (ao : Option Addr) (n c : Nat) (l : List BI) (w : World) (hl : BRow w ao n c l) (hok : oks l = true) (hn : n ≤ 10) (r : Bool) (hr : decide ((putBs [] (l.map BI.d)).length ≤ 250 ∧ (bodyP I A B (l.map BI.d)).length ≤ 250) = r) (P : List Int) (hP : bodyP I A B (l.map BI.d) = P) :
    Calls Try.prog 37 #[.agg #[.int .i64 K, .int .i64 I, .int .i64 A, .int .i64 B, .slice ao n c]] w fun e w' => ∃ ao' m cap, e = .returned (.tuple #[.slice ao' m cap, .bool r]) ∧
      (r = true → Row w' ao' m cap P) ∧ Below w.heap.size w w' := by
  generalize hQ : putBs [] (l.map BI.d) = Q at *
  have hQl : Q.length ≤ 730 := by
    have hs := hl.size
    have h1 := oks_take hok n
    rw [List.take_of_length_le (by omega)] at h1
    have h2 := flatB_length h1
    rw [← okBs_flat h1, hQ] at h2
    simp only [List.length_map] at h2
    omega
  have hbody : putTlv (headP I A B) 48 Q = P := by rw [← hP, ← hQ]; rfl
  have HBX : Hid (∀ W, Below (w.alloc (.cells #[.int .i64 K, .int .i64 I, .int .i64 A, .int .i64 B, .slice ao n c] 29)).heap.size (w.alloc (.cells #[.int .i64 K, .int .i64 I, .int .i64 A, .int .i64 B, .slice ao n c] 29)) W → _) := fun W h => (cells5 (kept_block (block_last w _) h)).1
  have q0 := below_one w (.cells #[.int .i64 K, .int .i64 I, .int .i64 A, .int .i64 B, .slice ao n c] 29)
  have rb := hl.below q0
  have HQ := hide hQ
  have HBODY := hide hbody
  rw [hP] at hr
  clear hQ hbody hP
  by_cases hq : Q.length ≤ 250
  · have hr' : decide ((P.length : Int) ≤ 250) = r := by rw [← hr, Bool.eq_iff_iff]; simp [hq]; omega
    have HR := hide hr'
    clear hr hr'
    have hi1 := putInt_length I
    have hi2 := putInt_length A
    have hi3 := putInt_length B
    have hhl := headP_length I A B
    generalize hH : headP I A B = H3 at hhl
    unfold headP at hH
    generalize h1 : putInt I = P1 at *
    generalize h2 : putInt A = P2 at *
    generalize h3 : putInt B = P3 at *
    generalize g1 : putTlv [] 2 P1 = H1 at *
    generalize g2 : putTlv H1 2 P2 = H2 at *
    have l1 : H1.length ≤ 300 := by rw [← g1]; have := putTlv_length [] 2 P1; simp at this; omega
    have l2 : H2.length ≤ 600 := by rw [← g2]; have := putTlv_length H1 2 P2; omega
    have HB3 : Hid (putTlv H3 48 Q = P) := hide (by rw [← hH, ← g2, ← g1, ← h1, ← h2, ← h3]; exact HBODY.out)
    have E1 := hide h1
    have E2 := hide h2
    have E3 := hide h3
    have G1 := hide g1
    have G2 := hide g2
    have G3 := hide hH
    clear h1 h2 h3 g1 g2 hH HBODY
    go_enter Try.func37, Try.ntmps37
    go_wp2_with fail
    generalize (w.alloc (.cells #[.int .i64 K, .int .i64 I, .int .i64 A, .int .i64 B, .slice ao n c] 29)) = wb at *
    refine (specBinds_made ao n c l Q HQ.out _ rb hok hn).mono ?_
    rintro e w1 ⟨ao1, cp1, rfl, -, rq, u1⟩
    obtain ⟨x0, x1, x2, x3, x4⟩ := HBX.out _ u1
    go_wp2_with fail
    go_region_held3 (fun W => (W.cell? ⟨w.heap.size, 0, none⟩ = some (.int .i64 K) ∧ W.cell? ⟨w.heap.size, 1, none⟩ = some (.int .i64 I) ∧ W.cell? ⟨w.heap.size, 2, none⟩ = some (.int .i64 A) ∧ W.cell? ⟨w.heap.size, 3, none⟩ = some (.int .i64 B) ∧ W.cell? ⟨w.heap.size, 4, none⟩ = some (.slice ao n c))) (first | exact HBX.out _ (u1.trans (v7.mono u1.size)) | exact HBX.out _ (u1.trans (v6.mono u1.size)) | exact HBX.out _ (u1.trans (v5.mono u1.size)) | exact HBX.out _ (u1.trans (v4.mono u1.size)) | exact HBX.out _ (u1.trans (v3.mono u1.size)) | exact HBX.out _ (u1.trans (v2.mono u1.size)) | go_keep) (first
      | (go_at_call 55; have v5' := v5; refine (specInt_made B P3 E3.out _).mono ?_; rintro e w6 ⟨ao6, cp6, rfl, -, r6, hb6⟩; have v6 := v5.trans (hb6.mono v5.size))
      | (go_at_call 55; have v3' := v3; refine (specInt_made A P2 E2.out _).mono ?_; rintro e w4 ⟨ao4, cp4, rfl, -, r4, hb4⟩; have v4 := v3.trans (hb4.mono v3.size))
      | (go_at_call 55; refine (specInt_made I P1 E1.out _).mono ?_; rintro e w2 ⟨ao2, cp2, rfl, -, r2, hb2⟩; have v2 : Below w1.heap.size w1 w2 := (by first | exact (Below.refl _ w1).drew.trans hb2 | exact (below_one w1 (.cells #[] 5)).drew.trans (hb2.mono (by simp))))
      | (go_at_call 38; have v6' := v6; refine (specTlv_made _ _ _ H2 2 _ _ _ P3 H3 G3.out _ (r5.below hb6) r6 (by omega)).mono ?_; rintro e w7 ⟨ao7, cp7, rfl, -, r7, hb7⟩; have v7 := v6.trans (hb7.mono v6.size))
      | (go_at_call 38; have v4' := v4; refine (specTlv_made _ _ _ H1 2 _ _ _ P2 H2 G2.out _ (r3.below hb4) r4 (by omega)).mono ?_; rintro e w5 ⟨ao5, cp5, rfl, -, r5, hb5⟩; have v5 := v4.trans (hb5.mono v4.size))
      | (go_at_call 38; refine (specTlv_made _ _ _ [] 2 _ _ _ P1 H1 G1.out _ (empty_row _ _) r2 (by omega)).mono ?_; rintro e w3 ⟨ao3, cp3, rfl, -, r3, hb3⟩; have v3 := v2.trans (hb3.mono v2.size))
      | (go_at_call 38; refine (specTlv_made _ _ _ [] 2 _ _ _ P1 H1 G1.out _ (empty_row _ _) (r2.below (below_one _ _)) (by omega)).mono ?_; rintro e w3 ⟨ao3, cp3, rfl, -, r3, hb3⟩; have v2' := v2.trans ((below_one w2 (.cells #[] 5)).mono v2.size); have v3 := v2'.trans (hb3.mono v2'.size)))
    all_goals
      clear x0 x1 x2 x3 x4 r2 r3 r4 r5 r6 hb2 hb3 hb4 hb5 hb6 hb7 v2 v3 v4 v5 v6
      go_wp2_with fail
      refine (specTlv_made _ _ _ H3 48 _ _ _ Q P HB3.out _ r7 (rq.below v7) (by omega)).mono ?_
      rintro e w8 ⟨ao8, cp8, rfl, -, r8, hb8⟩
      have u8 := (q0.trans (u1.mono q0.size)).trans ((v7.trans (hb8.mono v7.size)).mono (Nat.le_trans q0.size u1.size))
      have HU := hide u8
      clear v7 r7 hb8 u8
      go_wp2
      go_ret2
      exact ⟨_, _, _, ret_sb HR.out, fun _ => r8, HU.out⟩
  · have hr' : r = false := by rw [← hr]; simp; intro h; omega
    subst hr'
    clear hr HBODY
    go_enter Try.func37, Try.ntmps37
    go_wp2_with fail
    generalize (w.alloc (.cells #[.int .i64 K, .int .i64 I, .int .i64 A, .int .i64 B, .slice ao n c] 29)) = wb at *
    refine (specBinds_made ao n c l Q HQ.out _ rb hok hn).mono ?_
    rintro e w1 ⟨ao1, cp1, rfl, -, rq, u1⟩
    go_wp2
    go_ret2
    exact ⟨_, _, _, rfl, (fun h => absurd h (by decide)), (q0.trans (u1.mono q0.size)).trans ((below_one w1 _).mono (Nat.le_trans q0.size u1.size))⟩

end Go.Proofs.Ytamglfhnhjgdjaa
