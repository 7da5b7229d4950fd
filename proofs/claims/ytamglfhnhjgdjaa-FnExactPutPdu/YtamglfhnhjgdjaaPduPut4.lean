/-
  The bytes of a request, whole: the specification's PutPdu and the program's by contracts.
-/
import Derived.Test.YtamglfhnhjgdjaaPduPut3
import Derived.Test.YtamglfhnhjgdjaaPduOkS
namespace Go.Proofs.Ytamglfhnhjgdjaa
open Go.RowKit

theorem putP_bad {K I A B : Int} {bs : List BD} (h : okP K I A B bs = false) : putP K I A B bs = [] := by unfold putP; rw [if_neg (by simp [h])]
theorem putP_room {K I A B : Int} {bs : List BD} {r : Bool} (h : okP K I A B bs = true) (hr : decide ((putBs [] bs).length ≤ 250 ∧ (bodyP I A B bs).length ≤ 250) = r) : putP K I A B bs = if r then putTlv [] K (bodyP I A B bs) else [] := by
  unfold putP
  cases r
  · rw [decide_eq_false_iff_not] at hr
    rw [if_neg (fun h => hr ⟨h.2.1, h.2.2⟩)]; rfl
  · rw [decide_eq_true_iff] at hr
    rw [if_pos ⟨h, hr.1, hr.2⟩]; rfl

theorem made_nil (w w' : World) (b : Nat) (h : w'.heap[b]? = some (.cells #[] 5)) (hb : w.heap.size ≤ b) : w'.ownsRow w.heap.size 5 1 (.slice (some ⟨b, 0, none⟩) 0 0) 0 (cB []) :=
  ⟨rfl, .inr ⟨b, 0, #[], rfl, hb, h, Nat.le_refl _, Nat.zero_le _, rfl, rfl⟩⟩

set_option maxRecDepth 100000 in
set_option maxHeartbeats 2000000 in
theorem specPutPdu_made (K I A B : Int) (ao : Option Addr) (n c : Nat) (l : List BI) (P : List Int) (hP : putP K I A B (l.map BI.d) = P) (w : World) (hl : BRow w ao n c l) :
    Calls Try.prog 16 #[.agg #[.int .i64 K, .int .i64 I, .int .i64 A, .int .i64 B, .slice ao n c]] w fun e w' => ∃ ao' cap, e = .returned (.slice ao' P.length cap) ∧
      w'.ownsRow w.heap.size 5 1 (.slice ao' P.length cap) P.length (cB P) ∧ Row w' ao' P.length cap P ∧ Below w.heap.size w w' := by
  have HBX : Hid (∀ W, Below (w.alloc (.cells #[.int .i64 K, .int .i64 I, .int .i64 A, .int .i64 B, .slice ao n c] 29)).heap.size (w.alloc (.cells #[.int .i64 K, .int .i64 I, .int .i64 A, .int .i64 B, .slice ao n c] 29)) W → _) := fun W h => (cells5 (kept_block (block_last w _) h)).1
  have q0 := below_one w (.cells #[.int .i64 K, .int .i64 I, .int .i64 A, .int .i64 B, .slice ao n c] 29)
  have rb := hl.below q0
  cases hk : okP K I A B (l.map BI.d)
  · rw [putP_bad hk] at hP
    subst hP
    have HK := hide hk
    clear hk
    go_enter Try.func16, Try.ntmps16
    go_wp2_with fail
    generalize (w.alloc (.cells #[.int .i64 K, .int .i64 I, .int .i64 A, .int .i64 B, .slice ao n c] 29)) = wb at *
    refine (specPduOk_any K I A B ao n c l _ rb).mono ?_
    rintro e w1 ⟨rfl, u1⟩
    rw [HK.out]
    have b1 := q0.trans (u1.mono q0.size)
    go_wp2
    go_ret
    exact ⟨_, _, rfl, made_nil w _ _ (block_last _ _) b1.size, empty_row _ _, b1.trans ((below_one w1 _).mono b1.size)⟩
  · obtain ⟨hok, hn⟩ := okP_binds hk
    rw [hl.size] at hn
    generalize hr : decide ((putBs [] (l.map BI.d)).length ≤ 250 ∧ (bodyP I A B (l.map BI.d)).length ≤ 250) = r
    rw [putP_room hk hr] at hP
    generalize hQ : bodyP I A B (l.map BI.d) = Q at *
    have hQl : r = true → Q.length ≤ 250 := by intro h; rw [h, decide_eq_true_iff] at hr; exact hr.2
    have HK := hide hk
    have HR : Hid (decide ((putBs [] (l.map BI.d)).length ≤ 250 ∧ (bodyP I A B (l.map BI.d)).length ≤ 250) = r) := hide (by rw [hQ]; exact hr)
    have HQ := hide hQ
    clear hk hr hQ
    cases r
    · simp only [Bool.false_eq_true, if_false] at hP
      subst hP
      go_enter Try.func16, Try.ntmps16
      go_wp2_with fail
      generalize (w.alloc (.cells #[.int .i64 K, .int .i64 I, .int .i64 A, .int .i64 B, .slice ao n c] 29)) = wb at *
      refine (specPduOk_any K I A B ao n c l _ rb).mono ?_
      rintro e w1 ⟨rfl, u1⟩
      rw [HK.out]
      obtain ⟨x0, x1, x2, x3, x4⟩ := HBX.out _ u1
      go_wp2_with fail
      refine (specBody_made K I A B ao n c l _ (rb.below u1) hok hn _ HR.out Q HQ.out).mono ?_
      rintro e w2 ⟨ao2, m2, cp2, rfl, -, hb2⟩
      have u2 := u1.trans (hb2.mono u1.size)
      have b2 := q0.trans (u2.mono q0.size)
      clear x0 x1 x2 x3 x4 hb2 u1 u2
      go_wp2
      go_ret
      exact ⟨_, _, rfl, made_nil w _ _ (block_last _ _) b2.size, empty_row _ _, b2.trans ((below_one w2 _).mono b2.size)⟩
    · simp only [if_true] at hP
      have hQl := hQl rfl
      have HP := hide hP
      clear hP
      go_enter Try.func16, Try.ntmps16
      go_wp2_with fail
      generalize (w.alloc (.cells #[.int .i64 K, .int .i64 I, .int .i64 A, .int .i64 B, .slice ao n c] 29)) = wb at *
      refine (specPduOk_any K I A B ao n c l _ rb).mono ?_
      rintro e w1 ⟨rfl, u1⟩
      rw [HK.out]
      obtain ⟨x0, x1, x2, x3, x4⟩ := HBX.out _ u1
      go_wp2_with fail
      refine (specBody_made K I A B ao n c l _ (rb.below u1) hok hn _ HR.out Q HQ.out).mono ?_
      rintro e w2 ⟨ao2, m2, cp2, rfl, hr2, hb2⟩
      have hr3 := hr2 rfl
      have hm2 := hr3.size
      clear hr2
      have u2 := u1.trans (hb2.mono u1.size)
      have b2 := q0.trans (u2.mono q0.size)
      clear x0 x1 x2 x3 x4 hb2 u1
      obtain ⟨x0, x1, x2, x3, x4⟩ := HBX.out _ (u2.trans ((below_one w2 (.cells #[] 5)).mono u2.size))
      clear u2
      go_wp2_with fail
      refine (specTlv_made _ _ _ [] K _ _ _ Q P HP.out _ (empty_row _ _) (hr3.below (below_one _ _)) (by omega)).mono ?_
      rintro e w3 ⟨ao3, cp3, rfl, ho3, r3, hb3⟩
      have b3 := b2.trans ((below_one w2 (.cells #[] 5)).mono b2.size)
      have HO := hide (own_lt ho3 b3.size)
      have HB := hide (b3.trans (hb3.mono b3.size))
      clear x0 x1 x2 x3 x4 ho3 hb3 b3 hr3
      go_wp2
      go_ret
      exact ⟨_, _, rfl, HO.out, r3, HB.out⟩

end Go.Proofs.Ytamglfhnhjgdjaa
