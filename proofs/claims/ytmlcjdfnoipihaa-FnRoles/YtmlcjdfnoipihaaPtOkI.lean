/-
  Whether a port is right, and what was heard there as it is at the bridge, as the program has it.
-/
import Derived.Test.YtmlcjdfnoipihaaPtOkS
import Derived.Test.YtmlcjdfnoipihaaVecStep
namespace Go.Proofs.Ytmlcjdfnoipihaa
open Go.RowKit

set_option maxRecDepth 100000 in
set_option maxHeartbeats 2000000 in
theorem implPtOk_any (x : PT) (w : World) :
    Calls Try.prog 22 #[.agg #[.bool x.up, .int .i64 x.k, .bool x.has, .int .i64 x.v.r, .int .i64 x.v.c, .int .i64 x.v.h, .int .i64 x.v.b, .int .i64 x.v.p]] w fun e w' => e = .returned (.bool (ptOk x)) ∧ Below w.heap.size w w' := by
  have he : ∀ W, (binOp .eql 28 (.agg #[.int .i64 x.v.r, .int .i64 x.v.c, .int .i64 x.v.h, .int .i64 x.v.b, .int .i64 x.v.p]) (.agg #[.int .i64 0, .int .i64 0, .int .i64 0, .int .i64 0, .int .i64 0])).run Try.prog W = .ok (.bool (zeroVc x.v)) W := fun W => by rw [vec_eql]; rfl
  have hgd : Try.prog.eqGuardType Try.prog.depth 28 = false := by kernel_rfl
  obtain ⟨up, k, has, ⟨r, c, h, b, p⟩⟩ := x
  simp only at he ⊢
  generalize hw1 : w.alloc (.cells #[.bool up, .int .i64 k, .bool has, .int .i64 r, .int .i64 c, .int .i64 h, .int .i64 b, .int .i64 p] 33) = w1
  have q0 : Below w.heap.size w w1 := by subst hw1; exact below_one _ _
  obtain ⟨c0, c1, c2, c3, c4, c5, c6, c7⟩ := cells8 (by rw [← hw1]; exact block_last w _ : w1.heap[w.heap.size]? = _)
  cases t1 : (decide (1 ≤ k) && decide (k ≤ 1000))
  · have T1 := hide t1
    rw [show ptOk ⟨up, k, has, ⟨r, c, h, b, p⟩⟩ = false by unfold ptOk; rw [t1]; rfl]
    clear t1
    go_enter Try.func22, Try.ntmps22
    go_wp2_with fail
    refine (implWithin_any k 1 1000 _).mono ?_
    rintro e w2 ⟨rfl, rfl⟩
    rw [T1.out]
    go_wp2
    go_ret
    exact ⟨rfl, q0⟩
  cases has
  · rw [show ptOk ⟨up, k, false, ⟨r, c, h, b, p⟩⟩ = zeroVc ⟨r, c, h, b, p⟩ by unfold ptOk; rw [t1]; cases up <;> rfl]
    have T1 := hide t1
    generalize zeroVc ⟨r, c, h, b, p⟩ = Q at *
    clear t1
    go_enter Try.func22, Try.ntmps22
    go_wp2_with fail
    refine (implWithin_any k 1 1000 _).mono ?_
    rintro e w2 ⟨rfl, rfl⟩
    rw [T1.out]
    go_wp2
    go_ret
    exact ⟨rfl, q0⟩
  cases up
  · rw [show ptOk ⟨false, k, true, ⟨r, c, h, b, p⟩⟩ = false by unfold ptOk; rw [t1]; rfl]
    have T1 := hide t1
    clear t1
    go_enter Try.func22, Try.ntmps22
    go_wp2_with fail
    refine (implWithin_any k 1 1000 _).mono ?_
    rintro e w2 ⟨rfl, rfl⟩
    rw [T1.out]
    go_wp2
    go_ret
    exact ⟨rfl, q0⟩
  · rw [show ptOk ⟨true, k, true, ⟨r, c, h, b, p⟩⟩ = okVc r c h b p by unfold ptOk; rw [t1]; rfl]
    have T1 := hide t1
    clear t1
    go_enter Try.func22, Try.ntmps22
    go_wp2_with fail
    refine (implWithin_any k 1 1000 _).mono ?_
    rintro e w2 ⟨rfl, rfl⟩
    rw [T1.out]
    go_wp2_with fail
    refine (implVecOk_any r c h b p _).mono ?_
    rintro e w3 ⟨rfl, hb3⟩
    have HB := hide (gr_trans q0 hb3)
    clear hb3
    go_wp2
    go_ret
    exact ⟨rfl, HB.out⟩

/-- What was heard at a port, as it is at the bridge itself; and whether it is there. -/
def overB (x : PT) : Bool := x.up && (x.has && stepsV x.v x.k)
def overV (x : PT) : VD := if (x.up && x.has) = true then (if stepsV x.v x.k = true then stepV x.v x.k else x.v) else ⟨0, 0, 0, 0, 0⟩

theorem over_yes {x : PT} (h : overB x = true) : overV x = stepV x.v x.k := by
  unfold overB at h
  simp only [Bool.and_eq_true] at h
  unfold overV
  rw [h.1, h.2.1, h.2.2]
  rfl

theorem offers_over (id : Int) (x : PT) : offers id x = (overB x && decide ((overV x).r < id)) := by
  cases h : overB x
  · unfold offers overB at *
    cases hu : x.up <;> cases hh : x.has <;> cases hs : stepsV x.v x.k <;> rw [hu, hh, hs] at h <;> simp_all
  · rw [over_yes h]
    unfold overB at h
    simp only [Bool.and_eq_true] at h
    unfold offers
    rw [h.1, h.2.1, h.2.2]
    rfl

set_option maxRecDepth 100000 in
set_option maxHeartbeats 2000000 in
theorem overLink_any (x : PT) (w : World) :
    Calls Try.prog 34 #[.agg #[.bool x.up, .int .i64 x.k, .bool x.has, .int .i64 x.v.r, .int .i64 x.v.c, .int .i64 x.v.h, .int .i64 x.v.b, .int .i64 x.v.p]] w fun e w' => e = .returned (.tuple #[.agg #[.int .i64 (overV x).r, .int .i64 (overV x).c, .int .i64 (overV x).h, .int .i64 (overV x).b, .int .i64 (overV x).p], .bool (overB x)]) ∧ Below w.heap.size w w' := by
  by_cases hno : (x.up && x.has) = false
  · rw [show overV x = ⟨0, 0, 0, 0, 0⟩ by unfold overV; rw [hno]; rfl, show overB x = false by unfold overB; cases hu : x.up <;> cases hh : x.has <;> simp_all]
    simp only
    cases hu : x.up
    · clear hno
      go_enter Try.func34, Try.ntmps34
      go_wp2
      exact bodyPost_ret (v := .tuple #[.agg #[.int .i64 0, .int .i64 0, .int .i64 0, .int .i64 0, .int .i64 0], .bool false]) (by simp [results, Try.results34, go_sem, *]) rfl ⟨rfl, below_two _ _ _⟩
    · have hh : x.has = false := by rw [hu] at hno; simpa using hno
      rw [hh]
      clear hno
      go_enter Try.func34, Try.ntmps34
      go_wp2
      exact bodyPost_ret (v := .tuple #[.agg #[.int .i64 0, .int .i64 0, .int .i64 0, .int .i64 0, .int .i64 0], .bool false]) (by simp [results, Try.results34, go_sem, *]) rfl ⟨rfl, below_two _ _ _⟩
  generalize hw1 : w.alloc (.cells #[.bool x.up, .int .i64 x.k, .bool x.has, .int .i64 x.v.r, .int .i64 x.v.c, .int .i64 x.v.h, .int .i64 x.v.b, .int .i64 x.v.p] 33) = w1
  generalize hw2 : w1.alloc (.cells #[.int .i64 0, .int .i64 0, .int .i64 0, .int .i64 0, .int .i64 0] 28) = w2
  have q1 : Below w.heap.size w w1 := by rw [← hw1]; exact below_one _ _
  have q2 : Below w1.heap.size w1 w2 := by rw [← hw2]; exact below_one _ _
  have k1 : w1.heap[w.heap.size]? = some (.cells #[.bool x.up, .int .i64 x.k, .bool x.has, .int .i64 x.v.r, .int .i64 x.v.c, .int .i64 x.v.h, .int .i64 x.v.b, .int .i64 x.v.p] 33) := by rw [← hw1]; exact block_last _ _
  have k2 : w2.heap[w1.heap.size]? = some (.cells #[.int .i64 0, .int .i64 0, .int .i64 0, .int .i64 0, .int .i64 0] 28) := by rw [← hw2]; exact block_last _ _
  have hs1 : w1.heap.size = w.heap.size + 1 := by rw [← hw1]; simp
  rw [hs1] at k2
  obtain ⟨c0, c1, c2, c3, c4, c5, c6, c7⟩ := cells8 (kept_block k1 q2)
  have HQ := hide (gr_trans q1 q2)
  have K2 := hide k2
  have hyes : (x.up && x.has) = true := by simpa using hno
  have hu : x.up = true := by simp only [Bool.and_eq_true] at hyes; exact hyes.1
  have hh : x.has = true := by simp only [Bool.and_eq_true] at hyes; exact hyes.2
  rw [hu] at c0
  rw [hh] at c2
  generalize hq : overB x = q
  generalize hu' : overV x = u
  have HST : Hid (stepOk x.v.r x.v.c x.v.h x.v.b x.v.p x.k = q) := hide (by rw [← hq]; unfold overB stepsV; rw [hu, hh]; rfl)
  have HUV : Hid ((if q = true then Value.agg #[.int .i64 x.v.r, .int .i64 (x.v.c + x.k), .int .i64 (x.v.h + 1), .int .i64 x.v.b, .int .i64 x.v.p] else Value.agg #[.int .i64 x.v.r, .int .i64 x.v.c, .int .i64 x.v.h, .int .i64 x.v.b, .int .i64 x.v.p]) = .agg #[.int .i64 u.r, .int .i64 u.c, .int .i64 u.h, .int .i64 u.b, .int .i64 u.p]) := hide (by
    rw [← hu']
    unfold overV
    rw [if_pos hyes]
    unfold stepsV
    rw [HST.out]
    cases q <;> rfl)
  clear hq hu' hu hh hyes hno q1 q2 k1 k2
  go_enter Try.func34, Try.ntmps34
  go_wp2_with fail
  refine (implStepVec_any x.v.r x.v.c x.v.h x.v.b x.v.p x.k _).mono ?_
  rintro e w3 ⟨rfl, hb3⟩
  rw [HST.out, HUV.out]
  obtain ⟨⟨r0, r1, r2, r3, r4⟩, z0, z1, z2, z3, z4⟩ := cells5 (kept_block K2.out hb3)
  have HS := hide (below_set5 (gr_trans HQ.out hb3) (g := w.heap.size + 1) (by omega) (.int .i64 u.r) (.int .i64 u.c) (.int .i64 u.h) (.int .i64 u.b) (.int .i64 u.p))
  clear hb3 c0 c1 c2 c3 c4 c5 c6 c7
  go_wp2
  exact bodyPost_ret (v := .tuple #[.agg #[.int .i64 u.r, .int .i64 u.c, .int .i64 u.h, .int .i64 u.b, .int .i64 u.p], .bool q]) (by simp [results, Try.results34, go_sem, *]) rfl ⟨rfl, HS.out⟩

end Go.Proofs.Ytmlcjdfnoipihaa
