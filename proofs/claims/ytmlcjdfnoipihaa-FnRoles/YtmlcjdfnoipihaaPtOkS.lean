/-
  Whether a port is right, as the specification has it.
-/
import Derived.Test.YtmlcjdfnoipihaaPtMem
import Derived.Test.YtmlcjdfnoipihaaVecEql
namespace Go.Proofs.Ytmlcjdfnoipihaa
open Go.RowKit

/-- A port's box. -/
def ptBox (x : PT) : Obj := .cells #[.bool x.up, .int .i64 x.k, .bool x.has, .int .i64 x.v.r, .int .i64 x.v.c, .int .i64 x.v.h, .int .i64 x.v.b, .int .i64 x.v.p] 33

theorem cells8 {w : World} {g : Nat} {T : TypeId} {c0 c1 c2 c3 c4 c5 c6 c7 : Value} (h : w.heap[g]? = some (.cells #[c0, c1, c2, c3, c4, c5, c6, c7] T)) :
    w.cell? ⟨g, 0, none⟩ = some c0 ∧ w.cell? ⟨g, 1, none⟩ = some c1 ∧ w.cell? ⟨g, 2, none⟩ = some c2 ∧ w.cell? ⟨g, 3, none⟩ = some c3 ∧ w.cell? ⟨g, 4, none⟩ = some c4 ∧ w.cell? ⟨g, 5, none⟩ = some c5 ∧ w.cell? ⟨g, 6, none⟩ = some c6 ∧ w.cell? ⟨g, 7, none⟩ = some c7 := by
  simp [World.cell?, h]

set_option maxRecDepth 100000 in
set_option maxHeartbeats 2000000 in
theorem specPtOk_any (x : PT) (w : World) :
    Calls Try.prog 23 #[.agg #[.bool x.up, .int .i64 x.k, .bool x.has, .int .i64 x.v.r, .int .i64 x.v.c, .int .i64 x.v.h, .int .i64 x.v.b, .int .i64 x.v.p]] w fun e w' => e = .returned (.bool (ptOk x)) ∧ Below w.heap.size w w' := by
  have he : ∀ W, (binOp .eql 28 (.agg #[.int .i64 x.v.r, .int .i64 x.v.c, .int .i64 x.v.h, .int .i64 x.v.b, .int .i64 x.v.p]) (.agg #[.int .i64 0, .int .i64 0, .int .i64 0, .int .i64 0, .int .i64 0])).run Try.prog W = .ok (.bool (zeroVc x.v)) W := fun W => by rw [vec_eql]; rfl
  have hgd : Try.prog.eqGuardType Try.prog.depth 28 = false := by kernel_rfl
  obtain ⟨up, k, has, ⟨r, c, h, b, p⟩⟩ := x
  simp only at he ⊢
  generalize hw1 : w.alloc (.cells #[.bool up, .int .i64 k, .bool has, .int .i64 r, .int .i64 c, .int .i64 h, .int .i64 b, .int .i64 p] 33) = w1
  have q0 : Below w.heap.size w w1 := by subst hw1; exact below_one _ _
  obtain ⟨c0, c1, c2, c3, c4, c5, c6, c7⟩ := cells8 (by rw [← hw1]; exact block_last w _ : w1.heap[w.heap.size]? = _)
  cases t1 : (decide (1 ≤ k) && decide (k ≤ 1000))
  · have T1 := hide t1
    rw [show ptOk ⟨up, k, has, ⟨r, c, h, b, p⟩⟩ = false by unfold ptOk; rw [t1]; rfl]
    clear t1
    go_enter Try.func23, Try.ntmps23
    go_wp2_with fail
    refine (within_any k 1 1000 _).mono ?_
    rintro e w2 ⟨rfl, rfl⟩
    rw [T1.out]
    go_wp2
    go_ret
    exact ⟨rfl, q0⟩
  cases has
  · rw [show ptOk ⟨up, k, false, ⟨r, c, h, b, p⟩⟩ = zeroVc ⟨r, c, h, b, p⟩ by unfold ptOk; rw [t1]; cases up <;> rfl]
    have T1 := hide t1
    generalize zeroVc ⟨r, c, h, b, p⟩ = Q at *
    clear t1
    cases up <;>
    · go_enter Try.func23, Try.ntmps23
      go_wp2_with fail
      refine (within_any k 1 1000 _).mono ?_
      rintro e w2 ⟨rfl, rfl⟩
      rw [T1.out]
      go_wp2
      go_ret
      exact ⟨rfl, q0⟩
  cases up
  · rw [show ptOk ⟨false, k, true, ⟨r, c, h, b, p⟩⟩ = false by unfold ptOk; rw [t1]; rfl]
    have T1 := hide t1
    clear t1
    go_enter Try.func23, Try.ntmps23
    go_wp2_with fail
    refine (within_any k 1 1000 _).mono ?_
    rintro e w2 ⟨rfl, rfl⟩
    rw [T1.out]
    go_wp2
    go_ret
    exact ⟨rfl, q0⟩
  · rw [show ptOk ⟨true, k, true, ⟨r, c, h, b, p⟩⟩ = okVc r c h b p by unfold ptOk; rw [t1]; rfl]
    have T1 := hide t1
    clear t1
    go_enter Try.func23, Try.ntmps23
    go_wp2_with fail
    refine (within_any k 1 1000 _).mono ?_
    rintro e w2 ⟨rfl, rfl⟩
    rw [T1.out]
    go_wp2_with fail
    refine (specVecOk_any r c h b p _).mono ?_
    rintro e w3 ⟨rfl, hb3⟩
    have HB := hide (gr_trans q0 hb3)
    clear hb3
    go_wp2
    go_ret
    exact ⟨rfl, HB.out⟩

end Go.Proofs.Ytmlcjdfnoipihaa
