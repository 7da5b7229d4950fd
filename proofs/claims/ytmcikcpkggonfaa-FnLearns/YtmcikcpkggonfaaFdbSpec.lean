/-
  Who is where, as the specification has it: whether an entry is right, whether it stands ahead, whether entries are right, the place of the first of both.
-/
import Derived.Test.YtmcikcpkggonfaaFentMem
import Derived.Test.YtmcikcpkggonfaaFrameHelp
import Derived.Deep.RegionHeld3
namespace Go.Proofs.Ytmcikcpkggonfaa
open Go.RowKit

set_option maxRecDepth 100000 in
set_option maxHeartbeats 2000000 in
theorem specEnt_any (e : FE) (w : World) :
    Calls Try.prog 47 #[.agg #[.int .i64 e.t, .int .i64 e.m, .int .i64 e.p, .int .i64 e.a, .bool e.s]] w fun r w' => r = .returned (.bool (entOk e)) ∧ Below w.heap.size w w' := by
  generalize hP : entOk e = Q
  unfold entOk at hP
  cases t1 : (decide (1 ≤ e.t) && decide (e.t ≤ 99))
  · have h : Q = false := by rw [← hP, t1]; rfl
    subst h
    have T1 := hide t1
    clear hP t1
    go_enter Try.func47, Try.ntmps47
    go_wp2_with fail
    refine (within_any e.t 1 99 _).mono ?_
    rintro r w1 ⟨rfl, rfl⟩
    rw [T1.out]
    go_wp2
    go_ret
    exact ⟨rfl, below_one _ _⟩
  cases t2 : (decide (1 ≤ e.m) && decide (e.m ≤ 9999))
  · have h : Q = false := by rw [← hP, t1, t2]; rfl
    subst h
    have T1 := hide t1
    have T2 := hide t2
    clear hP t1 t2
    go_enter Try.func47, Try.ntmps47
    go_wp2_with fail
    refine (within_any e.t 1 99 _).mono ?_
    rintro r w1 ⟨rfl, rfl⟩
    rw [T1.out]
    go_wp2_with fail
    refine (within_any e.m 1 9999 _).mono ?_
    rintro r w2 ⟨rfl, rfl⟩
    rw [T2.out]
    go_wp2
    go_ret
    exact ⟨rfl, below_one _ _⟩
  cases t3 : (decide (0 ≤ e.p) && decide (e.p ≤ 7))
  · have h : Q = false := by rw [← hP, t1, t2, t3]; rfl
    subst h
    have T1 := hide t1
    have T2 := hide t2
    have T3 := hide t3
    clear hP t1 t2 t3
    go_enter Try.func47, Try.ntmps47
    go_wp2_with fail
    refine (within_any e.t 1 99 _).mono ?_
    rintro r w1 ⟨rfl, rfl⟩
    rw [T1.out]
    go_wp2_with fail
    refine (within_any e.m 1 9999 _).mono ?_
    rintro r w2 ⟨rfl, rfl⟩
    rw [T2.out]
    go_wp2_with fail
    refine (within_any e.p 0 7 _).mono ?_
    rintro r w3 ⟨rfl, rfl⟩
    rw [T3.out]
    go_wp2
    go_ret
    exact ⟨rfl, below_one _ _⟩
  cases t4 : (decide (0 ≤ e.a) && decide (e.a ≤ 4))
  · have h : Q = false := by rw [← hP, t1, t2, t3, t4]; rfl
    subst h
    have T1 := hide t1
    have T2 := hide t2
    have T3 := hide t3
    have T4 := hide t4
    clear hP t1 t2 t3 t4
    go_enter Try.func47, Try.ntmps47
    go_wp2_with fail
    refine (within_any e.t 1 99 _).mono ?_
    rintro r w1 ⟨rfl, rfl⟩
    rw [T1.out]
    go_wp2_with fail
    refine (within_any e.m 1 9999 _).mono ?_
    rintro r w2 ⟨rfl, rfl⟩
    rw [T2.out]
    go_wp2_with fail
    refine (within_any e.p 0 7 _).mono ?_
    rintro r w3 ⟨rfl, rfl⟩
    rw [T3.out]
    go_wp2_with fail
    refine (within_any e.a 0 4 _).mono ?_
    rintro r w4 ⟨rfl, rfl⟩
    rw [T4.out]
    go_wp2
    go_ret
    exact ⟨rfl, below_one _ _⟩
  rw [t1, t2, t3, t4, Bool.true_and, Bool.true_and, Bool.true_and, Bool.true_and] at hP
  have T1 := hide t1
  have T2 := hide t2
  have T3 := hide t3
  have T4 := hide t4
  clear t1 t2 t3 t4
  cases hs : e.s
  · rw [hs] at hP
    have h : Q = true := by rw [← hP]; rfl
    subst h
    clear hP
    go_enter Try.func47, Try.ntmps47
    go_wp2_with fail
    refine (within_any e.t 1 99 _).mono ?_
    rintro r w1 ⟨rfl, rfl⟩
    rw [T1.out]
    go_wp2_with fail
    refine (within_any e.m 1 9999 _).mono ?_
    rintro r w2 ⟨rfl, rfl⟩
    rw [T2.out]
    go_wp2_with fail
    refine (within_any e.p 0 7 _).mono ?_
    rintro r w3 ⟨rfl, rfl⟩
    rw [T3.out]
    go_wp2_with fail
    refine (within_any e.a 0 4 _).mono ?_
    rintro r w4 ⟨rfl, rfl⟩
    rw [T4.out]
    go_wp2
    go_ret
    exact ⟨rfl, below_one _ _⟩
  · rw [hs, Bool.not_true, Bool.false_or] at hP
    have HP := hide hP
    clear hP
    go_enter Try.func47, Try.ntmps47
    go_wp2_with fail
    refine (within_any e.t 1 99 _).mono ?_
    rintro r w1 ⟨rfl, rfl⟩
    rw [T1.out]
    go_wp2_with fail
    refine (within_any e.m 1 9999 _).mono ?_
    rintro r w2 ⟨rfl, rfl⟩
    rw [T2.out]
    go_wp2_with fail
    refine (within_any e.p 0 7 _).mono ?_
    rintro r w3 ⟨rfl, rfl⟩
    rw [T3.out]
    go_wp2_with fail
    refine (within_any e.a 0 4 _).mono ?_
    rintro r w4 ⟨rfl, rfl⟩
    rw [T4.out]
    go_wp2
    go_ret
    exact ⟨ret_bool HP.out, below_one _ _⟩

set_option maxRecDepth 100000 in
set_option maxHeartbeats 400000 in
theorem specAhead_any (e : FE) (t m : Int) (w : World) :
    Calls Try.prog 55 #[.agg #[.int .i64 e.t, .int .i64 e.m, .int .i64 e.p, .int .i64 e.a, .bool e.s], .int .i64 t, .int .i64 m] w fun r w' => r = .returned (.bool (ahead e t m)) ∧ Below w.heap.size w w' := by
  unfold ahead
  cases t1 : (e.t != t)
  · rw [if_neg Bool.false_ne_true]
    go_enter Try.func55, Try.ntmps55
    go_wp2
    go_ret
    exact ⟨rfl, below_one _ _⟩
  · rw [if_pos rfl]
    go_enter Try.func55, Try.ntmps55
    go_wp2
    go_ret
    exact ⟨rfl, below_one _ _⟩

/-- Is it right so far, the first k of them? -/
def okTo (l : List FE) (k : Nat) : Prop := ∀ i x, i < k → l[i]? = some x → entOk x = true ∧ ∀ y, 0 < i → l[i - 1]? = some y → ahead y x.t x.m = true

theorem okTo_rises : ∀ (l : List FE), rises l = true ↔ okTo l l.length
  | [] => by simp [rises, okTo]
  | [e] => by
    simp only [rises, okTo, List.length_singleton]
    constructor
    · intro h i x hi hx
      have h0 : i = 0 := by omega
      subst h0
      simp at hx
      subst hx
      exact ⟨h, fun y hy => by omega⟩
    · intro h
      exact (h 0 e (by omega) rfl).1
  | e :: f :: r => by
    have ih := okTo_rises (f :: r)
    unfold rises
    simp only [Bool.and_eq_true, ih]
    constructor
    · rintro ⟨h1, h2, h3⟩ i x hi hx
      match i, hx with
      | 0, hx =>
        simp at hx
        subst hx
        exact ⟨h1, fun y hy => by omega⟩
      | 1, hx =>
        simp at hx
        subst hx
        refine ⟨(h3 0 f (by simp) rfl).1, fun y _ hy => ?_⟩
        simp at hy
        subst hy
        exact h2
      | i + 2, hx =>
        obtain ⟨a1, a2⟩ := h3 (i + 1) x (by simp at hi ⊢; omega) (by simpa using hx)
        exact ⟨a1, fun y _ hy => a2 y (by omega) (by simpa using hy)⟩
    · intro h
      refine ⟨(h 0 e (by simp) rfl).1, (h 1 f (by simp) rfl).2 e (by omega) rfl, fun i x hi hx => ?_⟩
      obtain ⟨a1, a2⟩ := h (i + 1) x (by simp at hi ⊢; omega) (by simpa using hx)
      refine ⟨a1, fun y hy hz => a2 y (by omega) ?_⟩
      obtain ⟨j, rfl⟩ : ∃ j, i = j + 1 := ⟨i - 1, by omega⟩
      simpa using hz

theorem okTo_next {l : List FE} {k : Nat} {x : FE} (h : okTo l k) (hx : l[k]? = some x) (h1 : entOk x = true) (h2 : ∀ y, 0 < k → l[k - 1]? = some y → ahead y x.t x.m = true) : okTo l (k + 1) := by
  intro i z hi hz
  by_cases e : i = k
  · subst e
    rw [hx] at hz
    cases hz
    exact ⟨h1, h2⟩
  · exact h i z (by omega) hz

theorem fdbOk_not {l : List FE} (h : ¬ okTo l l.length) : fdbOk l = false := by
  unfold fdbOk
  have : rises l = false := by
    cases hr : rises l
    · rfl
    · exact absurd ((okTo_rises l).1 hr) h
  rw [this]
  rfl

theorem fdbOk_yes {l : List FE} (h : okTo l l.length) : fdbOk l = decide ((l.length : Int) ≤ 12) := by
  unfold fdbOk
  rw [(okTo_rises l).2 h]
  rfl

end Go.Proofs.Ytmcikcpkggonfaa
