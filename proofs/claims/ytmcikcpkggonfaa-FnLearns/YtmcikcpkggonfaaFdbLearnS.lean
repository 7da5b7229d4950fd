/-
  Who is learned, who is set: as the specification has it.
-/
import Derived.Test.YtmcikcpkggonfaaFdbPutT
namespace Go.Proofs.Ytmcikcpkggonfaa
open Go.RowKit

theorem at_look (l : List FE) (t m : Int) : (∃ (i : Nat) (x : FE), atF l t m = i ∧ i < l.length ∧ l[i]? = some x ∧ lookE l t m = some x) ∨ (atF l t m = -1 ∧ lookE l t m = none) := by
  cases hf : l.findIdx? (fun e => both e t m) with
  | none =>
    refine .inr ⟨by unfold atF; rw [hf], ?_⟩
    rw [List.findIdx?_eq_none_iff] at hf
    exact look_none.2 (fun e he hb => by have := hf e he; rw [both_iff.2 hb] at this; cases this)
  | some i =>
    obtain ⟨hi, hp, hno⟩ := List.findIdx?_eq_some_iff_getElem.1 hf
    refine .inl ⟨i, l[i], by unfold atF; rw [hf], hi, List.getElem?_eq_getElem hi, ?_⟩
    unfold lookE
    rw [List.find?_eq_some_iff_getElem]
    exact ⟨hp, i, hi, rfl, fun j hj => by simpa using hno j hj⟩

set_option maxRecDepth 100000 in
set_option maxHeartbeats 4000000 in
theorem specLearn_any (ao : Option Addr) (n cap : Nat) (l : List FE) (t m p : Int) (w : World) (h : GRow fentF w ao n cap l) (hn : n ≤ 16777216) :
    Calls Try.prog 15 #[.slice ao n cap, .int .i64 t, .int .i64 m, .int .i64 p] w fun r w' => ∃ ao' cap', r = .returned (.slice ao' (learnF l t m p).length cap') ∧ w'.ownsRow w.heap.size 30 5 (.slice ao' (learnF l t m p).length cap') (learnF l t m p).length (fentF.all (learnF l t m p)) ∧ GRow fentF w' ao' (learnF l t m p).length cap' (learnF l t m p) ∧ Below w.heap.size w w' := by
  have q0 := below_one w (.cells #[.int .i64 t, .int .i64 m, .int .i64 p, .int .i64 0, .bool false] 30)
  have k0 := block_last w (.cells #[.int .i64 t, .int .i64 m, .int .i64 p, .int .i64 0, .bool false] 30)
  obtain rfl := h.size
  have hla := at_look l t m
  cases hc : canLearn l t m p
  · rw [show learnF l t m p = l by unfold learnF; rw [hc]; rfl]
    unfold canLearn at hc
    cases h1 : fdbOk l
    · have H1 := hide h1
      clear hc h1
      go_enter Try.func15, Try.ntmps15
      go_wp2_with fail
      generalize w.alloc (.cells #[.int .i64 t, .int .i64 m, .int .i64 p, .int .i64 0, .bool false] 30) = wb at *
      refine (specAt_any _ _ _ l t m _ (h.below q0)).mono ?_
      rintro r w1 ⟨rfl, rfl⟩
      go_wp2_with fail
      refine (specFdbOk_any _ _ _ l _ (h.below q0)).mono ?_
      rintro r wx ⟨rfl, hbx⟩
      rw [H1.out]
      have bx := gr_trans q0 hbx
      clear hbx
      go_wp2_with fail
      refine (specCopyF_any _ _ _ l _ (h.below bx) hn).mono ?_
      rintro r w9 ⟨ao9, cap9, rfl, ho9, hr9, hb9⟩
      have HO := hide (gown_lt ho9 (base' := w.heap.size) bx.size)
      have HR := hide hr9
      have HB := hide (gr_trans bx hb9)
      clear ho9 hr9 hb9 bx
      go_wp2
      go_ret
      exact ⟨_, _, rfl, HO.out, HR.out, HB.out⟩
    · cases h2 : entOk (⟨t, m, p, 0, false⟩ : FE)
      · have H1 := hide h1
        have H2 := hide h2
        clear hc h1 h2
        go_enter Try.func15, Try.ntmps15
        go_wp2_with fail
        generalize w.alloc (.cells #[.int .i64 t, .int .i64 m, .int .i64 p, .int .i64 0, .bool false] 30) = wb at *
        refine (specAt_any _ _ _ l t m _ (h.below q0)).mono ?_
        rintro r w1 ⟨rfl, rfl⟩
        go_wp2_with fail
        refine (specFdbOk_any _ _ _ l _ (h.below q0)).mono ?_
        rintro r wy ⟨rfl, hby⟩
        rw [H1.out]
        obtain ⟨⟨x0, x1, x2, x3, x4⟩, -⟩ := cells5 (kept_block k0 hby)
        go_wp2_with fail
        refine (specEnt_any (⟨t, m, p, 0, false⟩ : FE) _).mono ?_
        rintro r wx ⟨rfl, hbx⟩
        rw [H2.out]
        have bx := gr_trans q0 (gr_trans hby hbx)
        clear hby hbx x0 x1 x2 x3 x4
        go_wp2_with fail
        refine (specCopyF_any _ _ _ l _ (h.below bx) hn).mono ?_
        rintro r w9 ⟨ao9, cap9, rfl, ho9, hr9, hb9⟩
        have HO := hide (gown_lt ho9 (base' := w.heap.size) bx.size)
        have HR := hide hr9
        have HB := hide (gr_trans bx hb9)
        clear ho9 hr9 hb9 bx
        go_wp2
        go_ret
        exact ⟨_, _, rfl, HO.out, HR.out, HB.out⟩
      · rw [h1, h2, Bool.true_and, Bool.true_and] at hc
        have H1 := hide h1
        have H2 := hide h2
        clear h1 h2
        rcases hla with ⟨i, x, hat, hi, hx, hlk⟩ | ⟨hat, hlk⟩
        · rw [hlk] at hc
          have hs : x.s = true := by simpa using hc
          have HAT := hide hat
          have hat1 : (i : Int) ≥ 0 := by omega
          have hat2 : ¬ (i : Int) < 0 := by omega
          clear hc hat
          go_enter Try.func15, Try.ntmps15
          go_wp2_with fail
          generalize w.alloc (.cells #[.int .i64 t, .int .i64 m, .int .i64 p, .int .i64 0, .bool false] 30) = wb at *
          refine (specAt_any _ _ _ l t m _ (h.below q0)).mono ?_
          rintro r w1 ⟨rfl, rfl⟩
          rw [HAT.out]
          go_wp2_with fail
          refine (specFdbOk_any _ _ _ l _ (h.below q0)).mono ?_
          rintro r wy ⟨rfl, hby⟩
          rw [H1.out]
          obtain ⟨⟨x0, x1, x2, x3, x4⟩, -⟩ := cells5 (kept_block k0 hby)
          go_wp2_with fail
          refine (specEnt_any (⟨t, m, p, 0, false⟩ : FE) _).mono ?_
          rintro r wx ⟨rfl, hbx⟩
          rw [H2.out]
          have bx := gr_trans q0 (gr_trans hby hbx)
          obtain ⟨x', b, off, hx', rfl, -, -, -, -, c4⟩ := fent_at (h.below bx) i hi
          rw [hx] at hx'
          cases hx'
          rw [hs] at c4
          clear hby hbx x0 x1 x2 x3 x4
          go_wp2_with fail
          refine (specCopyF_any _ _ _ l _ (h.below bx) hn).mono ?_
          rintro r w9 ⟨ao9, cap9, rfl, ho9, hr9, hb9⟩
          have HO := hide (gown_lt ho9 (base' := w.heap.size) bx.size)
          have HR := hide hr9
          have HB := hide (gr_trans bx hb9)
          clear ho9 hr9 hb9 bx
          go_wp2
          go_ret
          exact ⟨_, _, rfl, HO.out, HR.out, HB.out⟩
        · rw [hlk] at hc
          have hlen : ¬ l.length < 12 := by simpa using hc
          have HAT := hide hat
          clear hc hat
          go_enter Try.func15, Try.ntmps15
          go_wp2_with fail
          generalize w.alloc (.cells #[.int .i64 t, .int .i64 m, .int .i64 p, .int .i64 0, .bool false] 30) = wb at *
          refine (specAt_any _ _ _ l t m _ (h.below q0)).mono ?_
          rintro r w1 ⟨rfl, rfl⟩
          rw [HAT.out]
          go_wp2_with fail
          refine (specFdbOk_any _ _ _ l _ (h.below q0)).mono ?_
          rintro r wy ⟨rfl, hby⟩
          rw [H1.out]
          obtain ⟨⟨x0, x1, x2, x3, x4⟩, -⟩ := cells5 (kept_block k0 hby)
          go_wp2_with fail
          refine (specEnt_any (⟨t, m, p, 0, false⟩ : FE) _).mono ?_
          rintro r wx ⟨rfl, hbx⟩
          rw [H2.out]
          have bx := gr_trans q0 (gr_trans hby hbx)
          have i5 : (12 : Int) ≤ (l.length : Int) := by omega
          clear hby hbx x0 x1 x2 x3 x4
          go_wp2_with fail
          refine (specCopyF_any _ _ _ l _ (h.below bx) hn).mono ?_
          rintro r w9 ⟨ao9, cap9, rfl, ho9, hr9, hb9⟩
          have HO := hide (gown_lt ho9 (base' := w.heap.size) bx.size)
          have HR := hide hr9
          have HB := hide (gr_trans bx hb9)
          clear ho9 hr9 hb9 bx
          go_wp2
          go_ret
          exact ⟨_, _, rfl, HO.out, HR.out, HB.out⟩
  · rw [show learnF l t m p = putF8 (⟨t, m, p, 0, false⟩ : FE) l by unfold learnF; rw [hc]; rfl]
    unfold canLearn at hc
    simp only [Bool.and_eq_true] at hc
    obtain ⟨h1, h2, h3⟩ := hc
    have H1 := hide h1
    have H2 := hide h2
    clear h1 h2
    rcases hla with ⟨i, x, hat, hi, hx, hlk⟩ | ⟨hat, hlk⟩
    · rw [hlk] at h3
      have hs : x.s = false := by simpa using h3
      have HAT := hide hat
      have hat1 : (i : Int) ≥ 0 := by omega
      have hat2 : ¬ (i : Int) < 0 := by omega
      clear h3 hat
      go_enter Try.func15, Try.ntmps15
      go_wp2_with fail
      generalize w.alloc (.cells #[.int .i64 t, .int .i64 m, .int .i64 p, .int .i64 0, .bool false] 30) = wb at *
      refine (specAt_any _ _ _ l t m _ (h.below q0)).mono ?_
      rintro r w1 ⟨rfl, rfl⟩
      rw [HAT.out]
      go_wp2_with fail
      refine (specFdbOk_any _ _ _ l _ (h.below q0)).mono ?_
      rintro r wy ⟨rfl, hby⟩
      rw [H1.out]
      obtain ⟨⟨x0, x1, x2, x3, x4⟩, -⟩ := cells5 (kept_block k0 hby)
      go_wp2_with fail
      refine (specEnt_any (⟨t, m, p, 0, false⟩ : FE) _).mono ?_
      rintro r wx ⟨rfl, hbx⟩
      rw [H2.out]
      have bx := gr_trans q0 (gr_trans hby hbx)
      have kx := kept_block k0 (gr_trans hby hbx)
      obtain ⟨x', b, off, hx', rfl, -, -, -, -, c4⟩ := fent_at (h.below bx) i hi
      rw [hx] at hx'
      cases hx'
      rw [hs] at c4
      clear hby hbx x0 x1 x2 x3 x4
      obtain ⟨⟨x0, x1, x2, x3, x4⟩, -⟩ := cells5 kx
      go_wp2_with fail
      refine (specPutF_any _ _ _ l (⟨t, m, p, 0, false⟩ : FE) _ (h.below bx) hn).mono ?_
      rintro r w9 ⟨ao9, cap9, rfl, ho9, hr9, hb9⟩
      have HO := hide (gown_lt ho9 (base' := w.heap.size) bx.size)
      have HR := hide hr9
      have HB := hide (gr_trans bx hb9)
      clear ho9 hr9 hb9 bx x0 x1 x2 x3 x4
      go_wp2
      go_ret
      exact ⟨_, _, rfl, HO.out, HR.out, HB.out⟩
    · rw [hlk] at h3
      have hlen : l.length < 12 := by simpa using h3
      have HAT := hide hat
      clear h3 hat
      go_enter Try.func15, Try.ntmps15
      go_wp2_with fail
      generalize w.alloc (.cells #[.int .i64 t, .int .i64 m, .int .i64 p, .int .i64 0, .bool false] 30) = wb at *
      refine (specAt_any _ _ _ l t m _ (h.below q0)).mono ?_
      rintro r w1 ⟨rfl, rfl⟩
      rw [HAT.out]
      go_wp2_with fail
      refine (specFdbOk_any _ _ _ l _ (h.below q0)).mono ?_
      rintro r wy ⟨rfl, hby⟩
      rw [H1.out]
      obtain ⟨⟨x0, x1, x2, x3, x4⟩, -⟩ := cells5 (kept_block k0 hby)
      go_wp2_with fail
      refine (specEnt_any (⟨t, m, p, 0, false⟩ : FE) _).mono ?_
      rintro r wx ⟨rfl, hbx⟩
      rw [H2.out]
      have bx := gr_trans q0 (gr_trans hby hbx)
      have kx := kept_block k0 (gr_trans hby hbx)
      have i5 : ¬ (12 : Int) ≤ (l.length : Int) := by omega
      clear hby hbx x0 x1 x2 x3 x4
      obtain ⟨⟨x0, x1, x2, x3, x4⟩, -⟩ := cells5 kx
      go_wp2_with fail
      refine (specPutF_any _ _ _ l (⟨t, m, p, 0, false⟩ : FE) _ (h.below bx) hn).mono ?_
      rintro r w9 ⟨ao9, cap9, rfl, ho9, hr9, hb9⟩
      have HO := hide (gown_lt ho9 (base' := w.heap.size) bx.size)
      have HR := hide hr9
      have HB := hide (gr_trans bx hb9)
      clear ho9 hr9 hb9 bx x0 x1 x2 x3 x4
      go_wp2
      go_ret
      exact ⟨_, _, rfl, HO.out, HR.out, HB.out⟩

end Go.Proofs.Ytmcikcpkggonfaa
