/-
  Who is set, as the specification has it.
-/
import Derived.Test.YtmcikcpkggonfaaFdbLearnS
namespace Go.Proofs.Ytmcikcpkggonfaa
open Go.RowKit

set_option maxRecDepth 100000 in
set_option maxHeartbeats 4000000 in
theorem specSet_any (ao : Option Addr) (n cap : Nat) (l : List FE) (t m p : Int) (w : World) (h : GRow fentF w ao n cap l) (hn : n ≤ 16777216) :
    Calls Try.prog 23 #[.slice ao n cap, .int .i64 t, .int .i64 m, .int .i64 p] w fun r w' => ∃ ao' cap', r = .returned (.tuple #[.slice ao' (setF l t m p).length cap', .bool (canSet l t m p)]) ∧ w'.ownsRow w.heap.size 30 5 (.slice ao' (setF l t m p).length cap') (setF l t m p).length (fentF.all (setF l t m p)) ∧ GRow fentF w' ao' (setF l t m p).length cap' (setF l t m p) ∧ Below w.heap.size w w' := by
  have q0 := below_one w (.cells #[.int .i64 t, .int .i64 m, .int .i64 p, .int .i64 0, .bool true] 30)
  have k0 := block_last w (.cells #[.int .i64 t, .int .i64 m, .int .i64 p, .int .i64 0, .bool true] 30)
  obtain rfl := h.size
  have hla := at_look l t m
  cases hc : canSet l t m p
  · rw [show setF l t m p = l by unfold setF; rw [hc]; rfl]
    unfold canSet at hc
    cases h1 : fdbOk l
    · have H1 := hide h1
      clear hc h1
      go_enter Try.func23, Try.ntmps23
      go_wp2_with fail
      generalize w.alloc (.cells #[.int .i64 t, .int .i64 m, .int .i64 p, .int .i64 0, .bool true] 30) = wb at *
      refine (specFdbOk_any _ _ _ l _ (h.below q0)).mono ?_
      rintro r wy ⟨rfl, hby⟩
      rw [H1.out]
      have bx := gr_trans q0 hby
      have kx := kept_block k0 hby
      clear hby
      go_wp2_with fail
      refine (specCopyF_any _ _ _ l _ (h.below bx) hn).mono ?_
      rintro r w9 ⟨ao9, cap9, rfl, ho9, hr9, hb9⟩
      have HO := hide (gown_lt ho9 (base' := w.heap.size) bx.size)
      have HR := hide hr9
      have HB := hide (gr_trans bx hb9)
      clear ho9 hr9 hb9 bx
      go_wp2
      exact bodyPost_ret (v := .tuple #[.slice ao9 l.length cap9, .bool false]) (by simp [results, Try.results23, go_sem, *]) rfl ⟨_, _, rfl, HO.out, HR.out, HB.out⟩
    · cases h2 : entOk (⟨t, m, p, 0, true⟩ : FE)
      · have H1 := hide h1
        have H2 := hide h2
        clear hc h1 h2
        go_enter Try.func23, Try.ntmps23
        go_wp2_with fail
        generalize w.alloc (.cells #[.int .i64 t, .int .i64 m, .int .i64 p, .int .i64 0, .bool true] 30) = wb at *
        refine (specFdbOk_any _ _ _ l _ (h.below q0)).mono ?_
        rintro r wy ⟨rfl, hby⟩
        rw [H1.out]
        obtain ⟨⟨x0, x1, x2, x3, x4⟩, -⟩ := cells5 (kept_block k0 hby)
        go_wp2_with fail
        refine (specEnt_any (⟨t, m, p, 0, true⟩ : FE) _).mono ?_
        rintro r wx ⟨rfl, hbx⟩
        rw [H2.out]
        have bx := gr_trans q0 (gr_trans hby hbx)
        have kx := kept_block k0 (gr_trans hby hbx)
        clear hby hbx x0 x1 x2 x3 x4
        go_wp2_with fail
        refine (specCopyF_any _ _ _ l _ (h.below bx) hn).mono ?_
        rintro r w9 ⟨ao9, cap9, rfl, ho9, hr9, hb9⟩
        have HO := hide (gown_lt ho9 (base' := w.heap.size) bx.size)
        have HR := hide hr9
        have HB := hide (gr_trans bx hb9)
        clear ho9 hr9 hb9 bx
        go_wp2
        exact bodyPost_ret (v := .tuple #[.slice ao9 l.length cap9, .bool false]) (by simp [results, Try.results23, go_sem, *]) rfl ⟨_, _, rfl, HO.out, HR.out, HB.out⟩
      · rw [h1, h2, Bool.true_and, Bool.true_and] at hc
        have H1 := hide h1
        have H2 := hide h2
        clear h1 h2
        rcases hla with ⟨i, x, hat, hi, hx, hlk⟩ | ⟨hat, hlk⟩
        · rw [hlk] at hc
          simp at hc
        · rw [hlk] at hc
          have hlen : ¬ l.length < 12 := by simpa using hc
          have i5 : (12 : Int) ≤ (l.length : Int) := by omega
          have HAT := hide hat
          clear hc hat
          go_enter Try.func23, Try.ntmps23
          go_wp2_with fail
          generalize w.alloc (.cells #[.int .i64 t, .int .i64 m, .int .i64 p, .int .i64 0, .bool true] 30) = wb at *
          refine (specFdbOk_any _ _ _ l _ (h.below q0)).mono ?_
          rintro r wy ⟨rfl, hby⟩
          rw [H1.out]
          obtain ⟨⟨x0, x1, x2, x3, x4⟩, -⟩ := cells5 (kept_block k0 hby)
          go_wp2_with fail
          refine (specEnt_any (⟨t, m, p, 0, true⟩ : FE) _).mono ?_
          rintro r wx ⟨rfl, hbx⟩
          rw [H2.out]
          have bx := gr_trans q0 (gr_trans hby hbx)
          have kx := kept_block k0 (gr_trans hby hbx)
          clear hby hbx x0 x1 x2 x3 x4
          go_wp2_with fail
          refine (specAt_any _ _ _ l t m _ (h.below bx)).mono ?_
          rintro r w1 ⟨rfl, rfl⟩
          rw [HAT.out]
          go_wp2_with fail
          refine (specCopyF_any _ _ _ l _ (h.below bx) hn).mono ?_
          rintro r w9 ⟨ao9, cap9, rfl, ho9, hr9, hb9⟩
          have HO := hide (gown_lt ho9 (base' := w.heap.size) bx.size)
          have HR := hide hr9
          have HB := hide (gr_trans bx hb9)
          clear ho9 hr9 hb9 bx
          go_wp2
          exact bodyPost_ret (v := .tuple #[.slice ao9 l.length cap9, .bool false]) (by simp [results, Try.results23, go_sem, *]) rfl ⟨_, _, rfl, HO.out, HR.out, HB.out⟩
  · rw [show setF l t m p = putF8 (⟨t, m, p, 0, true⟩ : FE) l by unfold setF; rw [hc]; rfl]
    unfold canSet at hc
    simp only [Bool.and_eq_true] at hc
    obtain ⟨h1, h2, h3⟩ := hc
    have H1 := hide h1
    have H2 := hide h2
    clear h1 h2
    rcases hla with ⟨i, x, hat, hi, hx, hlk⟩ | ⟨hat, hlk⟩
    · have HAT := hide hat
      have hat2 : ¬ (i : Int) < 0 := by omega
      clear h3 hat
      go_enter Try.func23, Try.ntmps23
      go_wp2_with fail
      generalize w.alloc (.cells #[.int .i64 t, .int .i64 m, .int .i64 p, .int .i64 0, .bool true] 30) = wb at *
      refine (specFdbOk_any _ _ _ l _ (h.below q0)).mono ?_
      rintro r wy ⟨rfl, hby⟩
      rw [H1.out]
      obtain ⟨⟨x0, x1, x2, x3, x4⟩, -⟩ := cells5 (kept_block k0 hby)
      go_wp2_with fail
      refine (specEnt_any (⟨t, m, p, 0, true⟩ : FE) _).mono ?_
      rintro r wx ⟨rfl, hbx⟩
      rw [H2.out]
      have bx := gr_trans q0 (gr_trans hby hbx)
      have kx := kept_block k0 (gr_trans hby hbx)
      clear hby hbx x0 x1 x2 x3 x4
      go_wp2_with fail
      refine (specAt_any _ _ _ l t m _ (h.below bx)).mono ?_
      rintro r w1 ⟨rfl, rfl⟩
      rw [HAT.out]
      obtain ⟨⟨x0, x1, x2, x3, x4⟩, -⟩ := cells5 kx
      go_wp2_with fail
      refine (specPutF_any _ _ _ l (⟨t, m, p, 0, true⟩ : FE) _ (h.below bx) hn).mono ?_
      rintro r w9 ⟨ao9, cap9, rfl, ho9, hr9, hb9⟩
      have HO := hide (gown_lt ho9 (base' := w.heap.size) bx.size)
      have HR := hide hr9
      have HB := hide (gr_trans bx hb9)
      clear ho9 hr9 hb9 bx x0 x1 x2 x3 x4
      go_wp2
      exact bodyPost_ret (v := .tuple #[.slice ao9 (putF8 (⟨t, m, p, 0, true⟩ : FE) l).length cap9, .bool true]) (by simp [results, Try.results23, go_sem, *]) rfl ⟨_, _, rfl, HO.out, HR.out, HB.out⟩
    · rw [hlk] at h3
      have hlen : l.length < 12 := by simpa using h3
      have i5 : ¬ (12 : Int) ≤ (l.length : Int) := by omega
      have HAT := hide hat
      clear h3 hat
      go_enter Try.func23, Try.ntmps23
      go_wp2_with fail
      generalize w.alloc (.cells #[.int .i64 t, .int .i64 m, .int .i64 p, .int .i64 0, .bool true] 30) = wb at *
      refine (specFdbOk_any _ _ _ l _ (h.below q0)).mono ?_
      rintro r wy ⟨rfl, hby⟩
      rw [H1.out]
      obtain ⟨⟨x0, x1, x2, x3, x4⟩, -⟩ := cells5 (kept_block k0 hby)
      go_wp2_with fail
      refine (specEnt_any (⟨t, m, p, 0, true⟩ : FE) _).mono ?_
      rintro r wx ⟨rfl, hbx⟩
      rw [H2.out]
      have bx := gr_trans q0 (gr_trans hby hbx)
      have kx := kept_block k0 (gr_trans hby hbx)
      clear hby hbx x0 x1 x2 x3 x4
      go_wp2_with fail
      refine (specAt_any _ _ _ l t m _ (h.below bx)).mono ?_
      rintro r w1 ⟨rfl, rfl⟩
      rw [HAT.out]
      obtain ⟨⟨x0, x1, x2, x3, x4⟩, -⟩ := cells5 kx
      go_wp2_with fail
      refine (specPutF_any _ _ _ l (⟨t, m, p, 0, true⟩ : FE) _ (h.below bx) hn).mono ?_
      rintro r w9 ⟨ao9, cap9, rfl, ho9, hr9, hb9⟩
      have HO := hide (gown_lt ho9 (base' := w.heap.size) bx.size)
      have HR := hide hr9
      have HB := hide (gr_trans bx hb9)
      clear ho9 hr9 hb9 bx x0 x1 x2 x3 x4
      go_wp2
      exact bodyPost_ret (v := .tuple #[.slice ao9 (putF8 (⟨t, m, p, 0, true⟩ : FE) l).length cap9, .bool true]) (by simp [results, Try.results23, go_sem, *]) rfl ⟨_, _, rfl, HO.out, HR.out, HB.out⟩

end Go.Proofs.Ytmcikcpkggonfaa
