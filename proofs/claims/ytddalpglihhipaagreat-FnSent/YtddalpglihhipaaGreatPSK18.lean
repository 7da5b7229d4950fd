/-
  Packed: FdbLearnS FdbSetS FdbRestS DrawFdb BrBuild FwdOutS Box11 FwdBox BrCopyS BrTurnS.
-/
import Derived.Test.YtddalpglihhipaaGreatPSKW
import Derived.Test.YtddalpglihhipaaGreatPSFdbPutT
import Derived.Test.YtddalpglihhipaaGreatPSK01
import Derived.Test.YtddalpglihhipaaGreatPSK02
import Derived.Test.YtddalpglihhipaaGreatPSK03
import Derived.Test.YtddalpglihhipaaGreatPSK04
import Derived.Test.YtddalpglihhipaaGreatPSK11
import Derived.Test.YtddalpglihhipaaGreatPSK12
import Derived.Test.YtddalpglihhipaaGreatPSK17
import Derived.Deep.RegionHeld3
namespace Go.Proofs.YtddalpglihhipaaGreat
open Go.RowKit

theorem at_look (l : List FE) (t m : Int) : (∃ (i : Nat) (x : FE), atF l t m = i ∧ i < l.length ∧ l[i]? = some x ∧ lookE l t m = some x) ∨ (atF l t m = -1 ∧ lookE l t m = none) := by
 cases hf : l.findIdx? (fun e => both e t m) with
 | none =>
  refine .inr ⟨by unfold atF; rw [hf], ?_⟩
  rw [List.findIdx?_eq_none_iff] at hf
  exact look_none.2 (fun e he hb => by have := hf e he; rw [both_iff.2 hb] at this; cases this)
 | some i =>
  obtain ⟨hi, hp, hno⟩ := List.findIdx?_eq_some_iff_getElem.1 hf
  refine .inl ⟨i, l[i], by unfold atF; rw [hf], hi, List.getElem?_eq_getElem hi, ?_⟩
  unfold lookE
  rw [List.find?_eq_some_iff_getElem]
  exact ⟨hp, i, hi, rfl, fun j hj => by simpa using hno j hj⟩

set_option maxRecDepth 100000 in
set_option maxHeartbeats 4000000 in
theorem specLearn_any (ao : Option Addr) (n cap : Nat) (l : List FE) (t m p : Int) (w : World) (h : GRow fentF w ao n cap l) (hn : n ≤ 16777216) :
  Calls Tryz.prog 55 #[.slice ao n cap, .int .i64 t, .int .i64 m, .int .i64 p] w fun r w' => ∃ ao' cap', r = .returned (.slice ao' (learnF l t m p).length cap') ∧ w'.ownsRow w.heap.size 97 5 (.slice ao' (learnF l t m p).length cap') (learnF l t m p).length (fentF.all (learnF l t m p)) ∧ GRow fentF w' ao' (learnF l t m p).length cap' (learnF l t m p) ∧ Below w.heap.size w w' := by
 have q0 := below_one w (.cells #[.int .i64 t, .int .i64 m, .int .i64 p, .int .i64 0, .bool false] 97)
 have k0 := block_last w (.cells #[.int .i64 t, .int .i64 m, .int .i64 p, .int .i64 0, .bool false] 97)
 obtain rfl := h.size
 have hla := at_look l t m
 cases hc : canLearn l t m p
 ·rw [show learnF l t m p = l by unfold learnF; rw [hc]; rfl]
  unfold canLearn at hc
  cases h1 : fdbOk l
  ·have H1 := hide h1
   clear hc h1
   go_enter Tryz.func55, Tryz.ntmps55
   go_wp2_with fail
   generalize w.alloc (.cells #[.int .i64 t, .int .i64 m, .int .i64 p, .int .i64 0, .bool false] 97) = wb at *
   refine (specAt_any _ _ _ l t m _ (h.below q0)).mono ?_
   rintro r w1 ⟨rfl, rfl⟩
   go_wp2_with fail
   refine (specFdbOk_any _ _ _ l _ (h.below q0)).mono ?_
   rintro r wx ⟨rfl, hbx⟩
   rw [H1.out]
   have bx := gr_trans q0 hbx
   clear hbx
   go_wp2_with fail
   refine (specCopyF_any _ _ _ l _ (h.below bx) hn).mono ?_
   rintro r w9 ⟨ao9, cap9, rfl, ho9, hr9, hb9⟩
   have HO := hide (gown_lt ho9 (base' := w.heap.size) bx.size)
   have HR := hide hr9
   have HB := hide (gr_trans bx hb9)
   clear ho9 hr9 hb9 bx
   go_wp2
   go_ret
   exact ⟨_, _, rfl, HO.out, HR.out, HB.out⟩
  ·cases h2 : entOk (⟨t, m, p, 0, false⟩ : FE)
   ·have H1 := hide h1
    have H2 := hide h2
    clear hc h1 h2
    go_enter Tryz.func55, Tryz.ntmps55
    go_wp2_with fail
    generalize w.alloc (.cells #[.int .i64 t, .int .i64 m, .int .i64 p, .int .i64 0, .bool false] 97) = wb at *
    refine (specAt_any _ _ _ l t m _ (h.below q0)).mono ?_
    rintro r w1 ⟨rfl, rfl⟩
    go_wp2_with fail
    refine (specFdbOk_any _ _ _ l _ (h.below q0)).mono ?_
    rintro r wy ⟨rfl, hby⟩
    rw [H1.out]
    obtain ⟨⟨x0, x1, x2, x3, x4⟩, -⟩ := cells5 (kept_block k0 hby)
    go_wp2_with fail
    refine (specEnt_any (⟨t, m, p, 0, false⟩ : FE) _).mono ?_
    rintro r wx ⟨rfl, hbx⟩
    rw [H2.out]
    have bx := gr_trans q0 (gr_trans hby hbx)
    clear hby hbx x0 x1 x2 x3 x4
    go_wp2_with fail
    refine (specCopyF_any _ _ _ l _ (h.below bx) hn).mono ?_
    rintro r w9 ⟨ao9, cap9, rfl, ho9, hr9, hb9⟩
    have HO := hide (gown_lt ho9 (base' := w.heap.size) bx.size)
    have HR := hide hr9
    have HB := hide (gr_trans bx hb9)
    clear ho9 hr9 hb9 bx
    go_wp2
    go_ret
    exact ⟨_, _, rfl, HO.out, HR.out, HB.out⟩
   ·rw [h1, h2, Bool.true_and, Bool.true_and] at hc
    have H1 := hide h1
    have H2 := hide h2
    clear h1 h2
    rcases hla with ⟨i, x, hat, hi, hx, hlk⟩ | ⟨hat, hlk⟩
    ·rw [hlk] at hc
     have hs : x.s = true := by simpa using hc
     have HAT := hide hat
     have hat1 : (i : Int) ≥ 0 := by omega
     have hat2 : ¬ (i : Int) < 0 := by omega
     clear hc hat
     go_enter Tryz.func55, Tryz.ntmps55
     go_wp2_with fail
     generalize w.alloc (.cells #[.int .i64 t, .int .i64 m, .int .i64 p, .int .i64 0, .bool false] 97) = wb at *
     refine (specAt_any _ _ _ l t m _ (h.below q0)).mono ?_
     rintro r w1 ⟨rfl, rfl⟩
     rw [HAT.out]
     go_wp2_with fail
     refine (specFdbOk_any _ _ _ l _ (h.below q0)).mono ?_
     rintro r wy ⟨rfl, hby⟩
     rw [H1.out]
     obtain ⟨⟨x0, x1, x2, x3, x4⟩, -⟩ := cells5 (kept_block k0 hby)
     go_wp2_with fail
     refine (specEnt_any (⟨t, m, p, 0, false⟩ : FE) _).mono ?_
     rintro r wx ⟨rfl, hbx⟩
     rw [H2.out]
     have bx := gr_trans q0 (gr_trans hby hbx)
     obtain ⟨x', b, off, hx', rfl, -, -, -, -, c4⟩ := fent_at (h.below bx) i hi
     rw [hx] at hx'
     cases hx'
     rw [hs] at c4
     clear hby hbx x0 x1 x2 x3 x4
     go_wp2_with fail
     refine (specCopyF_any _ _ _ l _ (h.below bx) hn).mono ?_
     rintro r w9 ⟨ao9, cap9, rfl, ho9, hr9, hb9⟩
     have HO := hide (gown_lt ho9 (base' := w.heap.size) bx.size)
     have HR := hide hr9
     have HB := hide (gr_trans bx hb9)
     clear ho9 hr9 hb9 bx
     go_wp2
     go_ret
     exact ⟨_, _, rfl, HO.out, HR.out, HB.out⟩
    ·rw [hlk] at hc
     have hlen : ¬ l.length < 12 := by simpa using hc
     have HAT := hide hat
     clear hc hat
     go_enter Tryz.func55, Tryz.ntmps55
     go_wp2_with fail
     generalize w.alloc (.cells #[.int .i64 t, .int .i64 m, .int .i64 p, .int .i64 0, .bool false] 97) = wb at *
     refine (specAt_any _ _ _ l t m _ (h.below q0)).mono ?_
     rintro r w1 ⟨rfl, rfl⟩
     rw [HAT.out]
     go_wp2_with fail
     refine (specFdbOk_any _ _ _ l _ (h.below q0)).mono ?_
     rintro r wy ⟨rfl, hby⟩
     rw [H1.out]
     obtain ⟨⟨x0, x1, x2, x3, x4⟩, -⟩ := cells5 (kept_block k0 hby)
     go_wp2_with fail
     refine (specEnt_any (⟨t, m, p, 0, false⟩ : FE) _).mono ?_
     rintro r wx ⟨rfl, hbx⟩
     rw [H2.out]
     have bx := gr_trans q0 (gr_trans hby hbx)
     have i5 : (12 : Int) ≤ (l.length : Int) := by omega
     clear hby hbx x0 x1 x2 x3 x4
     go_wp2_with fail
     refine (specCopyF_any _ _ _ l _ (h.below bx) hn).mono ?_
     rintro r w9 ⟨ao9, cap9, rfl, ho9, hr9, hb9⟩
     have HO := hide (gown_lt ho9 (base' := w.heap.size) bx.size)
     have HR := hide hr9
     have HB := hide (gr_trans bx hb9)
     clear ho9 hr9 hb9 bx
     go_wp2
     go_ret
     exact ⟨_, _, rfl, HO.out, HR.out, HB.out⟩
 ·rw [show learnF l t m p = putF8 (⟨t, m, p, 0, false⟩ : FE) l by unfold learnF; rw [hc]; rfl]
  unfold canLearn at hc
  simp only [Bool.and_eq_true] at hc
  obtain ⟨h1, h2, h3⟩ := hc
  have H1 := hide h1
  have H2 := hide h2
  clear h1 h2
  rcases hla with ⟨i, x, hat, hi, hx, hlk⟩ | ⟨hat, hlk⟩
  ·rw [hlk] at h3
   have hs : x.s = false := by simpa using h3
   have HAT := hide hat
   have hat1 : (i : Int) ≥ 0 := by omega
   have hat2 : ¬ (i : Int) < 0 := by omega
   clear h3 hat
   go_enter Tryz.func55, Tryz.ntmps55
   go_wp2_with fail
   generalize w.alloc (.cells #[.int .i64 t, .int .i64 m, .int .i64 p, .int .i64 0, .bool false] 97) = wb at *
   refine (specAt_any _ _ _ l t m _ (h.below q0)).mono ?_
   rintro r w1 ⟨rfl, rfl⟩
   rw [HAT.out]
   go_wp2_with fail
   refine (specFdbOk_any _ _ _ l _ (h.below q0)).mono ?_
   rintro r wy ⟨rfl, hby⟩
   rw [H1.out]
   obtain ⟨⟨x0, x1, x2, x3, x4⟩, -⟩ := cells5 (kept_block k0 hby)
   go_wp2_with fail
   refine (specEnt_any (⟨t, m, p, 0, false⟩ : FE) _).mono ?_
   rintro r wx ⟨rfl, hbx⟩
   rw [H2.out]
   have bx := gr_trans q0 (gr_trans hby hbx)
   have kx := kept_block k0 (gr_trans hby hbx)
   obtain ⟨x', b, off, hx', rfl, -, -, -, -, c4⟩ := fent_at (h.below bx) i hi
   rw [hx] at hx'
   cases hx'
   rw [hs] at c4
   clear hby hbx x0 x1 x2 x3 x4
   obtain ⟨⟨x0, x1, x2, x3, x4⟩, -⟩ := cells5 kx
   go_wp2_with fail
   refine (specPutF_any _ _ _ l (⟨t, m, p, 0, false⟩ : FE) _ (h.below bx) hn).mono ?_
   rintro r w9 ⟨ao9, cap9, rfl, ho9, hr9, hb9⟩
   have HO := hide (gown_lt ho9 (base' := w.heap.size) bx.size)
   have HR := hide hr9
   have HB := hide (gr_trans bx hb9)
   clear ho9 hr9 hb9 bx x0 x1 x2 x3 x4
   go_wp2
   go_ret
   exact ⟨_, _, rfl, HO.out, HR.out, HB.out⟩
  ·rw [hlk] at h3
   have hlen : l.length < 12 := by simpa using h3
   have HAT := hide hat
   clear h3 hat
   go_enter Tryz.func55, Tryz.ntmps55
   go_wp2_with fail
   generalize w.alloc (.cells #[.int .i64 t, .int .i64 m, .int .i64 p, .int .i64 0, .bool false] 97) = wb at *
   refine (specAt_any _ _ _ l t m _ (h.below q0)).mono ?_
   rintro r w1 ⟨rfl, rfl⟩
   rw [HAT.out]
   go_wp2_with fail
   refine (specFdbOk_any _ _ _ l _ (h.below q0)).mono ?_
   rintro r wy ⟨rfl, hby⟩
   rw [H1.out]
   obtain ⟨⟨x0, x1, x2, x3, x4⟩, -⟩ := cells5 (kept_block k0 hby)
   go_wp2_with fail
   refine (specEnt_any (⟨t, m, p, 0, false⟩ : FE) _).mono ?_
   rintro r wx ⟨rfl, hbx⟩
   rw [H2.out]
   have bx := gr_trans q0 (gr_trans hby hbx)
   have kx := kept_block k0 (gr_trans hby hbx)
   have i5 : ¬ (12 : Int) ≤ (l.length : Int) := by omega
   clear hby hbx x0 x1 x2 x3 x4
   obtain ⟨⟨x0, x1, x2, x3, x4⟩, -⟩ := cells5 kx
   go_wp2_with fail
   refine (specPutF_any _ _ _ l (⟨t, m, p, 0, false⟩ : FE) _ (h.below bx) hn).mono ?_
   rintro r w9 ⟨ao9, cap9, rfl, ho9, hr9, hb9⟩
   have HO := hide (gown_lt ho9 (base' := w.heap.size) bx.size)
   have HR := hide hr9
   have HB := hide (gr_trans bx hb9)
   clear ho9 hr9 hb9 bx x0 x1 x2 x3 x4
   go_wp2
   go_ret
   exact ⟨_, _, rfl, HO.out, HR.out, HB.out⟩

set_option maxRecDepth 100000 in
set_option maxHeartbeats 4000000 in
theorem specSet_any (ao : Option Addr) (n cap : Nat) (l : List FE) (t m p : Int) (w : World) (h : GRow fentF w ao n cap l) (hn : n ≤ 16777216) :
  Calls Tryz.prog 102 #[.slice ao n cap, .int .i64 t, .int .i64 m, .int .i64 p] w fun r w' => ∃ ao' cap', r = .returned (.tuple #[.slice ao' (setF l t m p).length cap', .bool (canSet l t m p)]) ∧ w'.ownsRow w.heap.size 97 5 (.slice ao' (setF l t m p).length cap') (setF l t m p).length (fentF.all (setF l t m p)) ∧ GRow fentF w' ao' (setF l t m p).length cap' (setF l t m p) ∧ Below w.heap.size w w' := by
 have q0 := below_one w (.cells #[.int .i64 t, .int .i64 m, .int .i64 p, .int .i64 0, .bool true] 97)
 have k0 := block_last w (.cells #[.int .i64 t, .int .i64 m, .int .i64 p, .int .i64 0, .bool true] 97)
 obtain rfl := h.size
 have hla := at_look l t m
 cases hc : canSet l t m p
 ·rw [show setF l t m p = l by unfold setF; rw [hc]; rfl]
  unfold canSet at hc
  cases h1 : fdbOk l
  ·have H1 := hide h1
   clear hc h1
   go_enter Tryz.func102, Tryz.ntmps102
   go_wp2_with fail
   generalize w.alloc (.cells #[.int .i64 t, .int .i64 m, .int .i64 p, .int .i64 0, .bool true] 97) = wb at *
   refine (specFdbOk_any _ _ _ l _ (h.below q0)).mono ?_
   rintro r wy ⟨rfl, hby⟩
   rw [H1.out]
   have bx := gr_trans q0 hby
   have kx := kept_block k0 hby
   clear hby
   go_wp2_with fail
   refine (specCopyF_any _ _ _ l _ (h.below bx) hn).mono ?_
   rintro r w9 ⟨ao9, cap9, rfl, ho9, hr9, hb9⟩
   have HO := hide (gown_lt ho9 (base' := w.heap.size) bx.size)
   have HR := hide hr9
   have HB := hide (gr_trans bx hb9)
   clear ho9 hr9 hb9 bx
   go_wp2
   exact bodyPost_ret (v := .tuple #[.slice ao9 l.length cap9, .bool false]) (by simp [results, Tryz.results102, go_sem, *]) rfl ⟨_, _, rfl, HO.out, HR.out, HB.out⟩
  ·cases h2 : entOk (⟨t, m, p, 0, true⟩ : FE)
   ·have H1 := hide h1
    have H2 := hide h2
    clear hc h1 h2
    go_enter Tryz.func102, Tryz.ntmps102
    go_wp2_with fail
    generalize w.alloc (.cells #[.int .i64 t, .int .i64 m, .int .i64 p, .int .i64 0, .bool true] 97) = wb at *
    refine (specFdbOk_any _ _ _ l _ (h.below q0)).mono ?_
    rintro r wy ⟨rfl, hby⟩
    rw [H1.out]
    obtain ⟨⟨x0, x1, x2, x3, x4⟩, -⟩ := cells5 (kept_block k0 hby)
    go_wp2_with fail
    refine (specEnt_any (⟨t, m, p, 0, true⟩ : FE) _).mono ?_
    rintro r wx ⟨rfl, hbx⟩
    rw [H2.out]
    have bx := gr_trans q0 (gr_trans hby hbx)
    have kx := kept_block k0 (gr_trans hby hbx)
    clear hby hbx x0 x1 x2 x3 x4
    go_wp2_with fail
    refine (specCopyF_any _ _ _ l _ (h.below bx) hn).mono ?_
    rintro r w9 ⟨ao9, cap9, rfl, ho9, hr9, hb9⟩
    have HO := hide (gown_lt ho9 (base' := w.heap.size) bx.size)
    have HR := hide hr9
    have HB := hide (gr_trans bx hb9)
    clear ho9 hr9 hb9 bx
    go_wp2
    exact bodyPost_ret (v := .tuple #[.slice ao9 l.length cap9, .bool false]) (by simp [results, Tryz.results102, go_sem, *]) rfl ⟨_, _, rfl, HO.out, HR.out, HB.out⟩
   ·rw [h1, h2, Bool.true_and, Bool.true_and] at hc
    have H1 := hide h1
    have H2 := hide h2
    clear h1 h2
    rcases hla with ⟨i, x, hat, hi, hx, hlk⟩ | ⟨hat, hlk⟩
    ·rw [hlk] at hc
     simp at hc
    ·rw [hlk] at hc
     have hlen : ¬ l.length < 12 := by simpa using hc
     have i5 : (12 : Int) ≤ (l.length : Int) := by omega
     have HAT := hide hat
     clear hc hat
     go_enter Tryz.func102, Tryz.ntmps102
     go_wp2_with fail
     generalize w.alloc (.cells #[.int .i64 t, .int .i64 m, .int .i64 p, .int .i64 0, .bool true] 97) = wb at *
     refine (specFdbOk_any _ _ _ l _ (h.below q0)).mono ?_
     rintro r wy ⟨rfl, hby⟩
     rw [H1.out]
     obtain ⟨⟨x0, x1, x2, x3, x4⟩, -⟩ := cells5 (kept_block k0 hby)
     go_wp2_with fail
     refine (specEnt_any (⟨t, m, p, 0, true⟩ : FE) _).mono ?_
     rintro r wx ⟨rfl, hbx⟩
     rw [H2.out]
     have bx := gr_trans q0 (gr_trans hby hbx)
     have kx := kept_block k0 (gr_trans hby hbx)
     clear hby hbx x0 x1 x2 x3 x4
     go_wp2_with fail
     refine (specAt_any _ _ _ l t m _ (h.below bx)).mono ?_
     rintro r w1 ⟨rfl, rfl⟩
     rw [HAT.out]
     go_wp2_with fail
     refine (specCopyF_any _ _ _ l _ (h.below bx) hn).mono ?_
     rintro r w9 ⟨ao9, cap9, rfl, ho9, hr9, hb9⟩
     have HO := hide (gown_lt ho9 (base' := w.heap.size) bx.size)
     have HR := hide hr9
     have HB := hide (gr_trans bx hb9)
     clear ho9 hr9 hb9 bx
     go_wp2
     exact bodyPost_ret (v := .tuple #[.slice ao9 l.length cap9, .bool false]) (by simp [results, Tryz.results102, go_sem, *]) rfl ⟨_, _, rfl, HO.out, HR.out, HB.out⟩
 ·rw [show setF l t m p = putF8 (⟨t, m, p, 0, true⟩ : FE) l by unfold setF; rw [hc]; rfl]
  unfold canSet at hc
  simp only [Bool.and_eq_true] at hc
  obtain ⟨h1, h2, h3⟩ := hc
  have H1 := hide h1
  have H2 := hide h2
  clear h1 h2
  rcases hla with ⟨i, x, hat, hi, hx, hlk⟩ | ⟨hat, hlk⟩
  ·have HAT := hide hat
   have hat2 : ¬ (i : Int) < 0 := by omega
   clear h3 hat
   go_enter Tryz.func102, Tryz.ntmps102
   go_wp2_with fail
   generalize w.alloc (.cells #[.int .i64 t, .int .i64 m, .int .i64 p, .int .i64 0, .bool true] 97) = wb at *
   refine (specFdbOk_any _ _ _ l _ (h.below q0)).mono ?_
   rintro r wy ⟨rfl, hby⟩
   rw [H1.out]
   obtain ⟨⟨x0, x1, x2, x3, x4⟩, -⟩ := cells5 (kept_block k0 hby)
   go_wp2_with fail
   refine (specEnt_any (⟨t, m, p, 0, true⟩ : FE) _).mono ?_
   rintro r wx ⟨rfl, hbx⟩
   rw [H2.out]
   have bx := gr_trans q0 (gr_trans hby hbx)
   have kx := kept_block k0 (gr_trans hby hbx)
   clear hby hbx x0 x1 x2 x3 x4
   go_wp2_with fail
   refine (specAt_any _ _ _ l t m _ (h.below bx)).mono ?_
   rintro r w1 ⟨rfl, rfl⟩
   rw [HAT.out]
   obtain ⟨⟨x0, x1, x2, x3, x4⟩, -⟩ := cells5 kx
   go_wp2_with fail
   refine (specPutF_any _ _ _ l (⟨t, m, p, 0, true⟩ : FE) _ (h.below bx) hn).mono ?_
   rintro r w9 ⟨ao9, cap9, rfl, ho9, hr9, hb9⟩
   have HO := hide (gown_lt ho9 (base' := w.heap.size) bx.size)
   have HR := hide hr9
   have HB := hide (gr_trans bx hb9)
   clear ho9 hr9 hb9 bx x0 x1 x2 x3 x4
   go_wp2
   exact bodyPost_ret (v := .tuple #[.slice ao9 (putF8 (⟨t, m, p, 0, true⟩ : FE) l).length cap9, .bool true]) (by simp [results, Tryz.results102, go_sem, *]) rfl ⟨_, _, rfl, HO.out, HR.out, HB.out⟩
  ·rw [hlk] at h3
   have hlen : l.length < 12 := by simpa using h3
   have i5 : ¬ (12 : Int) ≤ (l.length : Int) := by omega
   have HAT := hide hat
   clear h3 hat
   go_enter Tryz.func102, Tryz.ntmps102
   go_wp2_with fail
   generalize w.alloc (.cells #[.int .i64 t, .int .i64 m, .int .i64 p, .int .i64 0, .bool true] 97) = wb at *
   refine (specFdbOk_any _ _ _ l _ (h.below q0)).mono ?_
   rintro r wy ⟨rfl, hby⟩
   rw [H1.out]
   obtain ⟨⟨x0, x1, x2, x3, x4⟩, -⟩ := cells5 (kept_block k0 hby)
   go_wp2_with fail
   refine (specEnt_any (⟨t, m, p, 0, true⟩ : FE) _).mono ?_
   rintro r wx ⟨rfl, hbx⟩
   rw [H2.out]
   have bx := gr_trans q0 (gr_trans hby hbx)
   have kx := kept_block k0 (gr_trans hby hbx)
   clear hby hbx x0 x1 x2 x3 x4
   go_wp2_with fail
   refine (specAt_any _ _ _ l t m _ (h.below bx)).mono ?_
   rintro r w1 ⟨rfl, rfl⟩
   rw [HAT.out]
   obtain ⟨⟨x0, x1, x2, x3, x4⟩, -⟩ := cells5 kx
   go_wp2_with fail
   refine (specPutF_any _ _ _ l (⟨t, m, p, 0, true⟩ : FE) _ (h.below bx) hn).mono ?_
   rintro r w9 ⟨ao9, cap9, rfl, ho9, hr9, hb9⟩
   have HO := hide (gown_lt ho9 (base' := w.heap.size) bx.size)
   have HR := hide hr9
   have HB := hide (gr_trans bx hb9)
   clear ho9 hr9 hb9 bx x0 x1 x2 x3 x4
   go_wp2
   exact bodyPost_ret (v := .tuple #[.slice ao9 (putF8 (⟨t, m, p, 0, true⟩ : FE) l).length cap9, .bool true]) (by simp [results, Tryz.results102, go_sem, *]) rfl ⟨_, _, rfl, HO.out, HR.out, HB.out⟩

set_option maxRecDepth 100000 in
set_option maxHeartbeats 1000000 in
theorem specLookUp_all (ao : Option Addr) (n cap : Nat) (l : List FE) (t m : Int) (w : World) (h : GRow fentF w ao n cap l) (_hn : n ≤ 16777216) :
  Calls Tryz.prog 57 #[.slice ao n cap, .int .i64 t, .int .i64 m] w fun r w' => r = .returned (.int .i64 (lookUp l t m)) ∧ Below w.heap.size w w' := by
 obtain rfl := h.size
 rcases at_look l t m with ⟨i, x, hat, hi, hx, hlk⟩ | ⟨hat, hlk⟩
 ·have HL := hide (lookUp_of hlk)
  obtain ⟨x', b, off, hx', rfl, -, -, c2, -⟩ := fent_at h i hi
  rw [hx] at hx'
  cases hx'
  have hat2 : ¬ (i : Int) < 0 := by omega
  have HAT := hide hat
  clear hat
  go_enter Tryz.func57, Tryz.ntmps57
  go_wp2_with fail
  refine (specAt_any _ _ _ l t m _ h).mono ?_
  rintro r w1 ⟨rfl, rfl⟩
  rw [HAT.out]
  go_wp2
  go_ret
  exact ⟨by rw [HL.out]; rfl, Below.refl _ _⟩
 ·have HL := hide (lookUp_no hlk)
  have HAT := hide hat
  clear hat
  go_enter Tryz.func57, Tryz.ntmps57
  go_wp2_with fail
  refine (specAt_any _ _ _ l t m _ h).mono ?_
  rintro r w1 ⟨rfl, rfl⟩
  rw [HAT.out]
  go_wp2
  go_ret
  exact ⟨by rw [HL.out]; rfl, Below.refl _ _⟩

theorem nxt_next {l : List FE} {q : FE → Bool} {k : Nat} {x : FE} (h : ∀ j y, j < k → l[j]? = some y → q y = false) (hx : l[k]? = some x) (hb : q x = false) : ∀ j y, j < k + 1 → l[j]? = some y → q y = false := by
 intro j y hj hy
 by_cases e : j = k
 ·subst e
  rw [hx] at hy
  cases hy
  exact hb
 ·exact h j y (by omega) hy

set_option maxRecDepth 100000 in
set_option maxHeartbeats 400000 in
theorem mac_any (C : Nat) (a0 : Option Addr) (l0 c0 : Nat) (z0 : List Int) (w : World) (hc : Cur w C a0 l0 c0 z0) :
  Calls Tryz.prog 100 #[.pointer (some ⟨C, 0, none⟩)] w fun e w' => ∃ y : Int, e = .returned (.int .i64 y) ∧ 11 ≤ y ∧ y ≤ 14 ∧ Went w w' C a0 l0 c0 z0 := by
 go_enter Tryz.func100, Tryz.ntmps100
 go_wp2_with fail
 refine (pick_any C a0 l0 c0 z0 [11, 12, 13, 14] _ _ w hc rfl rfl (by simp) (by simp)).mono ?_
 rintro e w2 ⟨y, hy, rfl, went2⟩
 have hy : 11 ≤ y ∧ y ≤ 14 := by simp at hy; omega
 go_wp2
 go_ret
 exact ⟨_, rfl, hy.1, hy.2, went2⟩

theorem ok_len {l : List FE} (h : fdbOk l = true) : l.length ≤ 12 := ((fdbOk_iff l).1 h).2
theorem ok_rng {l : List FE} (h : fdbOk l = true) : ∀ x ∈ l, x.Rng := fun x hx => ent_rng ((((fdbOk_iff l).1 h).1).1 x hx)

structure BcSt (w wr : World) (R X : Nat) (cs : Array Value) : Prop where
 box : wr.heap[X]? = some (.cells cs 31)
 res : wr.heap[R]? = some (.cells #[.int .i64 0, .string ⟨#[]⟩, .slice none 0 0, .slice none 0 0, .slice none 0 0, .slice none 0 0, .int .i64 0, .int .i64 0, .int .i64 0, .int .i64 0, .int .i64 0] 31)
 below : Below w.heap.size w wr
 hX : w.heap.size ≤ X
 hR : w.heap.size ≤ R
 ne : R ≠ X

theorem BcSt.later {w wr wx : World} {R X : Nat} {cs : Array Value} (h : BcSt w wr R X cs) (hb : Below wr.heap.size wr wx) : BcSt w wx R X cs :=
 ⟨kept_block h.box hb, kept_block h.res hb, gr_trans h.below hb, h.hX, h.hR, h.ne⟩

theorem BcSt.put {w wr : World} {R X : Nat} {cs : Array Value} (h : BcSt w wr R X cs) (j : Nat) (u : Value) {cs' : Array Value} (he : cs.setIfInBounds j u = cs') : BcSt w (wr.setCell ⟨X, j, none⟩ u) R X cs' :=
 ⟨by rw [← he]; exact box11 h.box j u, kept_set h.res h.ne, below_set h.below h.hX j u, h.hX, h.hR, h.ne⟩

theorem BcSt.grown {w wr wx : World} {R X : Nat} {cs : Array Value} (h : BcSt w wr R X cs) {base k : Nat} {e : TypeId} {v : Value} {n : Nat} {xs : List Value} (ho : wr.ownsRow base e k v n xs) (hne : (e : Nat) ≠ 31) (hg : wr.grownBy wx v.ownBlock) (hb : Below w.heap.size wr wx) : BcSt w wx R X cs :=
 ⟨kept_grown h.box hg (fun i e => box_ne ho h.box hne i e), kept_grown h.res hg (fun i e => box_ne ho h.res hne i e), h.below.trans hb, h.hX, h.hR, h.ne⟩

theorem BcSt.stay {w wr : World} {R X : Nat} {cs : Array Value} (h : BcSt w wr R X cs) {base k : Nat} {e : TypeId} {v : Value} {n : Nat} {xs : List Value} (ho : wr.ownsRow base e k v n xs) (hne : (e : Nat) ≠ 31) (j : Nat) (u : Value) : (wr.setCell ⟨X, j, none⟩ u).ownsRow base e k v n xs :=
 gown_other ho (grown_set (rb := X) j u) (box_ne ho h.box hne)

theorem BcSt.out {w wr : World} {R X : Nat} {cs : Array Value} (h : BcSt w wr R X cs) {base : Nat} {a : Option Addr} {n c : Nat} {fa : Option Addr} {fn fc : Nat} {ra : Option Addr} {rn rc : Nat} {oa : Option Addr} {on oc : Nat} {B : BR} (ho : BrOwn wr base a n c fa fn fc ra rn rc oa on oc B) (u0 u1 u2 u3 u4 u5 u6 u7 u8 u9 u10 : Value) : BrOwn (((((((((((wr.setCell ⟨R, 0, none⟩ u0).setCell ⟨R, 1, none⟩ u1).setCell ⟨R, 2, none⟩ u2).setCell ⟨R, 3, none⟩ u3).setCell ⟨R, 4, none⟩ u4).setCell ⟨R, 5, none⟩ u5).setCell ⟨R, 6, none⟩ u6).setCell ⟨R, 7, none⟩ u7).setCell ⟨R, 8, none⟩ u8).setCell ⟨R, 9, none⟩ u9).setCell ⟨R, 10, none⟩ u10) base a n c fa fn fc ra rn rc oa on oc B ∧ Below w.heap.size w (((((((((((wr.setCell ⟨R, 0, none⟩ u0).setCell ⟨R, 1, none⟩ u1).setCell ⟨R, 2, none⟩ u2).setCell ⟨R, 3, none⟩ u3).setCell ⟨R, 4, none⟩ u4).setCell ⟨R, 5, none⟩ u5).setCell ⟨R, 6, none⟩ u6).setCell ⟨R, 7, none⟩ u7).setCell ⟨R, 8, none⟩ u8).setCell ⟨R, 9, none⟩ u9).setCell ⟨R, 10, none⟩ u10) :=
 ⟨ho.boxed11 h.res u0 u1 u2 u3 u4 u5 u6 u7 u8 u9 u10, below_set11 h.below h.hR u0 u1 u2 u3 u4 u5 u6 u7 u8 u9 u10⟩

set_option maxRecDepth 100000 in
set_option maxHeartbeats 8000000 in
theorem specOuts_made (a : Option Addr) (n c : Nat) (fa : Option Addr) (fn fc : Nat) (ra : Option Addr) (rn rc : Nat) (oa : Option Addr) (on oc : Nat) (B : BR) (id m : Int) (fd fs ft : Int) (a1 : Option Addr) (l1 c1 : Nat) (z1 : List Int) (w : World) (h : BrRow w a n c fa fn fc ra rn rc oa on oc B) (h1 : Row w a1 l1 c1 z1) (hs : l1 ≤ 16000000) (hn6 : n ≤ 1000) :
    Calls Tryz.prog 58 #[.agg #[.int .i64 B.id, .string B.name, .slice a n c, .slice fa fn fc, .slice ra rn rc, .slice oa on oc, .int .i64 B.ticks, .int .i64 B.parse, .int .i64 B.word, .int .i64 B.drops, .int .i64 B.vers], .int .i64 id, .int .i64 m, .agg #[.int .i64 fd, .int .i64 fs, .int .i64 ft, .slice a1 l1 c1]] w fun e w' => ∃ (ao : Option Addr) (cp : Nat) (L : List OI), e = .returned (.slice ao L.length cp) ∧ OOwns w' w.heap.size ao L.length cp L ∧ L.map OI.v = outTo B.v id m fd fs z1 n ∧ Below w.heap.size w w' := by
  generalize hw1 : w.alloc (Obj.cells #[.int .i64 B.id, .string B.name, .slice a n c, .slice fa fn fc, .slice ra rn rc, .slice oa on oc, .int .i64 B.ticks, .int .i64 B.parse, .int .i64 B.word, .int .i64 B.drops, .int .i64 B.vers] 31) = w1
  generalize hw2 : w1.alloc (Obj.cells #[.int .i64 fd, .int .i64 fs, .int .i64 ft, .slice a1 l1 c1] 33) = w2
  have b01 : Below w.heap.size w w1 := by rw [← hw1]; exact below_one _ _
  have b12 : Below w1.heap.size w1 w2 := by rw [← hw2]; exact below_one _ _
  have b02 := gr_trans b01 b12
  have kB : w2.heap[w.heap.size]? = some (.cells #[.int .i64 B.id, .string B.name, .slice a n c, .slice fa fn fc, .slice ra rn rc, .slice oa on oc, .int .i64 B.ticks, .int .i64 B.parse, .int .i64 B.word, .int .i64 B.drops, .int .i64 B.vers] 31) := kept_block (by rw [← hw1]; exact block_last _ _) b12
  have kF : w2.heap[w1.heap.size]? = some (.cells #[.int .i64 fd, .int .i64 fs, .int .i64 ft, .slice a1 l1 c1] 33) := by rw [← hw2]; exact block_last _ _
  have HS : Hid (∀ W, Below w2.heap.size w2 W → (fun W => (W.cell? ⟨w.heap.size, 0, none⟩ = some (.int .i64 B.id) ∧ W.cell? ⟨w.heap.size, 1, none⟩ = some (.string B.name) ∧ W.cell? ⟨w.heap.size, 2, none⟩ = some (.slice a n c) ∧ W.cell? ⟨w.heap.size, 3, none⟩ = some (.slice fa fn fc) ∧ W.cell? ⟨w.heap.size, 4, none⟩ = some (.slice ra rn rc) ∧ W.cell? ⟨w.heap.size, 5, none⟩ = some (.slice oa on oc) ∧ W.cell? ⟨w.heap.size, 6, none⟩ = some (.int .i64 B.ticks) ∧ W.cell? ⟨w.heap.size, 7, none⟩ = some (.int .i64 B.parse) ∧ W.cell? ⟨w.heap.size, 8, none⟩ = some (.int .i64 B.word) ∧ W.cell? ⟨w.heap.size, 9, none⟩ = some (.int .i64 B.drops) ∧ W.cell? ⟨w.heap.size, 10, none⟩ = some (.int .i64 B.vers)) ∧ (W.cell? ⟨w1.heap.size, 0, none⟩ = some (.int .i64 fd) ∧ W.cell? ⟨w1.heap.size, 1, none⟩ = some (.int .i64 fs) ∧ W.cell? ⟨w1.heap.size, 2, none⟩ = some (.int .i64 ft) ∧ W.cell? ⟨w1.heap.size, 3, none⟩ = some (.slice a1 l1 c1))) W) := hide (fun W hW => ⟨cells11 (kept_block kB hW), (cells4 (kept_block kF hW)).1⟩)
  have hpl := h.ports.size
  have hle := Nat.le_trans h.ports.le h.ports.top
  unfold maxLen at hle
  go_enter Tryz.func58, Tryz.ntmps58
  generalize hw3 : w2.alloc (Obj.cells #[] 48) = w3
  have b23 : Below w2.heap.size w2 w3 := by rw [← hw3]; exact below_one _ _
  have o3 : OOwns w3 w2.heap.size (some ⟨w2.heap.size, 0, none⟩) 0 0 [] := ⟨flat_nil outF w2 w3 48 w2.heap.size (by rw [← hw3]; exact block_last _ _) (Nat.le_refl _), (by intro x hx; cases hx), List.nodup_nil⟩
  go_upto_region 3 with fail
  try rw [hw3]
  clear hw1 hw2 hw3 kB kF
  go_loopw [9, 10] (fun s ix wr => ∃ (i q : Nat) (ao : Option Addr) (cp : Nat) (L : List OI), i ≤ n ∧ ix = .int .i64 i ∧ s = .slice ao q cp ∧ OOwns wr w2.heap.size ao q cp L ∧ L.map OI.v = outTo B.v id m fd fs z1 i ∧ Below w2.heap.size w2 wr) (fun _ ix _ => n - (intOf ix).toNat)
  case atStart => exact ⟨0, 0, _, 0, [], Nat.zero_le _, rfl, rfl, o3, rfl, b23⟩
  case round =>
    obtain ⟨i, q, ao, cp, L, hi, rfl, rfl, hO, hM, hb⟩ := hrel
    have hql := hO.size
    have hq6 : q ≤ i := by have := outTo_len B.v id m fd fs z1 i; rw [← hM, List.length_map] at this; omega
    have i1 : (0 : Int) ≤ (i : Int) := by omega
    obtain ⟨⟨x0, x1, x2, x3, x4, x5, x6, x7, x8, x9, x10⟩, v0, v1, v2, v3⟩ := HS.out _ hb
    by_cases hlt : i < n
    · have i2 : (i : Int) < (n : Int) := by omega
      have HHB := hide hb
      go_wp2_with fail
      refine (specBit_any m (i : Int) _).mono ?_
      rintro e wb ⟨rfl, eb⟩
      obtain rfl := eb.symm
      cases hbt : bitOf m (i : Int)
      · have HBT := hide hbt
        clear hbt
        go_wp2
        go_roundw
        case rel => exact ⟨i + 1, q, ao, cp, L, by omega, by go_num, rfl, hO, by rw [hM, outTo, HBT.out]; simp, hb⟩
        case measure => simp [intOf]; omega
      · have HBT := hide hbt
        clear hbt x0 x1 x2 x3 x4 x5 x6 x7 x8 x9 x10 v0 v1 v2 v3
        have vv : Below wr.heap.size wr wr.drew := gr_drew (Below.refl _ _)
        go_wp2_with fail
        refine wp_region_held_drew (S := (fun W => (W.cell? ⟨w.heap.size, 0, none⟩ = some (.int .i64 B.id) ∧ W.cell? ⟨w.heap.size, 1, none⟩ = some (.string B.name) ∧ W.cell? ⟨w.heap.size, 2, none⟩ = some (.slice a n c) ∧ W.cell? ⟨w.heap.size, 3, none⟩ = some (.slice fa fn fc) ∧ W.cell? ⟨w.heap.size, 4, none⟩ = some (.slice ra rn rc) ∧ W.cell? ⟨w.heap.size, 5, none⟩ = some (.slice oa on oc) ∧ W.cell? ⟨w.heap.size, 6, none⟩ = some (.int .i64 B.ticks) ∧ W.cell? ⟨w.heap.size, 7, none⟩ = some (.int .i64 B.parse) ∧ W.cell? ⟨w.heap.size, 8, none⟩ = some (.int .i64 B.word) ∧ W.cell? ⟨w.heap.size, 9, none⟩ = some (.int .i64 B.drops) ∧ W.cell? ⟨w.heap.size, 10, none⟩ = some (.int .i64 B.vers)) ∧ (W.cell? ⟨w1.heap.size, 0, none⟩ = some (.int .i64 fd) ∧ W.cell? ⟨w1.heap.size, 1, none⟩ = some (.int .i64 fs) ∧ W.cell? ⟨w1.heap.size, 2, none⟩ = some (.int .i64 ft) ∧ W.cell? ⟨w1.heap.size, 3, none⟩ = some (.slice a1 l1 c1)))) (by kernel_rfl) (HS.out _ (gr_trans hb vv)) (fun hHeld => ?_)
        refine kK 0 ⟨some 22, .move (.tmp 9), 36, "l12_forward.go:10", #[], none⟩ ?_
        refine kK 1 ⟨some 23, .move (.tmp 10), 3, "l12_forward.go:10", #[], none⟩ ?_
        refine kK 2 ⟨some 24, .load 33 (.tmp 7), 33, "l12_forward.go:10", #[], none⟩ ?_
        refine kK 3 ⟨some 25, .fieldAddr 31 (.tmp 4) 4, 0, "l12_forward.go:10", #[], none⟩ ?_
        refine kK 4 ⟨some 26, .load 29 (.tmp 25), 29, "l12_forward.go:10", #[⟨3, .data⟩], none⟩ ?_
        refine kK 5 ⟨some 27, .move (.tmp 1), 3, "l12_forward.go:10", #[], none⟩ ?_
        refine kK 6 ⟨some 28, .move (.tmp 10), 3, "l12_forward.go:10", #[], none⟩ ?_
        refine tR [7] ?_
        refine AllReadyH.cons (o := ⟨some 29, .call ⟨.value (.func 125), #[.tmp 26, .tmp 27, .tmp 28], #[29, 3, 3]⟩, 3, "l12_forward.go:10", #[⟨4, .data⟩, ⟨5, .data⟩, ⟨6, .data⟩], none⟩) rfl (fun K hK => ?_) ?_
        · go_simp
          refine (specShown_any ra rn rc oa on oc B.v id (i : Int) _ ((h.v.rows.below (gr_trans b02 hb)).below vv)).mono ?_
          rintro e wt ⟨rfl, hbt⟩
          have vv := gr_trans vv hbt
          clear hbt
          go_wp2_with fail
          refine hK.out _ _ (HS.out _ (gr_trans hb vv)) (fun hHeld => ?_)
          clear hK K
          try simp only [Act.put, lA, lB, lC]
          refine tR [8] ?_
          refine AllReadyH.cons (o := ⟨some 30, .call ⟨.value (.func 124), #[.tmp 24, .tmp 29], #[33, 3]⟩, 33, "l12_forward.go:10", #[⟨2, .data⟩, ⟨7, .data⟩, ⟨7, .chain⟩], none⟩) rfl (fun K hK => ?_) ?_
          · go_simp
            refine (specTagged_made fd fs ft a1 l1 c1 z1 (shownTag B.v id (i : Int)) _ ((h1.below (gr_trans b02 hb)).below vv) (by omega)).mono ?_
            rintro e wt2 ⟨da, dc, rfl, od, -, hbt⟩
            have od := own5_lt od (base' := wr.heap.size) vv.size
            have vv := gr_trans vv hbt
            clear hbt
            go_wp2_with fail
            refine hK.out _ _ (HS.out _ (gr_trans hb vv)) (fun hHeld => ?_)
            clear hK K
            try simp only [Act.put, lA, lB, lC]
            refine kK 9 ⟨some 31, .build 48 #[(0, .tmp 23), (1, .tmp 30)], 48, "l12_forward.go:10", #[⟨1, .data⟩, ⟨8, .data⟩], none⟩ ?_
            refine tR [10] ?_
            refine AllReadyH.cons (o := ⟨some 32, .buildSlice 36 1 #[(0, .tmp 31)], 36, "l12_forward.go:10", #[⟨9, .data⟩], none⟩) rfl (fun K hK => ?_) ?_
            · go_simp
              first
              | refine made_new (K := K _) (fun wx kN hbx => ?_)
              | refine made_drew (K := K _) (fun wx kN hbx => ?_)
              have gN := vv.size
              have od := own5_below od hbx
              have vv := gr_trans vv hbx
              clear hbx
              refine hK.out _ _ (HS.out _ (gr_trans hb vv)) (fun hHeld => ?_)
              clear hK K
              try simp only [Act.put, lA, lB, lC]
              refine tR [11] ?_
              refine AllReadyH.cons (o := ⟨some 33, .call ⟨.builtin .append, #[.tmp 22, .tmp 32], #[36, 36]⟩, 36, "l12_forward.go:10", #[⟨0, .data⟩, ⟨10, .data⟩, ⟨8, .chain⟩], none⟩) rfl (fun K hK => ?_) ?_
              · have gn1 : GRow outF wx (some ⟨_, 0, none⟩) 1 1 [(⟨(i : Int), fd, fs, shownTag B.v id (i : Int), da, l1, dc, z1⟩ : OI)] := grow_own (F := outF) (own_lit outF (l := [(⟨(i : Int), fd, fs, shownTag B.v id (i : Int), da, l1, dc, z1⟩ : OI)]) (base := 0) kN rfl (Nat.zero_le _) (by simp))
                have hoN := hO.below vv
                refine step_append_flat (F := outF) rfl _ _ 36 48 rfl w2.heap.size Tryz.underlying36 outInfo rfl (by decide) _ q L rfl hoN.row _ 1 1 _ rfl gn1 (by omega) (Nat.le_trans hb.size vv.size) ?_
                intro aL cL wL how _ hgr hbL
                have hpush := hoN.push (x := (⟨(i : Int), fd, fs, shownTag B.v id (i : Int), da, l1, dc, z1⟩ : OI)) ⟨own5_lt od hb.size, h1.byte⟩ (fun y hy b hb1 hb2 => by
                 have e1 := ((hO.item y hy).blk b hb1).2
                 have e2 := (od.lt b (mem_blkL.2 hb2)).1
                 omega) hgr how
                have vL : Below w2.heap.size w2 wL := (gr_trans hb vv).trans hbL
                refine hK.out _ _ (HS.out _ vL) (fun hHeld => ?_)
                clear hK K
                try simp only [Act.put, lA, lB, lC]
                refine kK 12 ⟨some 9, .assign (.tmp 33), 36, "l12_forward.go:10", #[⟨11, .data⟩, ⟨11, .chain⟩, ⟨0, .phase⟩, ⟨1, .phase⟩, ⟨2, .phase⟩, ⟨3, .phase⟩, ⟨4, .phase⟩, ⟨5, .phase⟩, ⟨6, .phase⟩, ⟨7, .phase⟩, ⟨8, .phase⟩, ⟨9, .phase⟩, ⟨10, .phase⟩, ⟨11, .phase⟩], none⟩ ?_
                refine wpAnyH_done (by kernel_rfl) ?_ _
                have HP := hide hpush
                have HV := hide vL
                clear hHeld how hgr hbL hoN hpush vL kN gn1 od vv
                go_wp2
                go_roundw
                case rel => exact ⟨i + 1, q + 1, aL, cL, _, by omega, by go_num, rfl, HP.out, by rw [List.map_append, hM, outTo, HBT.out]; rfl, HV.out⟩
                case measure => simp [intOf]; omega
              exact AllReadyH.nil
            exact AllReadyH.nil
          exact AllReadyH.nil
        exact AllReadyH.nil
    · have hin : i = n := by omega
      have i2 : ¬ (i : Int) < (n : Int) := by omega
      subst hin
      go_wp2
      go_ret
      exact ⟨ao, cp, L, (by rw [hql]; rfl), (by rw [hql]; exact hO.lt b02.size), hM, gr_trans b02 hb⟩

theorem kept_set11 {w : World} {i g : Nat} {o : Obj} (h : w.heap[i]? = some o) (hne : i ≠ g) (u0 u1 u2 u3 u4 u5 u6 u7 u8 u9 u10 : Value) : (((((((((((w.setCell ⟨g, 0, none⟩ u0).setCell ⟨g, 1, none⟩ u1).setCell ⟨g, 2, none⟩ u2).setCell ⟨g, 3, none⟩ u3).setCell ⟨g, 4, none⟩ u4).setCell ⟨g, 5, none⟩ u5).setCell ⟨g, 6, none⟩ u6).setCell ⟨g, 7, none⟩ u7).setCell ⟨g, 8, none⟩ u8).setCell ⟨g, 9, none⟩ u9).setCell ⟨g, 10, none⟩ u10).heap[i]? = some o :=
 (kept_set (j := 10) (u := u10) (kept_set (j := 9) (u := u9) (kept_set (j := 8) (u := u8) (kept_set (j := 7) (u := u7) (kept_set (j := 6) (u := u6) (kept_set (j := 5) (u := u5) (kept_set (j := 4) (u := u4) (kept_set (j := 3) (u := u3) (kept_set (j := 2) (u := u2) (kept_set (j := 1) (u := u1) (kept_set (j := 0) (u := u0) h hne) hne) hne) hne) hne) hne) hne) hne) hne) hne) hne)

theorem set_box11B {w : World} {X : Nat} {c0 c1 c2 c3 c4 c5 c6 c7 c8 c9 c10 : Value} {T : TypeId} (h : w.heap[X]? = some (.cells #[c0, c1, c2, c3, c4, c5, c6, c7, c8, c9, c10] T)) (u0 u1 u2 u3 u4 u5 u6 u7 u8 u9 u10 : Value) : (((((((((((w.setCell ⟨X, 0, none⟩ u0).setCell ⟨X, 1, none⟩ u1).setCell ⟨X, 2, none⟩ u2).setCell ⟨X, 3, none⟩ u3).setCell ⟨X, 4, none⟩ u4).setCell ⟨X, 5, none⟩ u5).setCell ⟨X, 6, none⟩ u6).setCell ⟨X, 7, none⟩ u7).setCell ⟨X, 8, none⟩ u8).setCell ⟨X, 9, none⟩ u9).setCell ⟨X, 10, none⟩ u10).heap[X]? = some (.cells #[u0, u1, u2, u3, u4, u5, u6, u7, u8, u9, u10] T) := by
 have h' := (box11 (box11 (box11 (box11 (box11 (box11 (box11 (box11 (box11 (box11 (box11 h 0 u0) 1 u1) 2 u2) 3 u3) 4 u4) 5 u5) 6 u6) 7 u7) 8 u8) 9 u9) 10 u10)
 simp only [lA, lB, lC] at h'
 exact h'

theorem made_set11 {W : World} {X : Nat} {c0 c1 c2 c3 c4 c5 c6 c7 c8 c9 c10 : Value} {T : TypeId} {K : World → Prop} (hk : W.heap[X]? = some (.cells #[c0, c1, c2, c3, c4, c5, c6, c7, c8, c9, c10] T)) (u0 u1 u2 u3 u4 u5 u6 u7 u8 u9 u10 : Value) (h : ∀ wq, wq.heap[X]? = some (.cells #[u0, u1, u2, u3, u4, u5, u6, u7, u8, u9, u10] T) → W.grownBy wq (some X) → K wq) : K (((((((((((W.setCell ⟨X, 0, none⟩ u0).setCell ⟨X, 1, none⟩ u1).setCell ⟨X, 2, none⟩ u2).setCell ⟨X, 3, none⟩ u3).setCell ⟨X, 4, none⟩ u4).setCell ⟨X, 5, none⟩ u5).setCell ⟨X, 6, none⟩ u6).setCell ⟨X, 7, none⟩ u7).setCell ⟨X, 8, none⟩ u8).setCell ⟨X, 9, none⟩ u9).setCell ⟨X, 10, none⟩ u10) :=
 h _ (set_box11B hk u0 u1 u2 u3 u4 u5 u6 u7 u8 u9 u10) (grownTr (grownTr (grownTr (grownTr (grownTr (grownTr (grownTr (grownTr (grownTr (grownTr (grown_set _ _) (grown_set _ _)) (grown_set _ _)) (grown_set _ _)) (grown_set _ _)) (grown_set _ _)) (grown_set _ _)) (grown_set _ _)) (grown_set _ _)) (grown_set _ _)) (grown_set _ _))

theorem BrOwn.grownBox {w w' : World} {base : Nat} {a : Option Addr} {n c : Nat} {fa : Option Addr} {fn fc : Nat} {ra : Option Addr} {rn rc : Nat} {oa : Option Addr} {on oc : Nat} {B : BR} (h : BrOwn w base a n c fa fn fc ra rn rc oa on oc B) {X : Nat} {cs : Array Value} (hX : w.heap[X]? = some (.cells cs 31)) (hg : w.grownBy w' (some X)) : BrOwn w' base a n c fa fn fc ra rn rc oa on oc B :=
 ⟨gown_other h.ports hg (box_ne h.ports hX (by decide)), gown_other h.f hg (box_ne h.f hX (by decide)), ⟨gown_other h.v.rows hg (box_ne h.v.rows hX (by decide)), gown_other h.v.own hg (box_ne h.v.own hX (by decide)), h.v.i64⟩⟩

theorem made_set4 {W : World} {X : Nat} {c0 c1 c2 c3 : Value} {T : TypeId} {K : World → Prop} (hk : W.heap[X]? = some (.cells #[c0, c1, c2, c3] T)) (u0 u1 u2 u3 : Value) (h : ∀ wq, wq.heap[X]? = some (.cells #[u0, u1, u2, u3] T) → W.grownBy wq (some X) → K wq) : K ((((W.setCell ⟨X, 0, none⟩ u0).setCell ⟨X, 1, none⟩ u1).setCell ⟨X, 2, none⟩ u2).setCell ⟨X, 3, none⟩ u3) := by
 have h' := box11 (box11 (box11 (box11 hk 0 u0) 1 u1) 2 u2) 3 u3
 simp only [lA, lB, lC] at h'
 exact h _ h' (grownTr (grownTr (grownTr (grown_set _ _) (grown_set _ _)) (grown_set _ _)) (grown_set _ _))

theorem OOwns.ne {w : World} {base : Nat} {ao : Option Addr} {n cap : Nat} {l : List OI} (h : OOwns w base ao n cap l) {X : Nat} {cs : Array Value} {T : TypeId} (hX : w.heap[X]? = some (.cells cs T)) (h1 : (48 : Nat) ≠ T) (h2 : (5 : Nat) ≠ T) : ∀ b ∈ allO ao l, b ∉ [X] := by
 intro b hb hx
 rw [List.mem_singleton] at hx
 rcases List.mem_append.1 hb with hb | hb
 ·exact box_ne h.row hX h1 b (mem_blkL.2 hb) hx
 ·obtain ⟨y, hy, hb⟩ := List.mem_flatMap.1 hb
  exact box_ne (h.item y hy).z hX h2 b (mem_blkL.2 hb) hx

theorem OOwns.put {w : World} {base : Nat} {ao : Option Addr} {n cap : Nat} {l : List OI} (h : OOwns w base ao n cap l) {X : Nat} {cs : Array Value} {T : TypeId} (hX : w.heap[X]? = some (.cells cs T)) (h1 : (48 : Nat) ≠ T) (h2 : (5 : Nat) ≠ T) (j : Nat) (u : Value) : OOwns (w.setCell ⟨X, j, none⟩ u) base ao n cap l :=
 h.only (Only.set w X j u) (h.ne hX h1 h2)

theorem OOwns.put11 {w : World} {base : Nat} {ao : Option Addr} {n cap : Nat} {l : List OI} (h : OOwns w base ao n cap l) {X : Nat} {cs : Array Value} {T : TypeId} (hX : w.heap[X]? = some (.cells cs T)) (h1 : (48 : Nat) ≠ T) (h2 : (5 : Nat) ≠ T) (u0 u1 u2 u3 u4 u5 u6 u7 u8 u9 u10 : Value) : OOwns (((((((((((w.setCell ⟨X, 0, none⟩ u0).setCell ⟨X, 1, none⟩ u1).setCell ⟨X, 2, none⟩ u2).setCell ⟨X, 3, none⟩ u3).setCell ⟨X, 4, none⟩ u4).setCell ⟨X, 5, none⟩ u5).setCell ⟨X, 6, none⟩ u6).setCell ⟨X, 7, none⟩ u7).setCell ⟨X, 8, none⟩ u8).setCell ⟨X, 9, none⟩ u9).setCell ⟨X, 10, none⟩ u10) base ao n cap l :=
 h.only (((((((((((Only.set w X 0 u0).trans (Only.set _ X 1 u1)).trans (Only.set _ X 2 u2)).trans (Only.set _ X 3 u3)).trans (Only.set _ X 4 u4)).trans (Only.set _ X 5 u5)).trans (Only.set _ X 6 u6)).trans (Only.set _ X 7 u7)).trans (Only.set _ X 8 u8)).trans (Only.set _ X 9 u9)).trans (Only.set _ X 10 u10)) (h.ne hX h1 h2)

set_option maxRecDepth 100000 in
set_option maxHeartbeats 8000000 in
theorem specCopyB_made (a : Option Addr) (n c : Nat) (fa : Option Addr) (fn fc : Nat) (ra : Option Addr) (rn rc : Nat) (oa : Option Addr) (on oc : Nat) (B : BR) (w : World) (h : BrRow w a n c fa fn fc ra rn rc oa on oc B) (hn : n ≤ 16777216) (hfn : fn ≤ 16777216) (hrn : rn ≤ 16777216) (hon : on ≤ 16777216) :
  Calls Tryz.prog 48 #[.agg #[.int .i64 B.id, .string B.name, .slice a n c, .slice fa fn fc, .slice ra rn rc, .slice oa on oc, .int .i64 B.ticks, .int .i64 B.parse, .int .i64 B.word, .int .i64 B.drops, .int .i64 B.vers]] w fun e w' => ∃ (a2 : Option Addr) (c2 : Nat) (fa2 : Option Addr) (fc2 : Nat) (ra2 : Option Addr) (rc2 : Nat) (oa2 : Option Addr) (oc2 : Nat), e = .returned (.agg #[.int .i64 B.id, .string B.name, .slice a2 n c2, .slice fa2 fn fc2, .slice ra2 rn rc2, .slice oa2 on oc2, .int .i64 B.ticks, .int .i64 B.parse, .int .i64 B.word, .int .i64 B.drops, .int .i64 B.vers]) ∧ BrOwn w' w.heap.size a2 n c2 fa2 fn fc2 ra2 rn rc2 oa2 on oc2 B ∧ Below w.heap.size w w' := by
 generalize hw1 : w.alloc (Obj.cells #[.int .i64 B.id, .string B.name, .slice a n c, .slice fa fn fc, .slice ra rn rc, .slice oa on oc, .int .i64 B.ticks, .int .i64 B.parse, .int .i64 B.word, .int .i64 B.drops, .int .i64 B.vers] 31) = w1
 generalize hw2 : w1.alloc (Obj.cells #[.int .i64 0, .string ⟨#[]⟩, .slice none 0 0, .slice none 0 0, .slice none 0 0, .slice none 0 0, .int .i64 0, .int .i64 0, .int .i64 0, .int .i64 0, .int .i64 0] 31) = w2
 generalize hw3 : w2.alloc (Obj.cells #[.int .i64 B.id, .string B.name, .slice a n c, .slice fa fn fc, .slice ra rn rc, .slice oa on oc, .int .i64 B.ticks, .int .i64 B.parse, .int .i64 B.word, .int .i64 B.drops, .int .i64 B.vers] 31) = w3
 generalize hw4 : w3.alloc (Obj.cells #[] 95) = w4
 have b01 : Below w.heap.size w w1 := by rw [← hw1]; exact below_one _ _
 have b12 : Below w1.heap.size w1 w2 := by rw [← hw2]; exact below_one _ _
 have b23 : Below w2.heap.size w2 w3 := by rw [← hw3]; exact below_one _ _
 have b34 : Below w3.heap.size w3 w4 := by rw [← hw4]; exact below_one _ _
 have z1 : w.heap.size < w1.heap.size := by rw [← hw1]; simp
 have z2 : w1.heap.size < w2.heap.size := by rw [← hw2]; simp
 have k1 : w1.heap[w.heap.size]? = some (.cells #[.int .i64 B.id, .string B.name, .slice a n c, .slice fa fn fc, .slice ra rn rc, .slice oa on oc, .int .i64 B.ticks, .int .i64 B.parse, .int .i64 B.word, .int .i64 B.drops, .int .i64 B.vers] 31) := by rw [← hw1]; exact block_last _ _
 have kA2 := kept_block k1 b12
 have kA4 := kept_block (kept_block kA2 b23) b34
 have st4 : BcSt w w4 w1.heap.size w2.heap.size #[.int .i64 B.id, .string B.name, .slice a n c, .slice fa fn fc, .slice ra rn rc, .slice oa on oc, .int .i64 B.ticks, .int .i64 B.parse, .int .i64 B.word, .int .i64 B.drops, .int .i64 B.vers] := BcSt.later ⟨by rw [← hw3]; exact block_last _ _, kept_block (by rw [← hw2]; exact block_last _ _) b23, gr_trans (gr_trans b01 b12) b23, by omega, Nat.le_of_lt z1, Nat.ne_of_lt z2⟩ b34
 have k4 : w4.heap[w3.heap.size]? = some (.cells #[] 95) := by rw [← hw4]; exact block_last _ _
 have b03 := gr_trans (gr_trans b01 b12) b23
 have nil4 : w4.ownsRow w.heap.size 95 8 (.slice (some ⟨w3.heap.size, 0, none⟩) 0 0) 0 (ptF.all []) := flat_nil ptF w w4 95 w3.heap.size k4 b03.size
 have HZ1 := hide z1
 have HZ2 := hide z2
 have nAX : ¬ w.heap.size = w2.heap.size := by omega
 have nXA : ¬ w2.heap.size = w.heap.size := by omega
 obtain ⟨x0, x1, x2, x3, x4, x5, x6, x7, x8, x9, x10⟩ := cells11 kA2
 have SZ23 := hide b23.size
 clear z1 z2 b01 b12 b23 b34 k1 b03
 go_enter Tryz.func48, Tryz.ntmps48
 go_upto_region 2 with fail
 clear x0 x1 x2 x3 x4 x5 x6 x7 x8 x9 x10 hw1 hw2 hw3
 obtain ⟨x0, x1, x2, x3, x4, x5, x6, x7, x8, x9, x10⟩ := cells11 kA4
 have HST := hide st4
 have HKA := hide kA4
 have HN4 := hide nil4
 have hp4 := h.ports.below st4.below
 have hs4 := st4.below.size
 clear st4 kA4 kA2
 go_wp2_with (at_builtin; refine pt_append _ rfl _ _ rfl w.heap.size _ 0 [] rfl nil4 a n c B.ports rfl hp4 (by omega) hs4 ?_)
 intro a4 c4 w5 o5 hr5 hg5 hb5
 have o5 : w5.ownsRow w.heap.size 95 8 (.slice a4 n c4) n (ptF.all B.ports) := by simpa using o5
 have st5 := HST.out.grown HN4.out (by decide) hg5 hb5
 have kA5 := kept_grown HKA.out hg5 (fun i e => by have h1 := (HN4.out.lt i e).1; have h2 : i = w3.heap.size := (Option.some.inj e).symm; have h3 := HZ2.out; have h4 := HZ1.out; have h5 : w2.heap.size ≤ w3.heap.size := SZ23.out; omega)
 try simp only [Nat.zero_add]
 clear x0 x1 x2 x3 x4 x5 x6 x7 x8 x9 x10 hr5 hg5 hb5 nil4 hp4 hs4 HST HKA HN4
 generalize hX : w2.heap.size = X at *
 generalize hR : w1.heap.size = R at *
 have st6 := st5.put 2 (.slice a4 n c4) (cs' := #[.int .i64 B.id, .string B.name, .slice a4 n c4, .slice fa fn fc, .slice ra rn rc, .slice oa on oc, .int .i64 B.ticks, .int .i64 B.parse, .int .i64 B.word, .int .i64 B.drops, .int .i64 B.vers]) rfl
 have o6 := st5.stay o5 (by decide) 2 (.slice a4 n c4)
 have kA6 := kept_set (b := X) (j := 2) (u := .slice a4 n c4) kA5 nAX
 obtain ⟨y0, y1, y2, y3, y4, y5, y6, y7, y8, y9, y10⟩ := cells11 st5.box
 have f2 := frozen8 st5.box 2
 generalize hw6 : w5.setCell ⟨X, 2, none⟩ (.slice a4 n c4) = w6 at st6 o6 kA6
 go_upto_region 3 with fail
 try rw [hw6]
 clear y0 y1 y2 y3 y4 y5 y6 y7 y8 y9 y10 f2 hw6 st5 o5 kA5
 obtain ⟨x0, x1, x2, x3, x4, x5, x6, x7, x8, x9, x10⟩ := cells11 kA6
 go_wp2_with fail
 refine (specCopyF_any fa fn fc B.f _ (h.f.below st6.below) hfn).mono ?_
 rintro e w7 ⟨fa6, fc6, rfl, oF, -, hb7⟩
 have st7 := st6.later hb7
 have o7 := gown_below o6 hb7
 have oF := gown_lt oF (base' := w.heap.size) st6.below.size
 have kA7 := kept_block kA6 hb7
 clear x0 x1 x2 x3 x4 x5 x6 x7 x8 x9 x10 hb7 o6 st6 kA6
 obtain ⟨y0, y1, y2, y3, y4, y5, y6, y7, y8, y9, y10⟩ := cells11 st7.box
 have f3 := frozen8 st7.box 3
 have st8 := st7.put 3 (.slice fa6 fn fc6) (cs' := #[.int .i64 B.id, .string B.name, .slice a4 n c4, .slice fa6 fn fc6, .slice ra rn rc, .slice oa on oc, .int .i64 B.ticks, .int .i64 B.parse, .int .i64 B.word, .int .i64 B.drops, .int .i64 B.vers]) rfl
 have o8 := st7.stay o7 (by decide) 3 (.slice fa6 fn fc6)
 have oF8 := st7.stay oF (by decide) 3 (.slice fa6 fn fc6)
 have kA8 := kept_set (b := X) (j := 3) (u := .slice fa6 fn fc6) kA7 nAX
 generalize hw8 : w7.setCell ⟨X, 3, none⟩ (.slice fa6 fn fc6) = w8 at st8 o8 oF8 kA8
 go_upto_region 4 with fail
 try rw [hw8]
 clear y0 y1 y2 y3 y4 y5 y6 y7 y8 y9 y10 f3 hw8 st7 o7 oF kA7
 obtain ⟨x0, x1, x2, x3, x4, x5, x6, x7, x8, x9, x10⟩ := cells11 kA8
 go_wp2_with fail
 refine (specCopyV_made ra rn rc oa on oc B.v _ (h.v.below st8.below) hrn hon).mono ?_
 rintro e w9 ⟨ra8, rc8, oa8, oc8, rfl, oV, hb9⟩
 have st9 := st8.later hb9
 have own9 : BrOwn w9 w.heap.size a4 n c4 fa6 fn fc6 ra8 rn rc8 oa8 on oc8 B := ⟨gown_below o8 hb9, gown_below oF8 hb9, oV.lt (base' := w.heap.size) st8.below.size⟩
 clear x0 x1 x2 x3 x4 x5 x6 x7 x8 x9 x10 hb9 o8 oF8 kA8 st8 oV
 have st10 := (st9.put 4 (.slice ra8 rn rc8) rfl).put 5 (.slice oa8 on oc8) (cs' := #[.int .i64 B.id, .string B.name, .slice a4 n c4, .slice fa6 fn fc6, .slice ra8 rn rc8, .slice oa8 on oc8, .int .i64 B.ticks, .int .i64 B.parse, .int .i64 B.word, .int .i64 B.drops, .int .i64 B.vers]) rfl
 have own10 := (own9.boxed st9.box 4 (.slice ra8 rn rc8)).boxed (st9.put 4 (.slice ra8 rn rc8) rfl).box 5 (.slice oa8 on oc8)
 obtain ⟨y0, y1, y2, y3, y4, y5, y6, y7, y8, y9, y10⟩ := cells11 st9.box
 have f4 := frozen8 st9.box 4
 have f5 := frozen8 st9.box 5
 obtain ⟨u0, u1, u2, u3, u4, u5, u6, u7, u8, u9, u10⟩ := cells11 st9.res
 have fr := frozen8 st9.res
 have fr0 := fr 0
 have fr1 := fr 1
 have fr2 := fr 2
 have fr3 := fr 3
 have fr4 := fr 4
 have fr5 := fr 5
 have fr6 := fr 6
 have fr7 := fr 7
 have fr8 := fr 8
 have fr9 := fr 9
 have fr10 := fr 10
 have ne1 : ¬ X = R := fun e => st9.ne e.symm
 have ne2 : ¬ R = X := st9.ne
 obtain ⟨HO0, HB0⟩ := st10.out own10 (.int .i64 B.id) (.string B.name) (.slice a4 n c4) (.slice fa6 fn fc6) (.slice ra8 rn rc8) (.slice oa8 on oc8) (.int .i64 B.ticks) (.int .i64 B.parse) (.int .i64 B.word) (.int .i64 B.drops) (.int .i64 B.vers)
 have HO := hide HO0
 have HB := hide HB0
 clear fr st9 st10 own9 own10 HO0 HB0
 go_wp2
 exact bodyPost_ret (v := .agg #[.int .i64 B.id, .string B.name, .slice a4 n c4, .slice fa6 fn fc6, .slice ra8 rn rc8, .slice oa8 on oc8, .int .i64 B.ticks, .int .i64 B.parse, .int .i64 B.word, .int .i64 B.drops, .int .i64 B.vers]) (by simp [results, Tryz.results48, go_sem, *]) rfl ⟨a4, c4, fa6, fc6, ra8, rc8, oa8, oc8, rfl, HO.out, HB.out⟩

set_option maxRecDepth 100000 in
set_option maxHeartbeats 2000000 in
theorem specThere_any (a : Option Addr) (n c : Nat) (fa : Option Addr) (fn fc : Nat) (ra : Option Addr) (rn rc : Nat) (oa : Option Addr) (on oc : Nat) (B : BR) (port : Int) (w : World) (h : BrRow w a n c fa fn fc ra rn rc oa on oc B) :
  Calls Tryz.prog 49 #[.agg #[.int .i64 B.id, .string B.name, .slice a n c, .slice fa fn fc, .slice ra rn rc, .slice oa on oc, .int .i64 B.ticks, .int .i64 B.parse, .int .i64 B.word, .int .i64 B.drops, .int .i64 B.vers], .int .i64 port] w fun e w' => e = .returned (.bool (thereB B port)) ∧ Below w.heap.size w w' := by
 have hle := h.ports.le
 have htop := h.ports.top
 unfold maxLen at htop
 have HTB : Hid (thereB B port = (bridgeOk B && (decide (0 ≤ port) && decide (port ≤ (n : Int) - 1)))) := hide (by unfold thereB; rw [h.ports.size])
 generalize hw1 : w.alloc (Obj.cells #[.int .i64 B.id, .string B.name, .slice a n c, .slice fa fn fc, .slice ra rn rc, .slice oa on oc, .int .i64 B.ticks, .int .i64 B.parse, .int .i64 B.word, .int .i64 B.drops, .int .i64 B.vers] 31) = w1
 have b01 : Below w.heap.size w w1 := by rw [← hw1]; exact below_one _ _
 have k1 : w1.heap[w.heap.size]? = some (.cells #[.int .i64 B.id, .string B.name, .slice a n c, .slice fa fn fc, .slice ra rn rc, .slice oa on oc, .int .i64 B.ticks, .int .i64 B.parse, .int .i64 B.word, .int .i64 B.drops, .int .i64 B.vers] 31) := by rw [← hw1]; exact block_last _ _
 obtain ⟨x0, x1, x2, x3, x4, x5, x6, x7, x8, x9, x10⟩ := cells11 k1
 cases hok : bridgeOk B
 ·have HQ : Hid (thereB B port = false) := hide (by rw [HTB.out, hok]; rfl)
  have HOK := hide hok
  clear hok
  go_enter Tryz.func49, Tryz.ntmps49
  go_wp2_with fail
  refine (specBridgeOk_any a n c fa fn fc ra rn rc oa on oc B _ (h.below b01)).mono ?_
  rintro e w2 ⟨rfl, hb2⟩
  rw [HOK.out]
  have HB := hide (gr_trans b01 hb2)
  clear x0 x1 x2 x3 x4 x5 x6 x7 x8 x9 x10 hb2
  go_wp2
  go_ret
  exact ⟨(by rw [HQ.out]; rfl), HB.out⟩
 ·have HOK := hide hok
  have HQ : Hid (thereB B port = (decide (0 ≤ port) && decide (port ≤ (n : Int) - 1))) := hide (by rw [HTB.out, hok]; rfl)
  clear hok
  go_enter Tryz.func49, Tryz.ntmps49
  go_wp2_with fail
  refine (specBridgeOk_any a n c fa fn fc ra rn rc oa on oc B _ (h.below b01)).mono ?_
  rintro e w2 ⟨rfl, hb2⟩
  rw [HOK.out]
  have HB := hide (gr_trans b01 hb2)
  have k2 := kept_block k1 hb2
  clear x0 x1 x2 x3 x4 x5 x6 x7 x8 x9 x10 hb2
  obtain ⟨x0, x1, x2, x3, x4, x5, x6, x7, x8, x9, x10⟩ := cells11 k2
  go_wp2_with fail
  refine (within_any port 0 ((n : Int) - 1) _).mono ?_
  rintro r w3 ⟨rfl, ew⟩
  obtain rfl := ew.symm
  go_wp2
  go_ret
  exact ⟨(by rw [HQ.out]; rfl), HB.out⟩

set_option maxRecDepth 100000 in
set_option maxHeartbeats 400000 in
theorem specOne_any (n : Int) (w : World) (h : n ≤ 9223372036854775806) (h0 : -9223372036854775808 ≤ n) :
  Calls Tryz.prog 54 #[.int .i64 n] w fun e w' => e = .returned (.int .i64 (oneMore n)) ∧ w' = w := by
 by_cases h1 : n ≥ 1000000
 ·rw [show oneMore n = n from if_pos h1]
  have h1' : (1000000 : Int) ≤ n := h1
  go_enter Tryz.func54, Tryz.ntmps54
  go_wp2
  go_ret
  exact ⟨rfl, rfl⟩
 ·rw [show oneMore n = n + 1 from if_neg h1]
  have h1' : ¬ (1000000 : Int) ≤ n := h1
  go_enter Tryz.func54, Tryz.ntmps54
  go_wp2
  go_ret
  exact ⟨rfl, rfl⟩

end Go.Proofs.YtddalpglihhipaaGreat
