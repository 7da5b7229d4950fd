/-
  Which vector is the best, as the program has it.
-/
import Derived.Test.YtmlcjdfnoipihaaPtOkI
import Derived.Test.YtmlcjdfnoipihaaPtBest
import Derived.Test.YtmlcjdfnoipihaaVecLess
namespace Go.Proofs.Ytmlcjdfnoipihaa
open Go.RowKit

/-- What the program holds while it looks for the best: at first what the bridge knows by itself. -/
def heldV (id : Int) : Option (VD × Nat) → VD
  | none => ⟨id, 0, 0, 0, 0⟩
  | some (f, _) => f

/-- The result's box and the best's. -/
structure BiSt (w W : World) (v : VD) : Prop where
  res : W.heap[w.heap.size]? = some (.cells #[.int .i64 0, .int .i64 0, .int .i64 0, .int .i64 0, .int .i64 0] 28)
  best : W.heap[w.heap.size + 1]? = some (.cells #[.int .i64 v.r, .int .i64 v.c, .int .i64 v.h, .int .i64 v.b, .int .i64 v.p] 28)
  below : Below w.heap.size w W

theorem BiSt.later {w W W' : World} {v : VD} (h : BiSt w W v) (hb : Below W.heap.size W W') : BiSt w W' v :=
  ⟨kept_block h.res hb, kept_block h.best hb, gr_trans h.below hb⟩

theorem BiSt.set {w W : World} {v : VD} (h : BiSt w W v) (u : VD) : BiSt w (((((W.setCell ⟨w.heap.size + 1, 0, none⟩ (.int .i64 u.r)).setCell ⟨w.heap.size + 1, 1, none⟩ (.int .i64 u.c)).setCell ⟨w.heap.size + 1, 2, none⟩ (.int .i64 u.h)).setCell ⟨w.heap.size + 1, 3, none⟩ (.int .i64 u.b)).setCell ⟨w.heap.size + 1, 4, none⟩ (.int .i64 u.p)) u :=
  ⟨kept_set5 h.res (by omega) _ _ _ _ _, box5_set h.best _ _ _ _ _, below_set5 h.below (by omega) _ _ _ _ _⟩

theorem less_held {id : Int} {u : VD} (h : u.r < id) : lessVc u.r u.c u.b u.p id 0 0 0 = true := by
  unfold lessVc
  have : (u.r != id) = true := by simp; omega
  rw [this]
  simp [h]

/-- The next round: what is offered and less comes in place of what there is. -/
theorem best_round {id : Int} {s : Option (VD × Nat)} {i : Nat} {x : PT} (ho : offers id x = true) (hs : ∀ f j, s = some (f, j) → f.r < id) :
    bestStep id s i x = if lessV (overV x) (heldV id s) = true then some (overV x, i) else s := by
  have ho' := ho
  rw [offers_over] at ho'
  simp only [Bool.and_eq_true, decide_eq_true_eq] at ho'
  have e := over_yes ho'.1
  unfold bestStep
  rw [if_pos ho]
  cases s with
  | none =>
    rw [if_pos]
    · rw [e]
    · exact less_held ho'.2
  | some y =>
    obtain ⟨f, j⟩ := y
    simp only [heldV]
    rw [e]
    rfl

set_option maxRecDepth 100000 in
set_option maxHeartbeats 4000000 in
theorem implBestVec_any (id : Int) (a : Option Addr) (n c : Nat) (l : List PT) (w : World) (h : GRow ptF w a n c l) :
    Calls Try.prog 11 #[.int .i64 id, .slice a n c] w fun e w' => e = .returned (.tuple #[.agg #[.int .i64 (bestV id (bestOf id l)).r, .int .i64 (bestV id (bestOf id l)).c, .int .i64 (bestV id (bestOf id l)).h, .int .i64 (bestV id (bestOf id l)).b, .int .i64 (bestV id (bestOf id l)).p], .int .i64 (bestP (bestOf id l))]) ∧ Below w.heap.size w w' := by
  have hle := h.le
  have htop := h.top
  unfold maxLen at htop
  have hsz := hide h.size
  go_enter Try.func11, Try.ntmps11
  go_wp2_with fail
  generalize hw3 : (w.alloc (Obj.cells #[.int .i64 0, .int .i64 0, .int .i64 0, .int .i64 0, .int .i64 0] 28)).alloc (Obj.cells #[.int .i64 id, .int .i64 0, .int .i64 0, .int .i64 0, .int .i64 0] 28) = w3
  have st3 : BiSt w w3 (heldV id none) := by
    subst hw3
    obtain ⟨k0, k1⟩ := kept_two (Below.refl _ ((w.alloc (Obj.cells #[.int .i64 0, .int .i64 0, .int .i64 0, .int .i64 0, .int .i64 0] 28)).alloc (Obj.cells #[.int .i64 id, .int .i64 0, .int .i64 0, .int .i64 0, .int .i64 0] 28)))
    exact ⟨k0, k1, below_two _ _ _⟩
  clear hw3
  go_loopw [7, 16] (fun p i wr => ∃ (k : Nat) (s : Option (VD × Nat)), k ≤ n ∧ i = .int .i64 k ∧ p = .int .i64 (bestP s) ∧ (bestTo id l k = s ∧ ∀ f j, s = some (f, j) → f.r < id) ∧ BiSt w wr (heldV id s)) (fun _ i _ => n - (intOf i).toNat)
  case atStart => exact ⟨0, none, Nat.zero_le _, rfl, rfl, ⟨rfl, by intro f j e; cases e⟩, st3⟩
  case round =>
    obtain ⟨k, s, hk, rfl, rfl, ⟨hs, hrt⟩, st⟩ := hrel
    obtain ⟨hv, hhv⟩ : ∃ y, y = heldV id s := ⟨_, rfl⟩
    have BACK : Hid (∀ W, BiSt w W hv → BiSt w W (heldV id s)) := hide (by subst hhv; exact fun W h => h)
    rw [← hhv] at st
    have HHV := hide hhv
    have HRT := hide hrt
    clear hhv hrt
    by_cases hlt : k < n
    · obtain ⟨x, b, off, hx, rfl, c0, c1, c2, c3, c4, c5, c6, c7⟩ := pt_at (h.below st.below) k hlt
      have hnx := bestTo_next (id := id) hx
      rw [hs] at hnx
      have i1 : (0 : Int) ≤ (k : Int) := by omega
      have i2 : (k : Int) < (n : Int) := by omega
      have NX := hide hnx
      have ST := hide st
      clear hs hnx hx st
      go_wp2_with fail
      refine (overLink_any x _).mono ?_
      rintro e w4 ⟨rfl, hb4⟩
      have st4 := (ST.out.later (below_one _ _)).later hb4
      clear hb4 c0 c1 c2 c3 c4 c5 c6 c7
      generalize hu : overV x = u
      generalize hq : overB x = q
      have HU := hide hu
      have HQ := hide hq
      clear hu hq
      go_upto_region 6 with fail
      generalize hw5 : w4.alloc (Obj.cells #[.int .i64 u.r, .int .i64 u.c, .int .i64 u.h, .int .i64 u.b, .int .i64 u.p] 28) = w5
      have st5 : BiSt w w5 hv := by rw [← hw5]; exact st4.later (below_one _ _)
      have kX : w5.heap[w4.heap.size]? = some (.cells #[.int .i64 u.r, .int .i64 u.c, .int .i64 u.h, .int .i64 u.b, .int .i64 u.p] 28) := by rw [← hw5]; exact block_last _ _
      have hl4 := (Array.getElem?_eq_some_iff.1 st4.best).1
      have ne1 : ¬ w4.heap.size = w.heap.size + 1 := by omega
      have ne2 : ¬ w.heap.size + 1 = w4.heap.size := by omega
      have HL4 := hide hl4
      obtain ⟨⟨x0, x1, x2, x3, x4⟩, -⟩ := cells5 kX
      obtain ⟨⟨z0, z1, z2, z3, z4⟩, v0, v1, v2, v3, v4⟩ := cells5 st5.best
      clear st4 hl4 hw5
      have ST5 := hide st5
      have KX := hide kX
      clear kX st5
      cases q
      · have HE : Hid (bestTo id l (k + 1) = s) := hide (NX.out.trans (bestStep_no (by rw [offers_over, HQ.out]; rfl)))
        clear v0 v1 v2 v3 v4
        go_wp2
        go_roundw
        case rel => exact ⟨k + 1, s, by omega, by go_num, rfl, ⟨HE.out, HRT.out⟩, BACK.out _ ST5.out⟩
        case measure => simp [intOf]; omega

      cases hlr : decide (u.r < id)
      · have HE : Hid (bestTo id l (k + 1) = s) := hide (NX.out.trans (bestStep_no (by rw [offers_over, HQ.out, HU.out, hlr]; rfl)))
        have hlr : ¬ u.r < id := by simpa using hlr
        clear v0 v1 v2 v3 v4
        go_wp2
        go_roundw
        case rel => exact ⟨k + 1, s, by omega, by go_num, rfl, ⟨HE.out, HRT.out⟩, BACK.out _ ST5.out⟩
        case measure => simp [intOf]; omega

      have HO : Hid (offers id x = true) := hide (by rw [offers_over, HQ.out, HU.out, hlr]; rfl)
      have hlr : u.r < id := by simpa using hlr
      have HLR := hide hlr
      have HSTEP : Hid (bestTo id l (k + 1) = if lessV u hv = true then some (u, k) else s) := hide (by rw [NX.out, best_round HO.out HRT.out, HU.out, HHV.out])
      cases hl : lessV u hv
      · have HE : Hid (bestTo id l (k + 1) = s) := hide (by rw [HSTEP.out, hl]; rfl)
        have HL : Hid (lessVc u.r u.c u.b u.p hv.r hv.c hv.b hv.p = false) := hide hl
        clear hl v0 v1 v2 v3 v4
        go_wp2_with fail
        refine (implLessVec_any u.r u.c u.h u.b u.p hv.r hv.c hv.h hv.b hv.p _).mono ?_
        rintro e wl ⟨rfl, hbl⟩
        rw [HL.out]
        have SL := hide (ST5.out.later hbl)
        clear hbl x0 x1 x2 x3 x4 z0 z1 z2 z3 z4
        go_wp2
        go_roundw
        case rel => exact ⟨k + 1, s, by omega, by go_num, rfl, ⟨HE.out, HRT.out⟩, BACK.out _ SL.out⟩
        case measure => simp [intOf]; omega

      · have HE : Hid (bestTo id l (k + 1) = some (u, k)) := hide (by rw [HSTEP.out, hl]; rfl)
        have HL : Hid (lessVc u.r u.c u.b u.p hv.r hv.c hv.b hv.p = true) := hide hl
        clear hl v0 v1 v2 v3 v4
        go_wp2_with fail
        refine (implLessVec_any u.r u.c u.h u.b u.p hv.r hv.c hv.h hv.b hv.p _).mono ?_
        rintro e wl ⟨rfl, hbl⟩
        rw [HL.out]
        have stl := ST5.out.later hbl
        have kX := kept_block KX.out hbl
        clear hbl x0 x1 x2 x3 x4 z0 z1 z2 z3 z4
        obtain ⟨⟨x0, x1, x2, x3, x4⟩, -⟩ := cells5 kX
        obtain ⟨⟨z0, z1, z2, z3, z4⟩, v0, v1, v2, v3, v4⟩ := cells5 stl.best
        have HSET : Hid (BiSt w _ u) := hide (stl.set u)
        clear stl kX
        go_wp2
        go_roundw
        case rel => exact ⟨k + 1, some (u, k), by omega, by go_num, rfl, ⟨HE.out, fun f j e => by cases e; exact HLR.out⟩, HSET.out⟩
        case measure => simp [intOf]; omega

    · have hkn : k = n := by omega
      subst hkn
      have HB : Hid (bestOf id l = s) := hide (by unfold bestOf; rw [hsz.out]; exact hs)
      have HBV : Hid (bestV id s = ⟨hv.r, hv.c, hv.h, id, 0⟩) := hide (by rw [HHV.out]; cases s <;> rfl)
      obtain ⟨⟨x0, x1, x2, x3, x4⟩, y0, y1, y2, y3, y4⟩ := cells5 st.best
      obtain ⟨⟨r0, r1, r2, r3, r4⟩, z0, z1, z2, z3, z4⟩ := cells5 st.res
      have ne : ¬ w.heap.size = w.heap.size + 1 := by omega
      have hb := below_set5 (below_set (below_set st.below (g := w.heap.size + 1) (by omega) 3 (.int .i64 id)) (g := w.heap.size + 1) (by omega) 4 (.int .i64 0)) (Nat.le_refl w.heap.size) (.int .i64 hv.r) (.int .i64 hv.c) (.int .i64 hv.h) (.int .i64 id) (.int .i64 0)
      clear hs st
      go_wp2
      exact bodyPost_ret (v := .tuple #[.agg #[.int .i64 hv.r, .int .i64 hv.c, .int .i64 hv.h, .int .i64 id, .int .i64 0], .int .i64 (bestP s)]) (by simp [results, Try.results11, go_sem, *]) rfl ⟨(by rw [HB.out, HBV.out]), hb⟩

end Go.Proofs.Ytmlcjdfnoipihaa
