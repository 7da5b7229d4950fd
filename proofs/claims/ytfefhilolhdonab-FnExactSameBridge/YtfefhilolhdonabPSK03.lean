/-
  Packed: EqRows VecNear VlanBits VtabOpen PtOpen BrOpen.
-/
import Derived.Test.YtfefhilolhdonabPSK01
import Derived.Test.YtfefhilolhdonabPSK02
import Derived.Deep.RegionHeld3
import Derived.Deep.CutRange
import Derived.Lib.MinMax
import Derived.WalkKit
import Derived.ProofKit
import Derived.OpenShut
import Derived.ShutString
import Derived.ChangeOld
import Derived.Below
import Derived.Lib.SmallJoins
namespace Go.Proofs.Ytfefhilolhdonab
open Go.RowKit

set_option maxRecDepth 100000 in
set_option maxHeartbeats 4000000 in
theorem eqPt_any (a : Option Addr) (n c : Nat) (l : List PT) (a2 : Option Addr) (n2 c2 : Nat) (l2 : List PT) (w : World) (h : GRow ptF w a n c l) (h2 : GRow ptF w a2 n2 c2 l2) :
  Calls Try.prog 16 #[.slice a n c, .slice a2 n2 c2] w fun e w' => ∃ q : Bool, e = .returned (.bool q) ∧ (q = true ↔ l = l2) ∧ Below w.heap.size w w' := by
 have hle := h.le
 have htop := h.top
 have hle2 := h2.le
 have htop2 := h2.top
 unfold maxLen at htop htop2
 have hsz := h.size
 have hsz2 := h2.size
 by_cases hnn : n = n2
 ·subst hnn
  go_enter Try.func16, Try.ntmps16
  go_wp2
  go_loopw [13] (fun i wr => ∃ k : Nat, k ≤ n ∧ i = .int .i64 k ∧ (∀ j : Nat, j < k → l[j]? = l2[j]?) ∧ Below w.heap.size w wr) (fun i _ => n - (intOf i).toNat)
  case atStart => exact ⟨0, Nat.zero_le _, rfl, fun j hj => by omega, Below.refl _ _⟩
  case round =>
   obtain ⟨k, hk, rfl, hall, hb⟩ := hrel
   by_cases hlt : k < n
   ·obtain ⟨x, b, off, hx, rfl, c0, c1, c2, c3, c4, c5, c6, c7⟩ := pt_at (h.below hb) k hlt
    obtain ⟨y, b2, off2, hy, rfl, d0, d1, d2, d3, d4, d5, d6, d7⟩ := pt_at (h2.below hb) k hlt
    have i1 : (0 : Int) ≤ (k : Int) := by omega
    have i2 : (k : Int) < (n : Int) := by omega
    cases hs : samePt x y
    ·have HN : Hid (¬ l = l2) := hide (by
      intro e
      rw [e, hy] at hx
      cases hx
      rw [(samePt_iff x x).2 rfl] at hs
      cases hs)
     have hne : ∀ W, (binOp .neq 48 (.agg #[.bool x.up, .int .i64 x.k, .bool x.has, .int .i64 x.v.r, .int .i64 x.v.c, .int .i64 x.v.h, .int .i64 x.v.b, .int .i64 x.v.p]) (.agg #[.bool y.up, .int .i64 y.k, .bool y.has, .int .i64 y.v.r, .int .i64 y.v.c, .int .i64 y.v.h, .int .i64 y.v.b, .int .i64 y.v.p])).run Try.prog W = .ok (.bool true) W := fun W => by rw [pt_neq2, hs]; rfl
     have hgd : Try.prog.eqGuardType Try.prog.depth 48 = false := by kernel_rfl
     have HS : (fun W => (W.cell? ⟨b, off + k * 8, none⟩ = some (.bool x.up) ∧ W.cell? ⟨b, off + k * 8 + 1, none⟩ = some (.int .i64 x.k) ∧ W.cell? ⟨b, off + k * 8 + 2, none⟩ = some (.bool x.has) ∧ W.cell? ⟨b, off + k * 8 + 3, none⟩ = some (.int .i64 x.v.r) ∧ W.cell? ⟨b, off + k * 8 + 4, none⟩ = some (.int .i64 x.v.c) ∧ W.cell? ⟨b, off + k * 8 + 5, none⟩ = some (.int .i64 x.v.h) ∧ W.cell? ⟨b, off + k * 8 + 6, none⟩ = some (.int .i64 x.v.b) ∧ W.cell? ⟨b, off + k * 8 + 7, none⟩ = some (.int .i64 x.v.p)) ∧ (W.cell? ⟨b2, off2 + k * 8, none⟩ = some (.bool y.up) ∧ W.cell? ⟨b2, off2 + k * 8 + 1, none⟩ = some (.int .i64 y.k) ∧ W.cell? ⟨b2, off2 + k * 8 + 2, none⟩ = some (.bool y.has) ∧ W.cell? ⟨b2, off2 + k * 8 + 3, none⟩ = some (.int .i64 y.v.r) ∧ W.cell? ⟨b2, off2 + k * 8 + 4, none⟩ = some (.int .i64 y.v.c) ∧ W.cell? ⟨b2, off2 + k * 8 + 5, none⟩ = some (.int .i64 y.v.h) ∧ W.cell? ⟨b2, off2 + k * 8 + 6, none⟩ = some (.int .i64 y.v.b) ∧ W.cell? ⟨b2, off2 + k * 8 + 7, none⟩ = some (.int .i64 y.v.p))) wr.drew := ⟨⟨c0, c1, c2, c3, c4, c5, c6, c7⟩, d0, d1, d2, d3, d4, d5, d6, d7⟩
     clear hs hall hx hy
     go_wp2_with fail
     refine wp_region_held_drew (S := (fun W => (W.cell? ⟨b, off + k * 8, none⟩ = some (.bool x.up) ∧ W.cell? ⟨b, off + k * 8 + 1, none⟩ = some (.int .i64 x.k) ∧ W.cell? ⟨b, off + k * 8 + 2, none⟩ = some (.bool x.has) ∧ W.cell? ⟨b, off + k * 8 + 3, none⟩ = some (.int .i64 x.v.r) ∧ W.cell? ⟨b, off + k * 8 + 4, none⟩ = some (.int .i64 x.v.c) ∧ W.cell? ⟨b, off + k * 8 + 5, none⟩ = some (.int .i64 x.v.h) ∧ W.cell? ⟨b, off + k * 8 + 6, none⟩ = some (.int .i64 x.v.b) ∧ W.cell? ⟨b, off + k * 8 + 7, none⟩ = some (.int .i64 x.v.p)) ∧ (W.cell? ⟨b2, off2 + k * 8, none⟩ = some (.bool y.up) ∧ W.cell? ⟨b2, off2 + k * 8 + 1, none⟩ = some (.int .i64 y.k) ∧ W.cell? ⟨b2, off2 + k * 8 + 2, none⟩ = some (.bool y.has) ∧ W.cell? ⟨b2, off2 + k * 8 + 3, none⟩ = some (.int .i64 y.v.r) ∧ W.cell? ⟨b2, off2 + k * 8 + 4, none⟩ = some (.int .i64 y.v.c) ∧ W.cell? ⟨b2, off2 + k * 8 + 5, none⟩ = some (.int .i64 y.v.h) ∧ W.cell? ⟨b2, off2 + k * 8 + 6, none⟩ = some (.int .i64 y.v.b) ∧ W.cell? ⟨b2, off2 + k * 8 + 7, none⟩ = some (.int .i64 y.v.p)))) (by kernel_rfl) (HS) (fun hHeld => ?_)
     refine wpAnyH_take (i := 0) (oi := ⟨some 16, .move (.tmp 0), 32, "slices.go:25", #[], none⟩) (v := ?_) rfl (by kernel_rfl) (by kernel_rfl) (by kernel_rfl) (fun _ _ _ h => h) (Or.inl ⟨by rfl, ?_⟩) (by assumption) ?_
     rotate_left
     ·(intro wY hSw; (try dsimp only at hSw); go_simp; try with_reducible rfl)
     simp only [Act.put, lA, lB, lC]
     refine wpAnyH_take (i := 1) (oi := ⟨some 17, .move (.tmp 5), 3, "slices.go:25", #[], none⟩) (v := ?_) rfl (by kernel_rfl) (by kernel_rfl) (by kernel_rfl) (fun _ _ _ h => h) (Or.inl ⟨by rfl, ?_⟩) (by assumption) ?_
     rotate_left
     ·(intro wY hSw; (try dsimp only at hSw); go_simp; try with_reducible rfl)
     simp only [Act.put, lA, lB, lC]
     refine wpAnyH_take (i := 2) (oi := ⟨some 18, .indexAddr 32 (.tmp 16) (.tmp 17), 0, "slices.go:25", #[⟨0, .data⟩, ⟨1, .data⟩], none⟩) (v := ?_) rfl (by kernel_rfl) (by kernel_rfl) (by kernel_rfl) (fun _ _ _ h => h) (Or.inl ⟨by rfl, ?_⟩) (by assumption) ?_
     rotate_left
     ·(intro wY hSw; (try dsimp only at hSw); go_simp; try with_reducible rfl)
     simp only [Act.put, lA, lB, lC]
     refine wpAnyH_take (i := 3) (oi := ⟨some 19, .load 48 (.tmp 18), 48, "slices.go:25", #[⟨2, .data⟩], none⟩) (v := ?_) rfl (by kernel_rfl) (by kernel_rfl) (by kernel_rfl) (fun _ _ _ h => h) (Or.inl ⟨by rfl, ?_⟩) (by assumption) ?_
     rotate_left
     ·(intro wY hSw; (try dsimp only at hSw); go_simp; try with_reducible rfl)
     simp only [Act.put, lA, lB, lC]
     refine wpAnyH_take (i := 4) (oi := ⟨some 20, .move (.tmp 1), 32, "slices.go:25", #[], none⟩) (v := ?_) rfl (by kernel_rfl) (by kernel_rfl) (by kernel_rfl) (fun _ _ _ h => h) (Or.inl ⟨by rfl, ?_⟩) (by assumption) ?_
     rotate_left
     ·(intro wY hSw; (try dsimp only at hSw); go_simp; try with_reducible rfl)
     simp only [Act.put, lA, lB, lC]
     refine wpAnyH_take (i := 5) (oi := ⟨some 21, .move (.tmp 5), 3, "slices.go:25", #[], none⟩) (v := ?_) rfl (by kernel_rfl) (by kernel_rfl) (by kernel_rfl) (fun _ _ _ h => h) (Or.inl ⟨by rfl, ?_⟩) (by assumption) ?_
     rotate_left
     ·(intro wY hSw; (try dsimp only at hSw); go_simp; try with_reducible rfl)
     simp only [Act.put, lA, lB, lC]
     refine wpAnyH_take (i := 6) (oi := ⟨some 22, .indexAddr 32 (.tmp 20) (.tmp 21), 0, "slices.go:25", #[⟨4, .data⟩, ⟨5, .data⟩], none⟩) (v := ?_) rfl (by kernel_rfl) (by kernel_rfl) (by kernel_rfl) (fun _ _ _ h => h) (Or.inl ⟨by rfl, ?_⟩) (by assumption) ?_
     rotate_left
     ·(intro wY hSw; (try dsimp only at hSw); go_simp; try with_reducible rfl)
     simp only [Act.put, lA, lB, lC]
     refine wpAnyH_take (i := 7) (oi := ⟨some 23, .load 48 (.tmp 22), 48, "slices.go:25", #[⟨6, .data⟩], none⟩) (v := ?_) rfl (by kernel_rfl) (by kernel_rfl) (by kernel_rfl) (fun _ _ _ h => h) (Or.inl ⟨by rfl, ?_⟩) (by assumption) ?_
     rotate_left
     ·(intro wY hSw; (try dsimp only at hSw); go_simp; try with_reducible rfl)
     simp only [Act.put, lA, lB, lC]
     refine wpAnyH_take (i := 8) (oi := ⟨some 24, .binOp .neq 48 (.tmp 19) (.tmp 23) 48, 4, "slices.go:25", #[⟨3, .data⟩, ⟨7, .data⟩], none⟩) (v := ?_) rfl (by kernel_rfl) (by kernel_rfl) (by kernel_rfl) (fun _ _ _ h => h) (Or.inl ⟨by rfl, ?_⟩) (by assumption) ?_
     rotate_left
     ·(intro wY hSw; (try dsimp only at hSw); go_simp; try with_reducible rfl)
     simp only [Act.put, lA, lB, lC]
     refine wpAnyH_done (by kernel_rfl) ?_ _
     clear HS hne hgd c0 c1 c2 c3 c4 c5 c6 c7 d0 d1 d2 d3 d4 d5 d6 d7
     go_wp2
     go_ret
     exact ⟨false, rfl, ⟨(fun e => by cases e), fun e => absurd e HN.out⟩, gr_drew hb⟩
    ·have HA : Hid (∀ j : Nat, j < k + 1 → l[j]? = l2[j]?) := hide (by
      intro j hj
      by_cases e : j = k
      ·subst e
       rw [hx, hy, (samePt_iff x y).1 hs]
      ·exact hall j (by omega))
     have hne : ∀ W, (binOp .neq 48 (.agg #[.bool x.up, .int .i64 x.k, .bool x.has, .int .i64 x.v.r, .int .i64 x.v.c, .int .i64 x.v.h, .int .i64 x.v.b, .int .i64 x.v.p]) (.agg #[.bool y.up, .int .i64 y.k, .bool y.has, .int .i64 y.v.r, .int .i64 y.v.c, .int .i64 y.v.h, .int .i64 y.v.b, .int .i64 y.v.p])).run Try.prog W = .ok (.bool false) W := fun W => by rw [pt_neq2, hs]; rfl
     have hgd : Try.prog.eqGuardType Try.prog.depth 48 = false := by kernel_rfl
     have HS : (fun W => (W.cell? ⟨b, off + k * 8, none⟩ = some (.bool x.up) ∧ W.cell? ⟨b, off + k * 8 + 1, none⟩ = some (.int .i64 x.k) ∧ W.cell? ⟨b, off + k * 8 + 2, none⟩ = some (.bool x.has) ∧ W.cell? ⟨b, off + k * 8 + 3, none⟩ = some (.int .i64 x.v.r) ∧ W.cell? ⟨b, off + k * 8 + 4, none⟩ = some (.int .i64 x.v.c) ∧ W.cell? ⟨b, off + k * 8 + 5, none⟩ = some (.int .i64 x.v.h) ∧ W.cell? ⟨b, off + k * 8 + 6, none⟩ = some (.int .i64 x.v.b) ∧ W.cell? ⟨b, off + k * 8 + 7, none⟩ = some (.int .i64 x.v.p)) ∧ (W.cell? ⟨b2, off2 + k * 8, none⟩ = some (.bool y.up) ∧ W.cell? ⟨b2, off2 + k * 8 + 1, none⟩ = some (.int .i64 y.k) ∧ W.cell? ⟨b2, off2 + k * 8 + 2, none⟩ = some (.bool y.has) ∧ W.cell? ⟨b2, off2 + k * 8 + 3, none⟩ = some (.int .i64 y.v.r) ∧ W.cell? ⟨b2, off2 + k * 8 + 4, none⟩ = some (.int .i64 y.v.c) ∧ W.cell? ⟨b2, off2 + k * 8 + 5, none⟩ = some (.int .i64 y.v.h) ∧ W.cell? ⟨b2, off2 + k * 8 + 6, none⟩ = some (.int .i64 y.v.b) ∧ W.cell? ⟨b2, off2 + k * 8 + 7, none⟩ = some (.int .i64 y.v.p))) wr.drew := ⟨⟨c0, c1, c2, c3, c4, c5, c6, c7⟩, d0, d1, d2, d3, d4, d5, d6, d7⟩
     clear hs hall hx hy
     go_wp2_with fail
     refine wp_region_held_drew (S := (fun W => (W.cell? ⟨b, off + k * 8, none⟩ = some (.bool x.up) ∧ W.cell? ⟨b, off + k * 8 + 1, none⟩ = some (.int .i64 x.k) ∧ W.cell? ⟨b, off + k * 8 + 2, none⟩ = some (.bool x.has) ∧ W.cell? ⟨b, off + k * 8 + 3, none⟩ = some (.int .i64 x.v.r) ∧ W.cell? ⟨b, off + k * 8 + 4, none⟩ = some (.int .i64 x.v.c) ∧ W.cell? ⟨b, off + k * 8 + 5, none⟩ = some (.int .i64 x.v.h) ∧ W.cell? ⟨b, off + k * 8 + 6, none⟩ = some (.int .i64 x.v.b) ∧ W.cell? ⟨b, off + k * 8 + 7, none⟩ = some (.int .i64 x.v.p)) ∧ (W.cell? ⟨b2, off2 + k * 8, none⟩ = some (.bool y.up) ∧ W.cell? ⟨b2, off2 + k * 8 + 1, none⟩ = some (.int .i64 y.k) ∧ W.cell? ⟨b2, off2 + k * 8 + 2, none⟩ = some (.bool y.has) ∧ W.cell? ⟨b2, off2 + k * 8 + 3, none⟩ = some (.int .i64 y.v.r) ∧ W.cell? ⟨b2, off2 + k * 8 + 4, none⟩ = some (.int .i64 y.v.c) ∧ W.cell? ⟨b2, off2 + k * 8 + 5, none⟩ = some (.int .i64 y.v.h) ∧ W.cell? ⟨b2, off2 + k * 8 + 6, none⟩ = some (.int .i64 y.v.b) ∧ W.cell? ⟨b2, off2 + k * 8 + 7, none⟩ = some (.int .i64 y.v.p)))) (by kernel_rfl) (HS) (fun hHeld => ?_)
     refine wpAnyH_take (i := 0) (oi := ⟨some 16, .move (.tmp 0), 32, "slices.go:25", #[], none⟩) (v := ?_) rfl (by kernel_rfl) (by kernel_rfl) (by kernel_rfl) (fun _ _ _ h => h) (Or.inl ⟨by rfl, ?_⟩) (by assumption) ?_
     rotate_left
     ·(intro wY hSw; (try dsimp only at hSw); go_simp; try with_reducible rfl)
     simp only [Act.put, lA, lB, lC]
     refine wpAnyH_take (i := 1) (oi := ⟨some 17, .move (.tmp 5), 3, "slices.go:25", #[], none⟩) (v := ?_) rfl (by kernel_rfl) (by kernel_rfl) (by kernel_rfl) (fun _ _ _ h => h) (Or.inl ⟨by rfl, ?_⟩) (by assumption) ?_
     rotate_left
     ·(intro wY hSw; (try dsimp only at hSw); go_simp; try with_reducible rfl)
     simp only [Act.put, lA, lB, lC]
     refine wpAnyH_take (i := 2) (oi := ⟨some 18, .indexAddr 32 (.tmp 16) (.tmp 17), 0, "slices.go:25", #[⟨0, .data⟩, ⟨1, .data⟩], none⟩) (v := ?_) rfl (by kernel_rfl) (by kernel_rfl) (by kernel_rfl) (fun _ _ _ h => h) (Or.inl ⟨by rfl, ?_⟩) (by assumption) ?_
     rotate_left
     ·(intro wY hSw; (try dsimp only at hSw); go_simp; try with_reducible rfl)
     simp only [Act.put, lA, lB, lC]
     refine wpAnyH_take (i := 3) (oi := ⟨some 19, .load 48 (.tmp 18), 48, "slices.go:25", #[⟨2, .data⟩], none⟩) (v := ?_) rfl (by kernel_rfl) (by kernel_rfl) (by kernel_rfl) (fun _ _ _ h => h) (Or.inl ⟨by rfl, ?_⟩) (by assumption) ?_
     rotate_left
     ·(intro wY hSw; (try dsimp only at hSw); go_simp; try with_reducible rfl)
     simp only [Act.put, lA, lB, lC]
     refine wpAnyH_take (i := 4) (oi := ⟨some 20, .move (.tmp 1), 32, "slices.go:25", #[], none⟩) (v := ?_) rfl (by kernel_rfl) (by kernel_rfl) (by kernel_rfl) (fun _ _ _ h => h) (Or.inl ⟨by rfl, ?_⟩) (by assumption) ?_
     rotate_left
     ·(intro wY hSw; (try dsimp only at hSw); go_simp; try with_reducible rfl)
     simp only [Act.put, lA, lB, lC]
     refine wpAnyH_take (i := 5) (oi := ⟨some 21, .move (.tmp 5), 3, "slices.go:25", #[], none⟩) (v := ?_) rfl (by kernel_rfl) (by kernel_rfl) (by kernel_rfl) (fun _ _ _ h => h) (Or.inl ⟨by rfl, ?_⟩) (by assumption) ?_
     rotate_left
     ·(intro wY hSw; (try dsimp only at hSw); go_simp; try with_reducible rfl)
     simp only [Act.put, lA, lB, lC]
     refine wpAnyH_take (i := 6) (oi := ⟨some 22, .indexAddr 32 (.tmp 20) (.tmp 21), 0, "slices.go:25", #[⟨4, .data⟩, ⟨5, .data⟩], none⟩) (v := ?_) rfl (by kernel_rfl) (by kernel_rfl) (by kernel_rfl) (fun _ _ _ h => h) (Or.inl ⟨by rfl, ?_⟩) (by assumption) ?_
     rotate_left
     ·(intro wY hSw; (try dsimp only at hSw); go_simp; try with_reducible rfl)
     simp only [Act.put, lA, lB, lC]
     refine wpAnyH_take (i := 7) (oi := ⟨some 23, .load 48 (.tmp 22), 48, "slices.go:25", #[⟨6, .data⟩], none⟩) (v := ?_) rfl (by kernel_rfl) (by kernel_rfl) (by kernel_rfl) (fun _ _ _ h => h) (Or.inl ⟨by rfl, ?_⟩) (by assumption) ?_
     rotate_left
     ·(intro wY hSw; (try dsimp only at hSw); go_simp; try with_reducible rfl)
     simp only [Act.put, lA, lB, lC]
     refine wpAnyH_take (i := 8) (oi := ⟨some 24, .binOp .neq 48 (.tmp 19) (.tmp 23) 48, 4, "slices.go:25", #[⟨3, .data⟩, ⟨7, .data⟩], none⟩) (v := ?_) rfl (by kernel_rfl) (by kernel_rfl) (by kernel_rfl) (fun _ _ _ h => h) (Or.inl ⟨by rfl, ?_⟩) (by assumption) ?_
     rotate_left
     ·(intro wY hSw; (try dsimp only at hSw); go_simp; try with_reducible rfl)
     simp only [Act.put, lA, lB, lC]
     refine wpAnyH_done (by kernel_rfl) ?_ _
     clear HS hne hgd c0 c1 c2 c3 c4 c5 c6 c7 d0 d1 d2 d3 d4 d5 d6 d7
     go_wp2
     go_roundw
     case rel => exact ⟨k + 1, by omega, by go_num, HA.out, gr_drew hb⟩
     case measure => simp [intOf]; omega
   ·have hkn : k = n := by omega
    subst hkn
    have HE : Hid (l = l2) := hide (by
     refine List.ext_getElem? (fun j => ?_)
     by_cases hj : j < k
     ·exact hall j hj
     ·rw [List.getElem?_eq_none (by omega), List.getElem?_eq_none (by omega)])
    clear hall
    go_wp2
    go_ret
    exact ⟨true, rfl, ⟨fun _ => HE.out, fun _ => rfl⟩, hb⟩
 ·have hne : ¬ (n : Int) = (n2 : Int) := by omega
  go_enter Try.func16, Try.ntmps16
  go_wp2
  go_ret
  exact ⟨false, rfl, ⟨(fun e => by cases e), fun e => absurd (by rw [← hsz, ← hsz2, e]) hnn⟩, Below.refl _ _⟩

set_option maxRecDepth 100000 in
set_option maxHeartbeats 4000000 in
theorem eqFent_any (a : Option Addr) (n c : Nat) (l : List FE) (a2 : Option Addr) (n2 c2 : Nat) (l2 : List FE) (w : World) (h : GRow fentF w a n c l) (h2 : GRow fentF w a2 n2 c2 l2) :
  Calls Try.prog 17 #[.slice a n c, .slice a2 n2 c2] w fun e w' => ∃ q : Bool, e = .returned (.bool q) ∧ (q = true ↔ l = l2) ∧ Below w.heap.size w w' := by
 have hle := h.le
 have htop := h.top
 have hle2 := h2.le
 have htop2 := h2.top
 unfold maxLen at htop htop2
 have hsz := h.size
 have hsz2 := h2.size
 by_cases hnn : n = n2
 ·subst hnn
  go_enter Try.func17, Try.ntmps17
  go_wp2
  go_loopw [13] (fun i wr => ∃ k : Nat, k ≤ n ∧ i = .int .i64 k ∧ (∀ j : Nat, j < k → l[j]? = l2[j]?) ∧ Below w.heap.size w wr) (fun i _ => n - (intOf i).toNat)
  case atStart => exact ⟨0, Nat.zero_le _, rfl, fun j hj => by omega, Below.refl _ _⟩
  case round =>
   obtain ⟨k, hk, rfl, hall, hb⟩ := hrel
   by_cases hlt : k < n
   ·obtain ⟨x, b, off, hx, rfl, c0, c1, c2, c3, c4⟩ := fent_at (h.below hb) k hlt
    obtain ⟨y, b2, off2, hy, rfl, d0, d1, d2, d3, d4⟩ := fent_at (h2.below hb) k hlt
    have i1 : (0 : Int) ≤ (k : Int) := by omega
    have i2 : (k : Int) < (n : Int) := by omega
    cases hs : sameFe x y
    ·have HN : Hid (¬ l = l2) := hide (by
      intro e
      rw [e, hy] at hx
      cases hx
      rw [(sameFe_iff x x).2 rfl] at hs
      cases hs)
     have hne : ∀ W, (binOp .neq 50 (.agg #[.int .i64 x.t, .int .i64 x.m, .int .i64 x.p, .int .i64 x.a, .bool x.s]) (.agg #[.int .i64 y.t, .int .i64 y.m, .int .i64 y.p, .int .i64 y.a, .bool y.s])).run Try.prog W = .ok (.bool true) W := fun W => by rw [fent_neq2, hs]; rfl
     have hgd : Try.prog.eqGuardType Try.prog.depth 50 = false := by kernel_rfl
     have HS : (fun W => (W.cell? ⟨b, off + k * 5, none⟩ = some (.int .i64 x.t) ∧ W.cell? ⟨b, off + k * 5 + 1, none⟩ = some (.int .i64 x.m) ∧ W.cell? ⟨b, off + k * 5 + 2, none⟩ = some (.int .i64 x.p) ∧ W.cell? ⟨b, off + k * 5 + 3, none⟩ = some (.int .i64 x.a) ∧ W.cell? ⟨b, off + k * 5 + 4, none⟩ = some (.bool x.s)) ∧ (W.cell? ⟨b2, off2 + k * 5, none⟩ = some (.int .i64 y.t) ∧ W.cell? ⟨b2, off2 + k * 5 + 1, none⟩ = some (.int .i64 y.m) ∧ W.cell? ⟨b2, off2 + k * 5 + 2, none⟩ = some (.int .i64 y.p) ∧ W.cell? ⟨b2, off2 + k * 5 + 3, none⟩ = some (.int .i64 y.a) ∧ W.cell? ⟨b2, off2 + k * 5 + 4, none⟩ = some (.bool y.s))) wr.drew := ⟨⟨c0, c1, c2, c3, c4⟩, d0, d1, d2, d3, d4⟩
     clear hs hall hx hy
     go_wp2_with fail
     refine wp_region_held_drew (S := (fun W => (W.cell? ⟨b, off + k * 5, none⟩ = some (.int .i64 x.t) ∧ W.cell? ⟨b, off + k * 5 + 1, none⟩ = some (.int .i64 x.m) ∧ W.cell? ⟨b, off + k * 5 + 2, none⟩ = some (.int .i64 x.p) ∧ W.cell? ⟨b, off + k * 5 + 3, none⟩ = some (.int .i64 x.a) ∧ W.cell? ⟨b, off + k * 5 + 4, none⟩ = some (.bool x.s)) ∧ (W.cell? ⟨b2, off2 + k * 5, none⟩ = some (.int .i64 y.t) ∧ W.cell? ⟨b2, off2 + k * 5 + 1, none⟩ = some (.int .i64 y.m) ∧ W.cell? ⟨b2, off2 + k * 5 + 2, none⟩ = some (.int .i64 y.p) ∧ W.cell? ⟨b2, off2 + k * 5 + 3, none⟩ = some (.int .i64 y.a) ∧ W.cell? ⟨b2, off2 + k * 5 + 4, none⟩ = some (.bool y.s)))) (by kernel_rfl) (HS) (fun hHeld => ?_)
     refine wpAnyH_take (i := 0) (oi := ⟨some 16, .move (.tmp 0), 33, "slices.go:25", #[], none⟩) (v := ?_) rfl (by kernel_rfl) (by kernel_rfl) (by kernel_rfl) (fun _ _ _ h => h) (Or.inl ⟨by rfl, ?_⟩) (by assumption) ?_
     rotate_left
     ·(intro wY hSw; (try dsimp only at hSw); go_simp; try with_reducible rfl)
     simp only [Act.put, lA, lB, lC]
     refine wpAnyH_take (i := 1) (oi := ⟨some 17, .move (.tmp 5), 3, "slices.go:25", #[], none⟩) (v := ?_) rfl (by kernel_rfl) (by kernel_rfl) (by kernel_rfl) (fun _ _ _ h => h) (Or.inl ⟨by rfl, ?_⟩) (by assumption) ?_
     rotate_left
     ·(intro wY hSw; (try dsimp only at hSw); go_simp; try with_reducible rfl)
     simp only [Act.put, lA, lB, lC]
     refine wpAnyH_take (i := 2) (oi := ⟨some 18, .indexAddr 33 (.tmp 16) (.tmp 17), 0, "slices.go:25", #[⟨0, .data⟩, ⟨1, .data⟩], none⟩) (v := ?_) rfl (by kernel_rfl) (by kernel_rfl) (by kernel_rfl) (fun _ _ _ h => h) (Or.inl ⟨by rfl, ?_⟩) (by assumption) ?_
     rotate_left
     ·(intro wY hSw; (try dsimp only at hSw); go_simp; try with_reducible rfl)
     simp only [Act.put, lA, lB, lC]
     refine wpAnyH_take (i := 3) (oi := ⟨some 19, .load 50 (.tmp 18), 50, "slices.go:25", #[⟨2, .data⟩], none⟩) (v := ?_) rfl (by kernel_rfl) (by kernel_rfl) (by kernel_rfl) (fun _ _ _ h => h) (Or.inl ⟨by rfl, ?_⟩) (by assumption) ?_
     rotate_left
     ·(intro wY hSw; (try dsimp only at hSw); go_simp; try with_reducible rfl)
     simp only [Act.put, lA, lB, lC]
     refine wpAnyH_take (i := 4) (oi := ⟨some 20, .move (.tmp 1), 33, "slices.go:25", #[], none⟩) (v := ?_) rfl (by kernel_rfl) (by kernel_rfl) (by kernel_rfl) (fun _ _ _ h => h) (Or.inl ⟨by rfl, ?_⟩) (by assumption) ?_
     rotate_left
     ·(intro wY hSw; (try dsimp only at hSw); go_simp; try with_reducible rfl)
     simp only [Act.put, lA, lB, lC]
     refine wpAnyH_take (i := 5) (oi := ⟨some 21, .move (.tmp 5), 3, "slices.go:25", #[], none⟩) (v := ?_) rfl (by kernel_rfl) (by kernel_rfl) (by kernel_rfl) (fun _ _ _ h => h) (Or.inl ⟨by rfl, ?_⟩) (by assumption) ?_
     rotate_left
     ·(intro wY hSw; (try dsimp only at hSw); go_simp; try with_reducible rfl)
     simp only [Act.put, lA, lB, lC]
     refine wpAnyH_take (i := 6) (oi := ⟨some 22, .indexAddr 33 (.tmp 20) (.tmp 21), 0, "slices.go:25", #[⟨4, .data⟩, ⟨5, .data⟩], none⟩) (v := ?_) rfl (by kernel_rfl) (by kernel_rfl) (by kernel_rfl) (fun _ _ _ h => h) (Or.inl ⟨by rfl, ?_⟩) (by assumption) ?_
     rotate_left
     ·(intro wY hSw; (try dsimp only at hSw); go_simp; try with_reducible rfl)
     simp only [Act.put, lA, lB, lC]
     refine wpAnyH_take (i := 7) (oi := ⟨some 23, .load 50 (.tmp 22), 50, "slices.go:25", #[⟨6, .data⟩], none⟩) (v := ?_) rfl (by kernel_rfl) (by kernel_rfl) (by kernel_rfl) (fun _ _ _ h => h) (Or.inl ⟨by rfl, ?_⟩) (by assumption) ?_
     rotate_left
     ·(intro wY hSw; (try dsimp only at hSw); go_simp; try with_reducible rfl)
     simp only [Act.put, lA, lB, lC]
     refine wpAnyH_take (i := 8) (oi := ⟨some 24, .binOp .neq 50 (.tmp 19) (.tmp 23) 50, 4, "slices.go:25", #[⟨3, .data⟩, ⟨7, .data⟩], none⟩) (v := ?_) rfl (by kernel_rfl) (by kernel_rfl) (by kernel_rfl) (fun _ _ _ h => h) (Or.inl ⟨by rfl, ?_⟩) (by assumption) ?_
     rotate_left
     ·(intro wY hSw; (try dsimp only at hSw); go_simp; try with_reducible rfl)
     simp only [Act.put, lA, lB, lC]
     refine wpAnyH_done (by kernel_rfl) ?_ _
     clear HS hne hgd c0 c1 c2 c3 c4 d0 d1 d2 d3 d4
     go_wp2
     go_ret
     exact ⟨false, rfl, ⟨(fun e => by cases e), fun e => absurd e HN.out⟩, gr_drew hb⟩
    ·have HA : Hid (∀ j : Nat, j < k + 1 → l[j]? = l2[j]?) := hide (by
      intro j hj
      by_cases e : j = k
      ·subst e
       rw [hx, hy, (sameFe_iff x y).1 hs]
      ·exact hall j (by omega))
     have hne : ∀ W, (binOp .neq 50 (.agg #[.int .i64 x.t, .int .i64 x.m, .int .i64 x.p, .int .i64 x.a, .bool x.s]) (.agg #[.int .i64 y.t, .int .i64 y.m, .int .i64 y.p, .int .i64 y.a, .bool y.s])).run Try.prog W = .ok (.bool false) W := fun W => by rw [fent_neq2, hs]; rfl
     have hgd : Try.prog.eqGuardType Try.prog.depth 50 = false := by kernel_rfl
     have HS : (fun W => (W.cell? ⟨b, off + k * 5, none⟩ = some (.int .i64 x.t) ∧ W.cell? ⟨b, off + k * 5 + 1, none⟩ = some (.int .i64 x.m) ∧ W.cell? ⟨b, off + k * 5 + 2, none⟩ = some (.int .i64 x.p) ∧ W.cell? ⟨b, off + k * 5 + 3, none⟩ = some (.int .i64 x.a) ∧ W.cell? ⟨b, off + k * 5 + 4, none⟩ = some (.bool x.s)) ∧ (W.cell? ⟨b2, off2 + k * 5, none⟩ = some (.int .i64 y.t) ∧ W.cell? ⟨b2, off2 + k * 5 + 1, none⟩ = some (.int .i64 y.m) ∧ W.cell? ⟨b2, off2 + k * 5 + 2, none⟩ = some (.int .i64 y.p) ∧ W.cell? ⟨b2, off2 + k * 5 + 3, none⟩ = some (.int .i64 y.a) ∧ W.cell? ⟨b2, off2 + k * 5 + 4, none⟩ = some (.bool y.s))) wr.drew := ⟨⟨c0, c1, c2, c3, c4⟩, d0, d1, d2, d3, d4⟩
     clear hs hall hx hy
     go_wp2_with fail
     refine wp_region_held_drew (S := (fun W => (W.cell? ⟨b, off + k * 5, none⟩ = some (.int .i64 x.t) ∧ W.cell? ⟨b, off + k * 5 + 1, none⟩ = some (.int .i64 x.m) ∧ W.cell? ⟨b, off + k * 5 + 2, none⟩ = some (.int .i64 x.p) ∧ W.cell? ⟨b, off + k * 5 + 3, none⟩ = some (.int .i64 x.a) ∧ W.cell? ⟨b, off + k * 5 + 4, none⟩ = some (.bool x.s)) ∧ (W.cell? ⟨b2, off2 + k * 5, none⟩ = some (.int .i64 y.t) ∧ W.cell? ⟨b2, off2 + k * 5 + 1, none⟩ = some (.int .i64 y.m) ∧ W.cell? ⟨b2, off2 + k * 5 + 2, none⟩ = some (.int .i64 y.p) ∧ W.cell? ⟨b2, off2 + k * 5 + 3, none⟩ = some (.int .i64 y.a) ∧ W.cell? ⟨b2, off2 + k * 5 + 4, none⟩ = some (.bool y.s)))) (by kernel_rfl) (HS) (fun hHeld => ?_)
     refine wpAnyH_take (i := 0) (oi := ⟨some 16, .move (.tmp 0), 33, "slices.go:25", #[], none⟩) (v := ?_) rfl (by kernel_rfl) (by kernel_rfl) (by kernel_rfl) (fun _ _ _ h => h) (Or.inl ⟨by rfl, ?_⟩) (by assumption) ?_
     rotate_left
     ·(intro wY hSw; (try dsimp only at hSw); go_simp; try with_reducible rfl)
     simp only [Act.put, lA, lB, lC]
     refine wpAnyH_take (i := 1) (oi := ⟨some 17, .move (.tmp 5), 3, "slices.go:25", #[], none⟩) (v := ?_) rfl (by kernel_rfl) (by kernel_rfl) (by kernel_rfl) (fun _ _ _ h => h) (Or.inl ⟨by rfl, ?_⟩) (by assumption) ?_
     rotate_left
     ·(intro wY hSw; (try dsimp only at hSw); go_simp; try with_reducible rfl)
     simp only [Act.put, lA, lB, lC]
     refine wpAnyH_take (i := 2) (oi := ⟨some 18, .indexAddr 33 (.tmp 16) (.tmp 17), 0, "slices.go:25", #[⟨0, .data⟩, ⟨1, .data⟩], none⟩) (v := ?_) rfl (by kernel_rfl) (by kernel_rfl) (by kernel_rfl) (fun _ _ _ h => h) (Or.inl ⟨by rfl, ?_⟩) (by assumption) ?_
     rotate_left
     ·(intro wY hSw; (try dsimp only at hSw); go_simp; try with_reducible rfl)
     simp only [Act.put, lA, lB, lC]
     refine wpAnyH_take (i := 3) (oi := ⟨some 19, .load 50 (.tmp 18), 50, "slices.go:25", #[⟨2, .data⟩], none⟩) (v := ?_) rfl (by kernel_rfl) (by kernel_rfl) (by kernel_rfl) (fun _ _ _ h => h) (Or.inl ⟨by rfl, ?_⟩) (by assumption) ?_
     rotate_left
     ·(intro wY hSw; (try dsimp only at hSw); go_simp; try with_reducible rfl)
     simp only [Act.put, lA, lB, lC]
     refine wpAnyH_take (i := 4) (oi := ⟨some 20, .move (.tmp 1), 33, "slices.go:25", #[], none⟩) (v := ?_) rfl (by kernel_rfl) (by kernel_rfl) (by kernel_rfl) (fun _ _ _ h => h) (Or.inl ⟨by rfl, ?_⟩) (by assumption) ?_
     rotate_left
     ·(intro wY hSw; (try dsimp only at hSw); go_simp; try with_reducible rfl)
     simp only [Act.put, lA, lB, lC]
     refine wpAnyH_take (i := 5) (oi := ⟨some 21, .move (.tmp 5), 3, "slices.go:25", #[], none⟩) (v := ?_) rfl (by kernel_rfl) (by kernel_rfl) (by kernel_rfl) (fun _ _ _ h => h) (Or.inl ⟨by rfl, ?_⟩) (by assumption) ?_
     rotate_left
     ·(intro wY hSw; (try dsimp only at hSw); go_simp; try with_reducible rfl)
     simp only [Act.put, lA, lB, lC]
     refine wpAnyH_take (i := 6) (oi := ⟨some 22, .indexAddr 33 (.tmp 20) (.tmp 21), 0, "slices.go:25", #[⟨4, .data⟩, ⟨5, .data⟩], none⟩) (v := ?_) rfl (by kernel_rfl) (by kernel_rfl) (by kernel_rfl) (fun _ _ _ h => h) (Or.inl ⟨by rfl, ?_⟩) (by assumption) ?_
     rotate_left
     ·(intro wY hSw; (try dsimp only at hSw); go_simp; try with_reducible rfl)
     simp only [Act.put, lA, lB, lC]
     refine wpAnyH_take (i := 7) (oi := ⟨some 23, .load 50 (.tmp 22), 50, "slices.go:25", #[⟨6, .data⟩], none⟩) (v := ?_) rfl (by kernel_rfl) (by kernel_rfl) (by kernel_rfl) (fun _ _ _ h => h) (Or.inl ⟨by rfl, ?_⟩) (by assumption) ?_
     rotate_left
     ·(intro wY hSw; (try dsimp only at hSw); go_simp; try with_reducible rfl)
     simp only [Act.put, lA, lB, lC]
     refine wpAnyH_take (i := 8) (oi := ⟨some 24, .binOp .neq 50 (.tmp 19) (.tmp 23) 50, 4, "slices.go:25", #[⟨3, .data⟩, ⟨7, .data⟩], none⟩) (v := ?_) rfl (by kernel_rfl) (by kernel_rfl) (by kernel_rfl) (fun _ _ _ h => h) (Or.inl ⟨by rfl, ?_⟩) (by assumption) ?_
     rotate_left
     ·(intro wY hSw; (try dsimp only at hSw); go_simp; try with_reducible rfl)
     simp only [Act.put, lA, lB, lC]
     refine wpAnyH_done (by kernel_rfl) ?_ _
     clear HS hne hgd c0 c1 c2 c3 c4 d0 d1 d2 d3 d4
     go_wp2
     go_roundw
     case rel => exact ⟨k + 1, by omega, by go_num, HA.out, gr_drew hb⟩
     case measure => simp [intOf]; omega
   ·have hkn : k = n := by omega
    subst hkn
    have HE : Hid (l = l2) := hide (by
     refine List.ext_getElem? (fun j => ?_)
     by_cases hj : j < k
     ·exact hall j hj
     ·rw [List.getElem?_eq_none (by omega), List.getElem?_eq_none (by omega)])
    clear hall
    go_wp2
    go_ret
    exact ⟨true, rfl, ⟨fun _ => HE.out, fun _ => rfl⟩, hb⟩
 ·have hne : ¬ (n : Int) = (n2 : Int) := by omega
  go_enter Try.func17, Try.ntmps17
  go_wp2
  go_ret
  exact ⟨false, rfl, ⟨(fun e => by cases e), fun e => absurd (by rw [← hsz, ← hsz2, e]) hnn⟩, Below.refl _ _⟩

set_option maxRecDepth 100000 in
set_option maxHeartbeats 4000000 in
theorem eqVrow_any (a : Option Addr) (n c : Nat) (l : List VR) (a2 : Option Addr) (n2 c2 : Nat) (l2 : List VR) (w : World) (h : GRow vrowF w a n c l) (h2 : GRow vrowF w a2 n2 c2 l2) :
  Calls Try.prog 18 #[.slice a n c, .slice a2 n2 c2] w fun e w' => ∃ q : Bool, e = .returned (.bool q) ∧ (q = true ↔ l = l2) ∧ Below w.heap.size w w' := by
 have hle := h.le
 have htop := h.top
 have hle2 := h2.le
 have htop2 := h2.top
 unfold maxLen at htop htop2
 have hsz := h.size
 have hsz2 := h2.size
 by_cases hnn : n = n2
 ·subst hnn
  go_enter Try.func18, Try.ntmps18
  go_wp2
  go_loopw [13] (fun i wr => ∃ k : Nat, k ≤ n ∧ i = .int .i64 k ∧ (∀ j : Nat, j < k → l[j]? = l2[j]?) ∧ Below w.heap.size w wr) (fun i _ => n - (intOf i).toNat)
  case atStart => exact ⟨0, Nat.zero_le _, rfl, fun j hj => by omega, Below.refl _ _⟩
  case round =>
   obtain ⟨k, hk, rfl, hall, hb⟩ := hrel
   by_cases hlt : k < n
   ·obtain ⟨x, b, off, hx, rfl, c0, c1, c2⟩ := vrow_at (h.below hb) k hlt
    obtain ⟨y, b2, off2, hy, rfl, d0, d1, d2⟩ := vrow_at (h2.below hb) k hlt
    have i1 : (0 : Int) ≤ (k : Int) := by omega
    have i2 : (k : Int) < (n : Int) := by omega
    cases hs : sameVr x y
    ·have HN : Hid (¬ l = l2) := hide (by
      intro e
      rw [e, hy] at hx
      cases hx
      rw [(sameVr_iff x x).2 rfl] at hs
      cases hs)
     have hne : ∀ W, (binOp .neq 52 (.agg #[.int .i64 x.i, .int .i64 x.m, .int .i64 x.b]) (.agg #[.int .i64 y.i, .int .i64 y.m, .int .i64 y.b])).run Try.prog W = .ok (.bool true) W := fun W => by rw [vrow_neq2, hs]; rfl
     have hgd : Try.prog.eqGuardType Try.prog.depth 52 = false := by kernel_rfl
     have HS : (fun W => (W.cell? ⟨b, off + k * 3, none⟩ = some (.int .i64 x.i) ∧ W.cell? ⟨b, off + k * 3 + 1, none⟩ = some (.int .i64 x.m) ∧ W.cell? ⟨b, off + k * 3 + 2, none⟩ = some (.int .i64 x.b)) ∧ (W.cell? ⟨b2, off2 + k * 3, none⟩ = some (.int .i64 y.i) ∧ W.cell? ⟨b2, off2 + k * 3 + 1, none⟩ = some (.int .i64 y.m) ∧ W.cell? ⟨b2, off2 + k * 3 + 2, none⟩ = some (.int .i64 y.b))) wr.drew := ⟨⟨c0, c1, c2⟩, d0, d1, d2⟩
     clear hs hall hx hy
     go_wp2_with fail
     refine wp_region_held_drew (S := (fun W => (W.cell? ⟨b, off + k * 3, none⟩ = some (.int .i64 x.i) ∧ W.cell? ⟨b, off + k * 3 + 1, none⟩ = some (.int .i64 x.m) ∧ W.cell? ⟨b, off + k * 3 + 2, none⟩ = some (.int .i64 x.b)) ∧ (W.cell? ⟨b2, off2 + k * 3, none⟩ = some (.int .i64 y.i) ∧ W.cell? ⟨b2, off2 + k * 3 + 1, none⟩ = some (.int .i64 y.m) ∧ W.cell? ⟨b2, off2 + k * 3 + 2, none⟩ = some (.int .i64 y.b)))) (by kernel_rfl) (HS) (fun hHeld => ?_)
     refine wpAnyH_take (i := 0) (oi := ⟨some 16, .move (.tmp 0), 34, "slices.go:25", #[], none⟩) (v := ?_) rfl (by kernel_rfl) (by kernel_rfl) (by kernel_rfl) (fun _ _ _ h => h) (Or.inl ⟨by rfl, ?_⟩) (by assumption) ?_
     rotate_left
     ·(intro wY hSw; (try dsimp only at hSw); go_simp; try with_reducible rfl)
     simp only [Act.put, lA, lB, lC]
     refine wpAnyH_take (i := 1) (oi := ⟨some 17, .move (.tmp 5), 3, "slices.go:25", #[], none⟩) (v := ?_) rfl (by kernel_rfl) (by kernel_rfl) (by kernel_rfl) (fun _ _ _ h => h) (Or.inl ⟨by rfl, ?_⟩) (by assumption) ?_
     rotate_left
     ·(intro wY hSw; (try dsimp only at hSw); go_simp; try with_reducible rfl)
     simp only [Act.put, lA, lB, lC]
     refine wpAnyH_take (i := 2) (oi := ⟨some 18, .indexAddr 34 (.tmp 16) (.tmp 17), 0, "slices.go:25", #[⟨0, .data⟩, ⟨1, .data⟩], none⟩) (v := ?_) rfl (by kernel_rfl) (by kernel_rfl) (by kernel_rfl) (fun _ _ _ h => h) (Or.inl ⟨by rfl, ?_⟩) (by assumption) ?_
     rotate_left
     ·(intro wY hSw; (try dsimp only at hSw); go_simp; try with_reducible rfl)
     simp only [Act.put, lA, lB, lC]
     refine wpAnyH_take (i := 3) (oi := ⟨some 19, .load 52 (.tmp 18), 52, "slices.go:25", #[⟨2, .data⟩], none⟩) (v := ?_) rfl (by kernel_rfl) (by kernel_rfl) (by kernel_rfl) (fun _ _ _ h => h) (Or.inl ⟨by rfl, ?_⟩) (by assumption) ?_
     rotate_left
     ·(intro wY hSw; (try dsimp only at hSw); go_simp; try with_reducible rfl)
     simp only [Act.put, lA, lB, lC]
     refine wpAnyH_take (i := 4) (oi := ⟨some 20, .move (.tmp 1), 34, "slices.go:25", #[], none⟩) (v := ?_) rfl (by kernel_rfl) (by kernel_rfl) (by kernel_rfl) (fun _ _ _ h => h) (Or.inl ⟨by rfl, ?_⟩) (by assumption) ?_
     rotate_left
     ·(intro wY hSw; (try dsimp only at hSw); go_simp; try with_reducible rfl)
     simp only [Act.put, lA, lB, lC]
     refine wpAnyH_take (i := 5) (oi := ⟨some 21, .move (.tmp 5), 3, "slices.go:25", #[], none⟩) (v := ?_) rfl (by kernel_rfl) (by kernel_rfl) (by kernel_rfl) (fun _ _ _ h => h) (Or.inl ⟨by rfl, ?_⟩) (by assumption) ?_
     rotate_left
     ·(intro wY hSw; (try dsimp only at hSw); go_simp; try with_reducible rfl)
     simp only [Act.put, lA, lB, lC]
     refine wpAnyH_take (i := 6) (oi := ⟨some 22, .indexAddr 34 (.tmp 20) (.tmp 21), 0, "slices.go:25", #[⟨4, .data⟩, ⟨5, .data⟩], none⟩) (v := ?_) rfl (by kernel_rfl) (by kernel_rfl) (by kernel_rfl) (fun _ _ _ h => h) (Or.inl ⟨by rfl, ?_⟩) (by assumption) ?_
     rotate_left
     ·(intro wY hSw; (try dsimp only at hSw); go_simp; try with_reducible rfl)
     simp only [Act.put, lA, lB, lC]
     refine wpAnyH_take (i := 7) (oi := ⟨some 23, .load 52 (.tmp 22), 52, "slices.go:25", #[⟨6, .data⟩], none⟩) (v := ?_) rfl (by kernel_rfl) (by kernel_rfl) (by kernel_rfl) (fun _ _ _ h => h) (Or.inl ⟨by rfl, ?_⟩) (by assumption) ?_
     rotate_left
     ·(intro wY hSw; (try dsimp only at hSw); go_simp; try with_reducible rfl)
     simp only [Act.put, lA, lB, lC]
     refine wpAnyH_take (i := 8) (oi := ⟨some 24, .binOp .neq 52 (.tmp 19) (.tmp 23) 52, 4, "slices.go:25", #[⟨3, .data⟩, ⟨7, .data⟩], none⟩) (v := ?_) rfl (by kernel_rfl) (by kernel_rfl) (by kernel_rfl) (fun _ _ _ h => h) (Or.inl ⟨by rfl, ?_⟩) (by assumption) ?_
     rotate_left
     ·(intro wY hSw; (try dsimp only at hSw); go_simp; try with_reducible rfl)
     simp only [Act.put, lA, lB, lC]
     refine wpAnyH_done (by kernel_rfl) ?_ _
     clear HS hne hgd c0 c1 c2 d0 d1 d2
     go_wp2
     go_ret
     exact ⟨false, rfl, ⟨(fun e => by cases e), fun e => absurd e HN.out⟩, gr_drew hb⟩
    ·have HA : Hid (∀ j : Nat, j < k + 1 → l[j]? = l2[j]?) := hide (by
      intro j hj
      by_cases e : j = k
      ·subst e
       rw [hx, hy, (sameVr_iff x y).1 hs]
      ·exact hall j (by omega))
     have hne : ∀ W, (binOp .neq 52 (.agg #[.int .i64 x.i, .int .i64 x.m, .int .i64 x.b]) (.agg #[.int .i64 y.i, .int .i64 y.m, .int .i64 y.b])).run Try.prog W = .ok (.bool false) W := fun W => by rw [vrow_neq2, hs]; rfl
     have hgd : Try.prog.eqGuardType Try.prog.depth 52 = false := by kernel_rfl
     have HS : (fun W => (W.cell? ⟨b, off + k * 3, none⟩ = some (.int .i64 x.i) ∧ W.cell? ⟨b, off + k * 3 + 1, none⟩ = some (.int .i64 x.m) ∧ W.cell? ⟨b, off + k * 3 + 2, none⟩ = some (.int .i64 x.b)) ∧ (W.cell? ⟨b2, off2 + k * 3, none⟩ = some (.int .i64 y.i) ∧ W.cell? ⟨b2, off2 + k * 3 + 1, none⟩ = some (.int .i64 y.m) ∧ W.cell? ⟨b2, off2 + k * 3 + 2, none⟩ = some (.int .i64 y.b))) wr.drew := ⟨⟨c0, c1, c2⟩, d0, d1, d2⟩
     clear hs hall hx hy
     go_wp2_with fail
     refine wp_region_held_drew (S := (fun W => (W.cell? ⟨b, off + k * 3, none⟩ = some (.int .i64 x.i) ∧ W.cell? ⟨b, off + k * 3 + 1, none⟩ = some (.int .i64 x.m) ∧ W.cell? ⟨b, off + k * 3 + 2, none⟩ = some (.int .i64 x.b)) ∧ (W.cell? ⟨b2, off2 + k * 3, none⟩ = some (.int .i64 y.i) ∧ W.cell? ⟨b2, off2 + k * 3 + 1, none⟩ = some (.int .i64 y.m) ∧ W.cell? ⟨b2, off2 + k * 3 + 2, none⟩ = some (.int .i64 y.b)))) (by kernel_rfl) (HS) (fun hHeld => ?_)
     refine wpAnyH_take (i := 0) (oi := ⟨some 16, .move (.tmp 0), 34, "slices.go:25", #[], none⟩) (v := ?_) rfl (by kernel_rfl) (by kernel_rfl) (by kernel_rfl) (fun _ _ _ h => h) (Or.inl ⟨by rfl, ?_⟩) (by assumption) ?_
     rotate_left
     ·(intro wY hSw; (try dsimp only at hSw); go_simp; try with_reducible rfl)
     simp only [Act.put, lA, lB, lC]
     refine wpAnyH_take (i := 1) (oi := ⟨some 17, .move (.tmp 5), 3, "slices.go:25", #[], none⟩) (v := ?_) rfl (by kernel_rfl) (by kernel_rfl) (by kernel_rfl) (fun _ _ _ h => h) (Or.inl ⟨by rfl, ?_⟩) (by assumption) ?_
     rotate_left
     ·(intro wY hSw; (try dsimp only at hSw); go_simp; try with_reducible rfl)
     simp only [Act.put, lA, lB, lC]
     refine wpAnyH_take (i := 2) (oi := ⟨some 18, .indexAddr 34 (.tmp 16) (.tmp 17), 0, "slices.go:25", #[⟨0, .data⟩, ⟨1, .data⟩], none⟩) (v := ?_) rfl (by kernel_rfl) (by kernel_rfl) (by kernel_rfl) (fun _ _ _ h => h) (Or.inl ⟨by rfl, ?_⟩) (by assumption) ?_
     rotate_left
     ·(intro wY hSw; (try dsimp only at hSw); go_simp; try with_reducible rfl)
     simp only [Act.put, lA, lB, lC]
     refine wpAnyH_take (i := 3) (oi := ⟨some 19, .load 52 (.tmp 18), 52, "slices.go:25", #[⟨2, .data⟩], none⟩) (v := ?_) rfl (by kernel_rfl) (by kernel_rfl) (by kernel_rfl) (fun _ _ _ h => h) (Or.inl ⟨by rfl, ?_⟩) (by assumption) ?_
     rotate_left
     ·(intro wY hSw; (try dsimp only at hSw); go_simp; try with_reducible rfl)
     simp only [Act.put, lA, lB, lC]
     refine wpAnyH_take (i := 4) (oi := ⟨some 20, .move (.tmp 1), 34, "slices.go:25", #[], none⟩) (v := ?_) rfl (by kernel_rfl) (by kernel_rfl) (by kernel_rfl) (fun _ _ _ h => h) (Or.inl ⟨by rfl, ?_⟩) (by assumption) ?_
     rotate_left
     ·(intro wY hSw; (try dsimp only at hSw); go_simp; try with_reducible rfl)
     simp only [Act.put, lA, lB, lC]
     refine wpAnyH_take (i := 5) (oi := ⟨some 21, .move (.tmp 5), 3, "slices.go:25", #[], none⟩) (v := ?_) rfl (by kernel_rfl) (by kernel_rfl) (by kernel_rfl) (fun _ _ _ h => h) (Or.inl ⟨by rfl, ?_⟩) (by assumption) ?_
     rotate_left
     ·(intro wY hSw; (try dsimp only at hSw); go_simp; try with_reducible rfl)
     simp only [Act.put, lA, lB, lC]
     refine wpAnyH_take (i := 6) (oi := ⟨some 22, .indexAddr 34 (.tmp 20) (.tmp 21), 0, "slices.go:25", #[⟨4, .data⟩, ⟨5, .data⟩], none⟩) (v := ?_) rfl (by kernel_rfl) (by kernel_rfl) (by kernel_rfl) (fun _ _ _ h => h) (Or.inl ⟨by rfl, ?_⟩) (by assumption) ?_
     rotate_left
     ·(intro wY hSw; (try dsimp only at hSw); go_simp; try with_reducible rfl)
     simp only [Act.put, lA, lB, lC]
     refine wpAnyH_take (i := 7) (oi := ⟨some 23, .load 52 (.tmp 22), 52, "slices.go:25", #[⟨6, .data⟩], none⟩) (v := ?_) rfl (by kernel_rfl) (by kernel_rfl) (by kernel_rfl) (fun _ _ _ h => h) (Or.inl ⟨by rfl, ?_⟩) (by assumption) ?_
     rotate_left
     ·(intro wY hSw; (try dsimp only at hSw); go_simp; try with_reducible rfl)
     simp only [Act.put, lA, lB, lC]
     refine wpAnyH_take (i := 8) (oi := ⟨some 24, .binOp .neq 52 (.tmp 19) (.tmp 23) 52, 4, "slices.go:25", #[⟨3, .data⟩, ⟨7, .data⟩], none⟩) (v := ?_) rfl (by kernel_rfl) (by kernel_rfl) (by kernel_rfl) (fun _ _ _ h => h) (Or.inl ⟨by rfl, ?_⟩) (by assumption) ?_
     rotate_left
     ·(intro wY hSw; (try dsimp only at hSw); go_simp; try with_reducible rfl)
     simp only [Act.put, lA, lB, lC]
     refine wpAnyH_done (by kernel_rfl) ?_ _
     clear HS hne hgd c0 c1 c2 d0 d1 d2
     go_wp2
     go_roundw
     case rel => exact ⟨k + 1, by omega, by go_num, HA.out, gr_drew hb⟩
     case measure => simp [intOf]; omega
   ·have hkn : k = n := by omega
    subst hkn
    have HE : Hid (l = l2) := hide (by
     refine List.ext_getElem? (fun j => ?_)
     by_cases hj : j < k
     ·exact hall j hj
     ·rw [List.getElem?_eq_none (by omega), List.getElem?_eq_none (by omega)])
    clear hall
    go_wp2
    go_ret
    exact ⟨true, rfl, ⟨fun _ => HE.out, fun _ => rfl⟩, hb⟩
 ·have hne : ¬ (n : Int) = (n2 : Int) := by omega
  go_enter Try.func18, Try.ntmps18
  go_wp2
  go_ret
  exact ⟨false, rfl, ⟨(fun e => by cases e), fun e => absurd (by rw [← hsz, ← hsz2, e]) hnn⟩, Below.refl _ _⟩

def cl (n lo hi : Int) : Int := min (max n lo) hi

def I64 (x : Int) : Prop := -9223372036854775808 ≤ x ∧ x ≤ 9223372036854775807

def VR.Rng (r : VR) : Prop := I64 r.i ∧ I64 r.m ∧ I64 r.b

section
open Go.RowKit

section
open Go.ChangeShapes Go.WideShapes Go.ChangeAt
variable {H : Type} {enc : TypeId × Value → H} {P : Program} {w : World}

theorem wf_64 {n : Int} (h : (Lit.int .i64 n).wf = true) : I64 n := by
 unfold I64
 simp [Lit.wf, IntKind.min, IntKind.max, IntKind.bits, IntKind.signed] at h
 omega

theorem vrow_trod {tp ti : TypeId} {g0 g1 g2 : Field} (hs : P.underlying tp = some (.struct #[g0, g1, g2])) (hi : P.underlying ti = some (.int .i64))
  (e0 : g0.type = ti ∧ g0.offset = 0) (e1 : g1.type = ti ∧ g1.offset = 1) (e2 : g2.type = ti ∧ g2.offset = 2) (hC : P.cellsOf tp = 3) (hti : P.cellsOf ti = 1)
  {fuel : Nat} {cs : List Value} {x : DataW H × List MemPlace} (h : DataW.trod enc P w 0 (fun _ => true) true fuel tp cs = some x) : ∃ y, cs = vrowF.cs y ∧ y.Rng := by
 obtain ⟨xs, n, _, _, hlen, hxl, hq⟩ := DataW.trod_struct hs h
 rw [hC] at hlen
 match xs, hxl, cs, hlen with
 | [y0, y1, y2], _, [v0, v1, v2], _ =>
  have k0 := hq 0 g0 rfl
  have k1 := hq 1 g1 rfl
  have k2 := hq 2 g2 rfl
  rw [e0.1, e0.2, hti] at k0
  rw [e1.1, e1.2, hti] at k1
  rw [e2.1, e2.2, hti] at k2
  simp at k0 k1 k2
  obtain ⟨T, i0, -, r0⟩ := DataW.trod_int hi k0
  obtain ⟨M, i1, -, r1⟩ := DataW.trod_int hi k1
  obtain ⟨B, i2, -, r2⟩ := DataW.trod_int hi k2
  simp only [List.cons.injEq, and_true] at i0 i1 i2
  subst i0 i1 i2
  exact ⟨⟨T, M, B⟩, rfl, wf_64 r0, wf_64 r1, wf_64 r2⟩

end

end

section
open Go.RowKit

def PT.Rng (x : PT) : Prop := I64 x.k ∧ I64 x.v.r ∧ I64 x.v.c ∧ I64 x.v.h ∧ I64 x.v.b ∧ I64 x.v.p

section
open Go.ChangeShapes Go.WideShapes Go.ChangeAt
variable {H : Type} {enc : TypeId × Value → H} {P : Program} {w : World}

theorem vec_trod {tp ti : TypeId} {g0 g1 g2 g3 g4 : Field} (hs : P.underlying tp = some (.struct #[g0, g1, g2, g3, g4])) (hi : P.underlying ti = some (.int .i64))
  (e0 : g0.type = ti ∧ g0.offset = 0) (e1 : g1.type = ti ∧ g1.offset = 1) (e2 : g2.type = ti ∧ g2.offset = 2) (e3 : g3.type = ti ∧ g3.offset = 3) (e4 : g4.type = ti ∧ g4.offset = 4) (hC : P.cellsOf tp = 5) (hti : P.cellsOf ti = 1)
  {fuel : Nat} {cs : List Value} {x : DataW H × List MemPlace} (h : DataW.trod enc P w 0 (fun _ => true) true fuel tp cs = some x) : ∃ y : VD, cs = [.int .i64 y.r, .int .i64 y.c, .int .i64 y.h, .int .i64 y.b, .int .i64 y.p] ∧ I64 y.r ∧ I64 y.c ∧ I64 y.h ∧ I64 y.b ∧ I64 y.p := by
 obtain ⟨xs, n, _, _, hlen, hxl, hq⟩ := DataW.trod_struct hs h
 rw [hC] at hlen
 match xs, hxl, cs, hlen with
 | [y0, y1, y2, y3, y4], _, [v0, v1, v2, v3, v4], _ =>
  have k0 := hq 0 g0 rfl
  have k1 := hq 1 g1 rfl
  have k2 := hq 2 g2 rfl
  have k3 := hq 3 g3 rfl
  have k4 := hq 4 g4 rfl
  rw [e0.1, e0.2, hti] at k0
  rw [e1.1, e1.2, hti] at k1
  rw [e2.1, e2.2, hti] at k2
  rw [e3.1, e3.2, hti] at k3
  rw [e4.1, e4.2, hti] at k4
  simp at k0 k1 k2 k3 k4
  obtain ⟨A, i0, -, r0⟩ := DataW.trod_int hi k0
  obtain ⟨B, i1, -, r1⟩ := DataW.trod_int hi k1
  obtain ⟨C, i2, -, r2⟩ := DataW.trod_int hi k2
  obtain ⟨D, i3, -, r3⟩ := DataW.trod_int hi k3
  obtain ⟨E, i4, -, r4⟩ := DataW.trod_int hi k4
  simp only [List.cons.injEq, and_true] at i0 i1 i2 i3 i4
  subst i0 i1 i2 i3 i4
  exact ⟨⟨A, B, C, D, E⟩, rfl, wf_64 r0, wf_64 r1, wf_64 r2, wf_64 r3, wf_64 r4⟩

theorem pt_trod {tp tv ti tb : TypeId} {f0 f1 f2 f3 g0 g1 g2 g3 g4 : Field} (hp : P.underlying tp = some (.struct #[f0, f1, f2, f3])) (hs : P.underlying tv = some (.struct #[g0, g1, g2, g3, g4])) (hi : P.underlying ti = some (.int .i64)) (hb : P.underlying tb = some .bool)
  (e0 : g0.type = ti ∧ g0.offset = 0) (e1 : g1.type = ti ∧ g1.offset = 1) (e2 : g2.type = ti ∧ g2.offset = 2) (e3 : g3.type = ti ∧ g3.offset = 3) (e4 : g4.type = ti ∧ g4.offset = 4)
  (d0 : f0.type = tb ∧ f0.offset = 0) (d1 : f1.type = ti ∧ f1.offset = 1) (d2 : f2.type = tb ∧ f2.offset = 2) (d3 : f3.type = tv ∧ f3.offset = 3)
  (hC : P.cellsOf tp = 8) (hCv : P.cellsOf tv = 5) (hti : P.cellsOf ti = 1) (htb : P.cellsOf tb = 1)
  {fuel : Nat} {cs : List Value} {x : DataW H × List MemPlace} (h : DataW.trod enc P w 0 (fun _ => true) true fuel tp cs = some x) : ∃ y, cs = ptF.cs y ∧ y.Rng := by
 obtain ⟨xs, n, _, _, hlen, hxl, hq⟩ := DataW.trod_struct hp h
 rw [hC] at hlen
 match xs, hxl, cs, hlen with
 | [y0, y1, y2, y3], _, [v0, v1, v2, v3, v4, v5, v6, v7], _ =>
  have k0 := hq 0 f0 rfl
  have k1 := hq 1 f1 rfl
  have k2 := hq 2 f2 rfl
  have k3 := hq 3 f3 rfl
  rw [d0.1, d0.2, htb] at k0
  rw [d1.1, d1.2, hti] at k1
  rw [d2.1, d2.2, htb] at k2
  rw [d3.1, d3.2, hCv] at k3
  simp at k0 k1 k2 k3
  obtain ⟨U, i0, -⟩ := DataW.trod_bool hb k0
  obtain ⟨K, i1, -, r1⟩ := DataW.trod_int hi k1
  obtain ⟨A, i2, -⟩ := DataW.trod_bool hb k2
  obtain ⟨V, i3, s0, s1, s2, s3, s4⟩ := vec_trod hs hi e0 e1 e2 e3 e4 hCv hti k3
  simp only [List.cons.injEq, and_true] at i0 i1 i2 i3
  obtain ⟨j0, j1, j2, j3, j4⟩ := i3
  subst i0 i1 i2 j0 j1 j2 j3 j4
  exact ⟨⟨U, K, A, V⟩, rfl, wf_64 r1, s0, s1, s2, s3, s4⟩

theorem open_pts {ts tp tv ti tb : TypeId} {f0 f1 f2 f3 g0 g1 g2 g3 g4 : Field} (hts : P.underlying ts = some (.slice tp)) (hp : P.underlying tp = some (.struct #[f0, f1, f2, f3])) (hs : P.underlying tv = some (.struct #[g0, g1, g2, g3, g4])) (hi : P.underlying ti = some (.int .i64)) (hb : P.underlying tb = some .bool)
  (e0 : g0.type = ti ∧ g0.offset = 0) (e1 : g1.type = ti ∧ g1.offset = 1) (e2 : g2.type = ti ∧ g2.offset = 2) (e3 : g3.type = ti ∧ g3.offset = 3) (e4 : g4.type = ti ∧ g4.offset = 4)
  (d0 : f0.type = tb ∧ f0.offset = 0) (d1 : f1.type = ti ∧ f1.offset = 1) (d2 : f2.type = tb ∧ f2.offset = 2) (d3 : f3.type = tv ∧ f3.offset = 3)
  (hC : P.cellsOf tp = 8) (hCv : P.cellsOf tv = 5) (hti : P.cellsOf ti = 1) (htb : P.cellsOf tb = 1)
  {fuel : Nat} {v : Value} {x : DataW H × List MemPlace} (h : DataW.trod enc P w 0 (fun _ => true) true fuel ts [v] = some x) :
  ∃ a n c l, v = .slice a n c ∧ GRow ptF w a n c l ∧ ∀ x ∈ l, x.Rng :=
 open_flat ⟨false, 0, false, ⟨0, 0, 0, 0, 0⟩⟩ ptF PT.Rng hts hC (fun h => pt_trod hp hs hi hb e0 e1 e2 e3 e4 d0 d1 d2 d3 hC hCv hti htb h) h
end

end

section
open Go.RowKit

structure BR.Rng (b : BR) : Prop where
 id : I64 b.id
 name : b.name.size ≤ maxLen
 ports : ∀ x ∈ b.ports, x.Rng
 f : ∀ x ∈ b.f, x.Rng
 v : ∀ x ∈ b.v.rows, x.Rng
 ticks : I64 b.ticks
 parse : I64 b.parse
 word : I64 b.word
 drops : I64 b.drops
 vers : I64 b.vers

structure BrTypes (P : Program) (tB ts tpS tp tv tfS tf tV trS tr tiS ti tb : TypeId) (f0 f1 f2 f3 f4 f5 f6 f7 f8 f9 p0 p1 p2 p3 v0 v1 v2 v3 v4 e0 e1 e2 e3 e4 t0 t1 r0 r1 r2 : Field) : Prop where
 uB : P.underlying tB = some (.struct #[f0, f1, f2, f3, f4, f5, f6, f7, f8, f9])
 us : P.underlying ts = some .string
 upS : P.underlying tpS = some (.slice tp)
 up : P.underlying tp = some (.struct #[p0, p1, p2, p3])
 uv : P.underlying tv = some (.struct #[v0, v1, v2, v3, v4])
 ufS : P.underlying tfS = some (.slice tf)
 uf : P.underlying tf = some (.struct #[e0, e1, e2, e3, e4])
 uV : P.underlying tV = some (.struct #[t0, t1])
 urS : P.underlying trS = some (.slice tr)
 ur : P.underlying tr = some (.struct #[r0, r1, r2])
 uiS : P.underlying tiS = some (.slice ti)
 ui : P.underlying ti = some (.int .i64)
 ub : P.underlying tb = some .bool
 f0 : f0.type = ti ∧ f0.offset = 0
 f1 : f1.type = ts ∧ f1.offset = 1
 f2 : f2.type = tpS ∧ f2.offset = 2
 f3 : f3.type = tfS ∧ f3.offset = 3
 f4 : f4.type = tV ∧ f4.offset = 4
 f5 : f5.type = ti ∧ f5.offset = 6
 f6 : f6.type = ti ∧ f6.offset = 7
 f7 : f7.type = ti ∧ f7.offset = 8
 f8 : f8.type = ti ∧ f8.offset = 9
 f9 : f9.type = ti ∧ f9.offset = 10
 p0 : p0.type = tb ∧ p0.offset = 0
 p1 : p1.type = ti ∧ p1.offset = 1
 p2 : p2.type = tb ∧ p2.offset = 2
 p3 : p3.type = tv ∧ p3.offset = 3
 v0 : v0.type = ti ∧ v0.offset = 0
 v1 : v1.type = ti ∧ v1.offset = 1
 v2 : v2.type = ti ∧ v2.offset = 2
 v3 : v3.type = ti ∧ v3.offset = 3
 v4 : v4.type = ti ∧ v4.offset = 4
 e0 : e0.type = ti ∧ e0.offset = 0
 e1 : e1.type = ti ∧ e1.offset = 1
 e2 : e2.type = ti ∧ e2.offset = 2
 e3 : e3.type = ti ∧ e3.offset = 3
 e4 : e4.type = tb ∧ e4.offset = 4
 t0 : t0.type = trS ∧ t0.offset = 0
 t1 : t1.type = tiS ∧ t1.offset = 1
 r0 : r0.type = ti ∧ r0.offset = 0
 r1 : r1.type = ti ∧ r1.offset = 1
 r2 : r2.type = ti ∧ r2.offset = 2
 cB : P.cellsOf tB = 11
 cs : P.cellsOf ts = 1
 cpS : P.cellsOf tpS = 1
 cp : P.cellsOf tp = 8
 cv : P.cellsOf tv = 5
 cfS : P.cellsOf tfS = 1
 cf : P.cellsOf tf = 5
 cV : P.cellsOf tV = 2
 crS : P.cellsOf trS = 1
 cr : P.cellsOf tr = 3
 ciS : P.cellsOf tiS = 1
 ci : P.cellsOf ti = 1
 cb : P.cellsOf tb = 1

section
open Go.ChangeShapes Go.WideShapes Go.ChangeAt
variable {H : Type} {enc : TypeId × Value → H} {P : Program} {w : World}

theorem vtab_trod {tp ts tb tis ti : TypeId} {f0 f1 g0 g1 g2 : Field} (hs : P.underlying tp = some (.struct #[f0, f1])) (hC : P.cellsOf tp = 2) (ef0 : f0.type = ts ∧ f0.offset = 0) (ef1 : f1.type = tis ∧ f1.offset = 1) (cts : P.cellsOf ts = 1) (ctis : P.cellsOf tis = 1)
  (hts : P.underlying ts = some (.slice tb)) (htis : P.underlying tis = some (.slice ti)) (htb : P.underlying tb = some (.struct #[g0, g1, g2])) (hi : P.underlying ti = some (.int .i64))
  (e0 : g0.type = ti ∧ g0.offset = 0) (e1 : g1.type = ti ∧ g1.offset = 1) (e2 : g2.type = ti ∧ g2.offset = 2) (hCb : P.cellsOf tb = 3) (hti : P.cellsOf ti = 1)
  {fuel : Nat} {cs : List Value} {x : DataW H × List MemPlace} (h : DataW.trod enc P w 0 (fun _ => true) true fuel tp cs = some x) :
  ∃ a n c o p q t, cs = [.slice a n c, .slice o p q] ∧ VTab w a n c o p q t ∧ ∀ x ∈ t.rows, x.Rng := by
 obtain ⟨xs, n, _, _, hlen, hxl, hq⟩ := DataW.trod_struct hs h
 rw [hC] at hlen
 match xs, hxl, cs, hlen with
 | [y0, y1], _, [v0, v1], _ =>
  have k0 := hq 0 f0 rfl
  have k1 := hq 1 f1 rfl
  rw [ef0.1, ef0.2, cts] at k0
  rw [ef1.1, ef1.2, ctis] at k1
  simp at k0 k1
  obtain ⟨a, n, c, l, rfl, hl, hr⟩ := open_flat ⟨0, 0, 0⟩ vrowF VR.Rng hts hCb (fun h => vrow_trod htb hi e0 e1 e2 hCb hti h) k0
  rcases open_ints htis hi hti k1 with ⟨hcs, _⟩ | ⟨x, l', c', zs, hcs, _, hl', hm, hz, _, hcell, hwz⟩
  ·simp only [List.cons.injEq, and_true] at hcs
   subst hcs
   exact ⟨a, n, c, none, 0, 0, ⟨l, []⟩, rfl, ⟨hl, irow_nil w⟩, hr⟩
  ·simp only [List.cons.injEq, and_true] at hcs
   subst hcs
   exact ⟨a, n, c, some x, l', c', ⟨l, zs.take l'⟩, rfl, ⟨hl, irow_open hl' hm (by simpa using hz) hcell hwz⟩, hr⟩

theorem open_bridge {tB ts tpS tp tv tfS tf tV trS tr tiS ti tb : TypeId} {f0 f1 f2 f3 f4 f5 f6 f7 f8 f9 p0 p1 p2 p3 v0 v1 v2 v3 v4 e0 e1 e2 e3 e4 t0 t1 r0 r1 r2 : Field} (T : BrTypes P tB ts tpS tp tv tfS tf tV trS tr tiS ti tb f0 f1 f2 f3 f4 f5 f6 f7 f8 f9 p0 p1 p2 p3 v0 v1 v2 v3 v4 e0 e1 e2 e3 e4 t0 t1 r0 r1 r2)
  {r : Reach} {b0 : Nat} {v : Value} {d : DataW H} {p : List MemPlace} (hv : Value.okWide P w r b0 tB v) (h : DataW.Trod enc P w 0 (fun _ => true) true tB v d p) :
  ∃ (a : Option Addr) (n c : Nat) (fa : Option Addr) (fn fc : Nat) (ra : Option Addr) (rn rc : Nat) (oa : Option Addr) (on oc : Nat) (B : BR), v = .agg #[.int .i64 B.id, .string B.name, .slice a n c, .slice fa fn fc, .slice ra rn rc, .slice oa on oc, .int .i64 B.ticks, .int .i64 B.parse, .int .i64 B.word, .int .i64 B.drops, .int .i64 B.vers] ∧ BrRow w a n c fa fn fc ra rn rc oa on oc B ∧ B.Rng := by
 obtain ⟨cs, rfl, hsz⟩ := okWide_struct T.uB hv
 obtain ⟨fuel, hf⟩ := h
 obtain ⟨xs, m, _, _, hlen, hxl, hq⟩ := DataW.trod_struct T.uB hf
 rw [T.cB] at hlen
 obtain ⟨cl⟩ := cs
 have hlen : cl.length = 11 := hlen
 have hq : ∀ (i : Nat) (fd : Field), #[f0, f1, f2, f3, f4, f5, f6, f7, f8, f9][i]? = some fd → _ := hq
 match xs, hxl, cl, hlen with
 | [y0, y1, y2, y3, y4, y5, y6, y7, y8, y9], _, [u0, u1, u2, u3, u4, u5, u6, u7, u8, u9, u10], _ =>
  have k0 := hq 0 f0 rfl
  have k1 := hq 1 f1 rfl
  have k2 := hq 2 f2 rfl
  have k3 := hq 3 f3 rfl
  have k4 := hq 4 f4 rfl
  have k5 := hq 5 f5 rfl
  have k6 := hq 6 f6 rfl
  have k7 := hq 7 f7 rfl
  have k8 := hq 8 f8 rfl
  have k9 := hq 9 f9 rfl
  rw [T.f0.1, T.f0.2, T.ci] at k0
  rw [T.f1.1, T.f1.2, T.cs] at k1
  rw [T.f2.1, T.f2.2, T.cpS] at k2
  rw [T.f3.1, T.f3.2, T.cfS] at k3
  rw [T.f4.1, T.f4.2, T.cV] at k4
  rw [T.f5.1, T.f5.2, T.ci] at k5
  rw [T.f6.1, T.f6.2, T.ci] at k6
  rw [T.f7.1, T.f7.2, T.ci] at k7
  rw [T.f8.1, T.f8.2, T.ci] at k8
  rw [T.f9.1, T.f9.2, T.ci] at k9
  simp [Value.cells] at k0 k1 k2 k3 k4 k5 k6 k7 k8 k9
  obtain ⟨Id, i0, -, r0⟩ := DataW.trod_int T.ui k0
  obtain ⟨Nm, i1, -, r1⟩ := DataW.trod_string T.us k1
  obtain ⟨a, n, c, lp, rfl, hp, rp⟩ := open_pts T.upS T.up T.uv T.ui T.ub T.v0 T.v1 T.v2 T.v3 T.v4 T.p0 T.p1 T.p2 T.p3 T.cp T.cv T.ci T.cb k2
  obtain ⟨fa, fn, fc, lf, rfl, hf', rf⟩ := open_flat ⟨0, 0, 0, 0, false⟩ fentF FE.Rng T.ufS T.cf (fun h => fent_trod T.uf T.ui T.ub T.e0 T.e1 T.e2 T.e3 T.e4 T.cf T.ci T.cb h) k3
  obtain ⟨ra, rn, rc, oa, on, oc, vt, i4, hvt, rv⟩ := vtab_trod T.uV T.cV T.t0 T.t1 T.crS T.ciS T.urS T.uiS T.ur T.ui T.r0 T.r1 T.r2 T.cr T.ci k4
  obtain ⟨Ti, i5, -, r5⟩ := DataW.trod_int T.ui k5
  obtain ⟨Pa, i6, -, r6⟩ := DataW.trod_int T.ui k6
  obtain ⟨Wo, i7, -, r7⟩ := DataW.trod_int T.ui k7
  obtain ⟨Dr, i8, -, r8⟩ := DataW.trod_int T.ui k8
  obtain ⟨Ve, i9, -, r9⟩ := DataW.trod_int T.ui k9
  simp only [List.cons.injEq, and_true] at i0 i1 i4 i5 i6 i7 i8 i9
  obtain ⟨j0, j1⟩ := i4
  subst i0 i1 j0 j1 i5 i6 i7 i8 i9
  exact ⟨a, n, c, fa, fn, fc, ra, rn, rc, oa, on, oc, ⟨Id, Nm, lp, lf, vt, Ti, Pa, Wo, Dr, Ve⟩, rfl, ⟨hp, hf', hvt⟩, wf_64 r0, r1, rp, rf, rv, wf_64 r5, wf_64 r6, wf_64 r7, wf_64 r8, wf_64 r9⟩
end

end

end Go.Proofs.Ytfefhilolhdonab
