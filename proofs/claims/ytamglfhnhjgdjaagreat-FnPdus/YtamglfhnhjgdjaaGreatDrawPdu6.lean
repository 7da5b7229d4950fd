/-
  Binds, drawn twice.
-/
import Derived.Test.YtamglfhnhjgdjaaGreatDrawPdu5
import Derived.Deep.RegionHeld3
namespace Go.Proofs.YtamglfhnhjgdjaaGreat
open Go.RowKit

set_option maxRecDepth 100000 in
set_option maxHeartbeats 2000000 in
theorem drawSameBinds_any (a0 : Option Addr) (l0 c0 : Nat) (z0 : List Int) (w : World) (h0 : Row w a0 l0 c0 z0) (hs : l0 ≤ 1048576) :
    Calls Tryz.prog 13 #[.slice a0 l0 c0] w fun e w' => DrawnBB w w' e := by
  go_enter Tryz.func13, Tryz.ntmps13
  go_wp2_with fail
  refine (new_any a0 l0 c0 z0 _ h0 hs).mono ?_
  rintro e w1 ⟨rfl, cur1, hb1⟩
  have hlt := cur1.lt
  go_wp2_with fail
  refine (l4Any_any _ a0 l0 c0 z0 _ cur1).mono ?_
  rintro e w2 ⟨k, id, a, b, ys, lo, cap, rfl, hys, hbo, went2⟩
  have m2 := went2.grown.size
  have q1 := below_one w2 (.cells #[.int .i64 k, .int .i64 id, .int .i64 a, .int .i64 b, .slice lo ys.length cap] 26)
  have kb := block_last w2 (.cells #[.int .i64 k, .int .i64 id, .int .i64 a, .int .i64 b, .slice lo ys.length cap] 26)
  have wn2 := went2.made q1
  have bo2 := hbo.below q1
  have m2' : w2.heap.size + 1 ≤ (w2.alloc (.cells #[.int .i64 k, .int .i64 id, .int .i64 a, .int .i64 b, .slice lo ys.length cap] 26)).heap.size := by simp
  have hfar : ∀ j ∈ allB lo ys, j < w2.heap.size := fun j hj => (hbo.blk j hj).2
  have HF := hide hfar
  clear went2 hbo q1 hfar
  go_wp2_with fail
  generalize w2.alloc (.cells #[.int .i64 k, .int .i64 id, .int .i64 a, .int .i64 b, .slice lo ys.length cap] 26) = w2' at *
  refine (once_any _ a0 l0 c0 z0 2 _ wn2.cur (by omega)).mono ?_
  rintro e w3 ⟨x, rfl, went3⟩
  have kb := kept_grown kb went3.grown (fun k hk => by cases hk; omega)
  have bo3 : BOwns w3 w1.heap.size lo ys.length cap ys := bo2.only (Only.of_grown (ao := some ⟨w.heap.size, 0, none⟩) (n := 0) (c := 0) went3.grown) (fun j hj hc => by have := (bo2.blk j hj).1; simp [blkL] at hc; omega)
  have wn3 := wn2.trans went3
  have q3 : Below w.heap.size w w3 := hb1.trans (below_of_grown wn3.grown (Nat.le_refl _) (by omega))
  have m3 : w2.heap.size + 1 ≤ w3.heap.size := Nat.le_trans m2' went3.grown.size
  clear went3 wn2 bo2 m2'
  obtain ⟨⟨x0, x1, x2, x3, x4⟩, -⟩ := cells5 kb
  have HB := hide bo3
  have HQ := hide q3
  clear q3 bo3
  cases x
  · have hfld : ∀ (k i a b : Int) (l : Option Addr) (n c : Nat) (W : World), (Instr.field 26 (.agg #[.int .i64 k, .int .i64 i, .int .i64 a, .int .i64 b, .slice l n c]) 4).run Tryz.prog W = .ok (.slice l n c) W := fun _ _ _ _ _ _ _ _ => by kernel_rfl
    go_wp2_with fail
    go_region_with (go_at_call 18; refine (l4Any_any _ a0 l0 c0 z0 _ (wn3.cur.below (below_drewN (Below.refl _ _) _))).mono ?_; rintro e w4 ⟨k4, id4, a4, b4, ys4, lo4, cap4, rfl, hys4, hbo4, went4⟩; have g4 : w3.grownBy w4 (some w.heap.size) := ⟨went4.grown.os, went4.grown.tape, went4.grown.output, went4.grown.size, went4.grown.block⟩; have hS4 := (cells5 (kept_grown kb g4 (fun k hk => by cases hk; omega))).1.2.2.2.2)
    all_goals
     have HB4 := hide hbo4
     have b4 : BOwns w4 w1.heap.size lo ys.length cap ys := HB.out.only (Only.of_grown (ao := some ⟨w.heap.size, 0, none⟩) (n := 0) (c := 0) g4) (fun j hj hc => by have := (HB.out.blk j hj).1; simp [blkL] at hc; omega)
     have HB5 := hide b4
     have q4 := HQ.out.trans (below_of_grown g4 (Nat.le_refl _) (by have := HQ.out.size; omega))
     clear hbo4 b4 g4 went4 wn3 kb x0 x1 x2 x3 x4
     go_wp2
     exact bodyPost_ret (v := .tuple #[.slice lo ys.length cap, .slice lo4 ys4.length cap4]) (by simp [results, Tryz.results13, go_sem, *]) rfl ⟨_, _, _, ys, _, _, _, ys4, rfl, HB5.out.brow, HB4.out.brow, q4⟩
  · go_wp2_with fail
    have q4 : Below w3.heap.size w3 ((w3.alloc (.cells #[] 57)).drew) := Below.drew (below_one w3 (.cells #[] 57))
    have OWN : ((w3.alloc (.cells #[] 57)).drew).ownsRow w3.heap.size 57 5 (.slice (some ⟨w3.heap.size, 0, none⟩) 0 0) 0 (cBs []) := own5_below (World.ownsRow_lit w3 #[] 0 (Nat.le_refl _) (Nat.zero_le _) rfl) (Below.drew (Below.refl _ _))
    have B4 := HB.out.below q4
    have kb4 := kept_block kb q4
    have hS4 := (cells5 kb4).1.2.2.2.2
    have HQ4 := hide (HQ.out.trans (q4.mono HQ.out.size))
    have m4 : ((w3.alloc (.cells #[] 57)).drew).heap.size = w3.heap.size + 1 := by simp
    have HM := hide m4
    clear m4 q4
    go_region_held_law (fun W => W.cell? ⟨w2.heap.size, 4, none⟩ = some (.slice lo ys.length cap)) (first | assumption | go_keep) ((refine step_copy_binds rfl _ _ 24 rfl w3.heap.size Tryz.underlying24 Tryz.infoBind' w3.heap.size rfl OWN lo cap ys rfl w1.heap.size B4 (fun j hj => by have := HF.out j hj; omega) (by omega) (by rw [HM.out]; omega) ?_; intro lo5 cap5 w5 r5 b5 g5; have hS5 := (cells5 (kept_grown kb4 g5 (fun k hk => by cases hk; omega))).1.2.2.2.2))
    all_goals
      have q5 := HQ4.out.trans (below_of_grown g5 (by omega) (by rw [HM.out]; omega))
      have HB5 := hide b5.brow
      have HR5 := hide r5
      clear r5 b5 g5 OWN B4 kb kb4 hS4 hS5 x0 x1 x2 x3 x4
      go_wp2
      exact bodyPost_ret (v := .tuple #[.slice lo ys.length cap, .slice lo5 ys.length cap5]) (by simp [results, Tryz.results13, go_sem, *]) rfl ⟨_, _, _, ys, _, _, _, ys, rfl, HB5.out, HR5.out, q5⟩

end Go.Proofs.YtamglfhnhjgdjaaGreat
