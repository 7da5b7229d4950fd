/-
  A message that is drawn: its word and its request.
-/
import Derived.Test.YtamglfhnhjgdjaaGreatDoorDrawPdu5
import Derived.Test.YtamglfhnhjgdjaaGreatDoorQI
import Derived.Test.YtamglfhnhjgdjaaGreatDoorQD
import Derived.Test.YtamglfhnhjgdjaaGreatDoorQL
namespace Go.Proofs.YtamglfhnhjgdjaaGreatDoor
open Go.RowKit

set_option maxRecDepth 100000 in
set_option maxHeartbeats 1000000 in
theorem drawPutMsg_any (a0 : Option Addr) (l0 c0 : Nat) (z0 : List Int) (w : World) (h0 : Row w a0 l0 c0 z0) (hs : l0 ≤ 1048576) :
    Calls Tryz.prog 6 #[.slice a0 l0 c0] w fun e w' => ∃ (S : ByteArray) (k id a b : Int) (ys : List BI) (lo : Option Addr) (cap : Nat), e = .returned (.tuple #[.string S, .agg #[.int .i64 k, .int .i64 id, .int .i64 a, .int .i64 b, .slice lo ys.length cap]]) ∧ S.size ≤ 30 ∧ BRow w' lo ys.length cap ys ∧ Below w.heap.size w w' := by
  have q0 := below_one w (.cells #[.int .i64 0, .int .i64 0, .int .i64 0, .int .i64 0, .slice none 0 0] 26)
  have hk0 := block_last w (.cells #[.int .i64 0, .int .i64 0, .int .i64 0, .int .i64 0, .slice none 0 0] 26)
  have hsz : (w.alloc (.cells #[.int .i64 0, .int .i64 0, .int .i64 0, .int .i64 0, .slice none 0 0] 26)).heap.size = w.heap.size + 1 := by simp
  go_enter Tryz.func6, Tryz.ntmps6
  go_wp2_with fail
  refine (new_any a0 l0 c0 z0 _ (h0.below q0) hs).mono ?_
  rintro e w1 ⟨rfl, cur1, hb1⟩
  have kz := kept_block hk0 hb1
  have q1 : Below w.heap.size w w1 := gr_trans q0 hb1
  rw [hsz] at cur1 ⊢
  have hlt := cur1.lt
  clear hb1 hk0 q0 hsz
  go_wp2_with fail
  refine (pickS_any (w.heap.size + 1) a0 l0 c0 z0 _ _ _ w1 cur1 rfl ?h1a ?h2a ?h3a ?h4a).mono ?_
  case h1a => rfl
  case h2a => kernel_rfl
  case h3a => decide
  case h4a => decide
  rintro e w2 ⟨S, hS, rfl, went2⟩
  have kz := kept_grown kz went2.grown (fun k hk => by cases hk; omega)
  have q2 : Below w.heap.size w w2 := q1.trans (below_of_grown went2.grown (by omega) (by omega))
  have hs2 := went2.grown.size
  clear q1
  go_wp2_with fail
  refine (l4Any_any _ a0 l0 c0 z0 _ went2.cur).mono ?_
  rintro e w3 ⟨k, id, a, b, ys, lo, cap, rfl, hys, hbo, went3⟩
  have kz := kept_grown kz went3.grown (fun k hk => by cases hk; omega)
  have q3 : Below w.heap.size w w3 := q2.trans (below_of_grown went3.grown (by omega) (by omega))
  obtain ⟨⟨x0, x1, x2, x3, x4⟩, f0, f1, f2, f3, f4⟩ := cells5 kz
  have HBO := hide hbo
  have HQ := hide q3
  clear kz went2 went3 q2 q3 hbo
  go_wp2
  refine bodyPost_ret (v := .tuple #[.string S, .agg #[.int .i64 k, .int .i64 id, .int .i64 a, .int .i64 b, .slice lo ys.length cap]]) (by simp [results, Tryz.results6, go_sem, *]) rfl ⟨S, k, id, a, b, ys, lo, cap, rfl, hS, ?_, ?_⟩
  · refine BOwns.brow (base := w2.heap.size) ?_
    repeat (refine BOwns.set_below ?_ (by omega))
    exact HBO.out
  · repeat (refine below_set ?_ (Nat.le_refl _) _ _)
    exact HQ.out

theorem at_law (a0 : Option Addr) (l0 c0 : Nat) (z0 : List Int) (w : World) (h0 : Row w a0 l0 c0 z0) (hs : l0 ≤ 1048576) :
    Calls Tryz.prog 11 #[.slice a0 l0 c0, .int .i64 2] w fun e w' => ∃ x : Int, 0 ≤ x ∧ x ≤ 255 ∧ e = .returned (.int .i64 x) ∧ w' = w := by
  by_cases h2 : 2 < l0
  · obtain ⟨b, off, rfl, hc⟩ := h0.at (by omega)
    have c2 := hc 2 h2
    have hb := getD_byte h0.byte 2
    have hi : (2 : Int) < (l0 : Int) := by omega
    generalize z0.getD 2 0 = y at *
    have hw := wrap_small y hb
    clear hc
    go_enter Tryz.func11, Tryz.ntmps11
    go_wp2
    go_ret
    exact ⟨y, hb.1, hb.2, rfl, rfl⟩
  · have hi : ¬ (2 : Int) < (l0 : Int) := by omega
    go_enter Tryz.func11, Tryz.ntmps11
    go_wp2
    go_ret
    exact ⟨_, by omega, by omega, rfl, rfl⟩

end Go.Proofs.YtamglfhnhjgdjaaGreatDoor
