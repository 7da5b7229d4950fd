/-
  Vectors that the laws draw: one, one's bytes, two, one and a cost.
-/
import Derived.Test.YtanonfdgckanhaaDrawVec
import Derived.Test.YtanonfdgckanhaaVecSpecPut
import Derived.Test.YtanonfdgckanhaaDrawc
import Derived.Deep.RegionWith
namespace Go.Proofs.Ytanonfdgckanhaa
open Go.RowKit

set_option maxRecDepth 100000 in
set_option maxHeartbeats 1000000 in
theorem drawPutVec_any (a0 : Option Addr) (l0 c0 : Nat) (z0 : List Int) (w : World) (h0 : Row w a0 l0 c0 z0) (hs : l0 ≤ 1048576) :
    Calls Try.prog 21 #[.slice a0 l0 c0] w fun e w' => ∃ (R K H B P : Int), e = .returned (.agg #[.int .i64 R, .int .i64 K, .int .i64 H, .int .i64 B, .int .i64 P]) ∧ Below w.heap.size w w' := by
  go_enter Try.func21, Try.ntmps21
  go_wp2_with fail
  refine (new_any a0 l0 c0 z0 _ (h0.below (below_one w (.cells #[.int .i64 0, .int .i64 0, .int .i64 0, .int .i64 0, .int .i64 0] 38))) hs).mono ?_
  rintro e w1 ⟨rfl, cur1, hb1⟩
  have kz := kept_block (block_last w (.cells #[.int .i64 0, .int .i64 0, .int .i64 0, .int .i64 0, .int .i64 0] 38)) hb1
  have q1 : Below w.heap.size w w1 := gr_trans (below_one w (.cells #[.int .i64 0, .int .i64 0, .int .i64 0, .int .i64 0, .int .i64 0] 38)) hb1
  have hlt := cur1.lt
  rw [show (w.alloc (.cells #[.int .i64 0, .int .i64 0, .int .i64 0, .int .i64 0, .int .i64 0] 38)).heap.size = w.heap.size + 1 by simp] at cur1 hlt ⊢
  clear hb1
  go_wp2_with fail
  refine (l7Any_any _ a0 l0 c0 z0 _ cur1).mono ?_
  rintro e w3 ⟨R, K, H, B, P, rfl, went3⟩
  have kz := kept_grown kz went3.grown (fun k hk => by cases hk; omega)
  have q3 : Below w.heap.size w w3 := q1.trans (below_of_grown went3.grown (by omega) (Nat.le_of_lt hlt))
  obtain ⟨⟨x0, x1, x2, x3, x4⟩, f0, f1, f2, f3, f4⟩ := cells5 kz
  clear kz went3 q1 cur1
  go_wp2
  exact bodyPost_ret (v := .agg #[.int .i64 R, .int .i64 K, .int .i64 H, .int .i64 B, .int .i64 P]) (by simp [results, Try.results21, go_sem, *]) rfl ⟨R, K, H, B, P, rfl, below_set5 q3 (Nat.le_refl _) _ _ _ _ _⟩

set_option maxRecDepth 100000 in
set_option maxHeartbeats 1000000 in
theorem drawStepVec_any (a0 : Option Addr) (l0 c0 : Nat) (z0 : List Int) (w : World) (h0 : Row w a0 l0 c0 z0) (hs : l0 ≤ 1048576) :
    Calls Try.prog 29 #[.slice a0 l0 c0] w fun e w' => ∃ (R K H B P k : Int), e = .returned (.tuple #[.agg #[.int .i64 R, .int .i64 K, .int .i64 H, .int .i64 B, .int .i64 P], .int .i64 k]) ∧ Below w.heap.size w w' := by
  go_enter Try.func29, Try.ntmps29
  go_wp2_with fail
  refine (new_any a0 l0 c0 z0 _ (h0.below (below_one w (.cells #[.int .i64 0, .int .i64 0, .int .i64 0, .int .i64 0, .int .i64 0] 38))) hs).mono ?_
  rintro e w1 ⟨rfl, cur1, hb1⟩
  have kz := kept_block (block_last w (.cells #[.int .i64 0, .int .i64 0, .int .i64 0, .int .i64 0, .int .i64 0] 38)) hb1
  have q1 : Below w.heap.size w w1 := gr_trans (below_one w (.cells #[.int .i64 0, .int .i64 0, .int .i64 0, .int .i64 0, .int .i64 0] 38)) hb1
  have hlt := cur1.lt
  rw [show (w.alloc (.cells #[.int .i64 0, .int .i64 0, .int .i64 0, .int .i64 0, .int .i64 0] 38)).heap.size = w.heap.size + 1 by simp] at cur1 hlt ⊢
  clear hb1
  go_wp2_with fail
  refine (l7Any_any _ a0 l0 c0 z0 _ cur1).mono ?_
  rintro e w3 ⟨R, K, H, B, P, rfl, went3⟩
  have kz := kept_grown kz went3.grown (fun k hk => by cases hk; omega)
  clear cur1
  go_wp2_with fail
  refine (pick_any _ a0 l0 c0 z0 [1, 2, 10, 1000, 0, 1001] _ _ w3 went3.cur rfl rfl (by simp) (by simp)).mono ?_
  rintro e w4 ⟨k, -, rfl, went4⟩
  have kz := kept_grown kz went4.grown (fun k hk => by cases hk; omega)
  have q4 : Below w.heap.size w w4 := q1.trans (below_of_grown (went3.trans went4).grown (by omega) (Nat.le_of_lt hlt))
  obtain ⟨⟨x0, x1, x2, x3, x4⟩, f0, f1, f2, f3, f4⟩ := cells5 kz
  clear kz went3 went4 q1
  go_wp2
  exact bodyPost_ret (v := .tuple #[.agg #[.int .i64 R, .int .i64 K, .int .i64 H, .int .i64 B, .int .i64 P], .int .i64 k]) (by simp [results, Try.results29, go_sem, *]) rfl ⟨R, K, H, B, P, k, rfl, below_set5 q4 (Nat.le_refl _) _ _ _ _ _⟩

set_option maxRecDepth 100000 in
set_option maxHeartbeats 2000000 in
theorem drawLessVec_any (a0 : Option Addr) (l0 c0 : Nat) (z0 : List Int) (w : World) (h0 : Row w a0 l0 c0 z0) (hs : l0 ≤ 1048576) :
    Calls Try.prog 28 #[.slice a0 l0 c0] w fun e w' => ∃ (R K H B P R' K' H' B' P' : Int), e = .returned (.tuple #[.agg #[.int .i64 R, .int .i64 K, .int .i64 H, .int .i64 B, .int .i64 P], .agg #[.int .i64 R', .int .i64 K', .int .i64 H', .int .i64 B', .int .i64 P']]) ∧ Below w.heap.size w w' := by
  go_enter Try.func28, Try.ntmps28
  go_wp2_with fail
  refine (new_any a0 l0 c0 z0 _ (h0.below (below_two w (.cells #[.int .i64 0, .int .i64 0, .int .i64 0, .int .i64 0, .int .i64 0] 38) (.cells #[.int .i64 0, .int .i64 0, .int .i64 0, .int .i64 0, .int .i64 0] 38))) hs).mono ?_
  rintro e w1 ⟨rfl, cur1, hb1⟩
  obtain ⟨kz, ky⟩ := kept_two hb1
  have q1 : Below w.heap.size w w1 := gr_trans (below_two w (.cells #[.int .i64 0, .int .i64 0, .int .i64 0, .int .i64 0, .int .i64 0] 38) (.cells #[.int .i64 0, .int .i64 0, .int .i64 0, .int .i64 0, .int .i64 0] 38)) hb1
  have hlt := cur1.lt
  rw [show ((w.alloc (.cells #[.int .i64 0, .int .i64 0, .int .i64 0, .int .i64 0, .int .i64 0] 38)).alloc (.cells #[.int .i64 0, .int .i64 0, .int .i64 0, .int .i64 0, .int .i64 0] 38)).heap.size = w.heap.size + 1 + 1 by simp] at cur1 hlt ⊢
  clear hb1
  go_wp2_with fail
  refine (l7Any_any _ a0 l0 c0 z0 _ cur1).mono ?_
  rintro e w2 ⟨R, K, H, B, P, rfl, went2⟩
  have m2 := went2.grown.size
  have wn2 := went2.made (below_one w2 (.cells #[.int .i64 R, .int .i64 K, .int .i64 H, .int .i64 B, .int .i64 P] 38))
  have kz := kept_block (kept_grown kz went2.grown (fun k hk => by cases hk; omega)) (below_one w2 (.cells #[.int .i64 R, .int .i64 K, .int .i64 H, .int .i64 B, .int .i64 P] 38))
  have ky := kept_block (kept_grown ky went2.grown (fun k hk => by cases hk; omega)) (below_one w2 (.cells #[.int .i64 R, .int .i64 K, .int .i64 H, .int .i64 B, .int .i64 P] 38))
  have kv := block_last w2 (.cells #[.int .i64 R, .int .i64 K, .int .i64 H, .int .i64 B, .int .i64 P] 38)
  have m2' : w2.heap.size + 1 ≤ (w2.alloc (.cells #[.int .i64 R, .int .i64 K, .int .i64 H, .int .i64 B, .int .i64 P] 38)).heap.size := by simp
  clear went2 cur1
  go_wp2_with fail
  generalize w2.alloc (.cells #[.int .i64 R, .int .i64 K, .int .i64 H, .int .i64 B, .int .i64 P] 38) = w2' at *
  refine (once_any _ a0 l0 c0 z0 4 _ wn2.cur (by omega)).mono ?_
  rintro e w3 ⟨x, rfl, went3⟩
  have ky := kept_grown ky went3.grown (fun k hk => by cases hk; omega)
  have kz := kept_grown kz went3.grown (fun k hk => by cases hk; omega)
  have kv := kept_grown kv went3.grown (fun k hk => by cases hk; omega)
  have wn3 := wn2.trans went3
  have m3 : w2.heap.size + 1 ≤ w3.heap.size := Nat.le_trans m2' went3.grown.size
  clear went3 wn2 m2'
  have ne1 : ¬ w2.heap.size = w.heap.size := by omega
  have ne2 : ¬ w.heap.size = w2.heap.size := by omega
  have ne3 : ¬ w2.heap.size = w.heap.size + 1 := by omega
  have ne4 : ¬ w.heap.size + 1 = w2.heap.size := by omega
  cases x
  · obtain ⟨⟨x0, x1, x2, x3, x4⟩, -⟩ := cells5 kv
    have KV := hide kv
    have KY := hide ky
    have KZ := hide kz
    clear kv ky kz
    go_wp2_with fail
    go_region_with (go_at_call 59; refine (l7Any_any _ a0 l0 c0 z0 _ (wn3.cur.below (Below.drew (Below.refl _ _)))).mono ?_; rintro e w4 ⟨R', K', H', B', P', rfl, went4⟩; obtain ⟨⟨v0, v1, v2, v3, v4⟩, -⟩ := cells5 (kept_grown (w := w3.drew) KV.out went4.grown (fun k hk => by cases hk; omega)); obtain ⟨⟨y0, y1, y2, y3, y4⟩, f0, f1, f2, f3, f4⟩ := cells5 (kept_grown (w := w3.drew) KY.out went4.grown (fun k hk => by cases hk; omega)); obtain ⟨⟨u0, u1, u2, u3, u4⟩, g0, g1, g2, g3, g4⟩ := cells5 (kept_grown (w := w3.drew) KZ.out went4.grown (fun k hk => by cases hk; omega)))
    all_goals
      have q4 : Below w.heap.size w w4 := (q1.trans (below_of_grown wn3.grown (by omega) (Nat.le_of_lt hlt))).trans ((Below.drew (Below.refl _ _)).trans (below_of_grown went4.grown (by omega) (by show _ ≤ w3.heap.size; omega)))
      clear went4 wn3 KV KY KZ
      go_wp2
      exact bodyPost_ret (v := .tuple #[.agg #[.int .i64 R, .int .i64 K, .int .i64 H, .int .i64 B, .int .i64 P], .agg #[.int .i64 R', .int .i64 K', .int .i64 H', .int .i64 B', .int .i64 P']]) (by simp [results, Try.results28, go_sem, *]) rfl ⟨R, K, H, B, P, R', K', H', B', P', rfl, below_set5 (below_set5 q4 (Nat.le_refl _) _ _ _ _ _) (by omega) _ _ _ _ _⟩
  · obtain ⟨⟨x0, x1, x2, x3, x4⟩, -⟩ := cells5 kv
    obtain ⟨⟨y0, y1, y2, y3, y4⟩, f0, f1, f2, f3, f4⟩ := cells5 ky
    obtain ⟨⟨u0, u1, u2, u3, u4⟩, g0, g1, g2, g3, g4⟩ := cells5 kz
    have q3 : Below w.heap.size w w3 := q1.trans (below_of_grown wn3.grown (by omega) (Nat.le_of_lt hlt))
    clear ky kz kv
    go_wp2_with fail
    go_region
    go_wp2
    exact bodyPost_ret (v := .tuple #[.agg #[.int .i64 R, .int .i64 K, .int .i64 H, .int .i64 B, .int .i64 P], .agg #[.int .i64 R, .int .i64 K, .int .i64 H, .int .i64 B, .int .i64 P]]) (by simp [results, Try.results28, go_sem, *]) rfl ⟨R, K, H, B, P, R, K, H, B, P, rfl, Below.drew (below_set5 (below_set5 q3 (Nat.le_refl _) _ _ _ _ _) (by omega) _ _ _ _ _)⟩

set_option maxRecDepth 100000 in
set_option maxHeartbeats 1000000 in
theorem drawGetVec_any (a0 : Option Addr) (l0 c0 : Nat) (z0 : List Int) (w : World) (h0 : Row w a0 l0 c0 z0) (hs : l0 ≤ 1048576) :
    Calls Try.prog 23 #[.slice a0 l0 c0] w fun e w' => ∃ ao1 n1 cp1 zs1, e = .returned (.slice ao1 n1 cp1) ∧ n1 ≤ 2001 ∧ Row w' ao1 n1 cp1 zs1 ∧ Below w.heap.size w w' := by
  go_enter Try.func23, Try.ntmps23
  go_wp2_with fail
  refine (new_any a0 l0 c0 z0 _ h0 hs).mono ?_
  rintro e w1 ⟨rfl, cur1, hb1⟩
  have hlt := cur1.lt
  go_wp2_with fail
  refine (l7Draw_any _ a0 l0 c0 z0 _ cur1).mono ?_
  rintro e w2 ⟨R, K, H, B, P, rfl, wn2⟩
  have m2 := wn2.grown.size
  have hpl := putVc_len R K H B P
  have hpb := putVc_byte R K H B P
  generalize hP : putVc R K H B P = Q at hpl hpb
  have HP := hide hP
  clear hP
  go_wp2_with fail
  refine (specPutVec_made R K H B P Q HP.out _).mono ?_
  rintro e w3 ⟨ao3, cp3, rfl, ho3, -, hb3⟩
  have wn3 := wn2.made hb3
  have m3 := hb3.size
  clear wn2 hb3
  go_wp2_with fail
  refine (bend_any _ a0 l0 c0 z0 w2.heap.size _ _ _ Q _ wn3.cur (by omega) m3 ho3 hpb (by omega)).mono ?_
  rintro e w4 ⟨ao4, n4, cp4, zs4, rfl, hn4, hby4, hz4, ho4, cur4, low4⟩
  have q3 := hb1.trans (below_of_grown wn3.grown (Nat.le_refl _) (Nat.le_of_lt hlt))
  have q4 := q3.trans low4
  go_wp2
  go_ret
  exact ⟨ao4, n4, cp4, zs4, rfl, hn4, row_own ho4 hby4, q4⟩

end Go.Proofs.Ytanonfdgckanhaa
