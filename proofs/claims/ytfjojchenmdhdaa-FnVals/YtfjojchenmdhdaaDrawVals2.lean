/-
  Two values that are drawn.
-/
import Derived.Test.YtfjojchenmdhdaaDrawVal2
import Derived.Deep.RegionHeld3
namespace Go.Proofs.Ytfjojchenmdhdaa
open Go.RowKit

def DrawnVV (w w' : World) (e : Ending) : Prop :=
  ∃ (K N : Int) (S : ByteArray) (ao : Option Addr) (n cap : Nat) (zs : List Int) (K' N' : Int) (S' : ByteArray) (ao' : Option Addr) (n' cap' : Nat) (zs' : List Int), e = .returned (.tuple #[.agg #[.int .i64 K, .int .i64 N, .string S, .slice ao n cap], .agg #[.int .i64 K', .int .i64 N', .string S', .slice ao' n' cap']]) ∧ IRow w' ao n cap zs ∧ IRow w' ao' n' cap' zs' ∧ Below w.heap.size w w'

set_option maxRecDepth 100000 in
set_option maxHeartbeats 1000000 in
theorem drawSameVal_any (a0 : Option Addr) (l0 c0 : Nat) (z0 : List Int) (w : World) (h0 : Row w a0 l0 c0 z0) (hs : l0 ≤ 1048576) :
    Calls Try.prog 17 #[.slice a0 l0 c0] w fun e w' => DrawnVV w w' e := by
  go_enter Try.func17, Try.ntmps17
  go_wp2_with fail
  refine (new_any a0 l0 c0 z0 _ (h0.below (below_two w (.cells #[.int .i64 0, .int .i64 0, .string ⟨#[]⟩, .slice none 0 0] 26) (.cells #[.int .i64 0, .int .i64 0, .string ⟨#[]⟩, .slice none 0 0] 26))) hs).mono ?_
  rintro e w1 ⟨rfl, cur1, hb1⟩
  obtain ⟨ky, kz⟩ := kept_two hb1
  have q1 : Below w.heap.size w w1 := (below_two w (.cells #[.int .i64 0, .int .i64 0, .string ⟨#[]⟩, .slice none 0 0] 26) (.cells #[.int .i64 0, .int .i64 0, .string ⟨#[]⟩, .slice none 0 0] 26)).trans (hb1.mono (below_two w (.cells #[.int .i64 0, .int .i64 0, .string ⟨#[]⟩, .slice none 0 0] 26) (.cells #[.int .i64 0, .int .i64 0, .string ⟨#[]⟩, .slice none 0 0] 26)).size)
  have hlt := cur1.lt
  rw [show ((w.alloc (.cells #[.int .i64 0, .int .i64 0, .string ⟨#[]⟩, .slice none 0 0] 26)).alloc (.cells #[.int .i64 0, .int .i64 0, .string ⟨#[]⟩, .slice none 0 0] 26)).heap.size = w.heap.size + 1 + 1 by simp] at cur1 hlt ⊢
  clear hb1
  go_wp2_with fail
  refine (l3Any_any _ a0 l0 c0 z0 _ cur1).mono ?_
  rintro e w2 ⟨K, N, S, ao, n, cap, zs, rfl, hS, hn, hz, hi, how2, went2⟩
  have m2 := went2.grown.size
  have b2 := how2.lt
  have ky := kept_block (kept_grown ky went2.grown (fun k hk => by cases hk; omega)) (below_one w2 (.cells #[.int .i64 K, .int .i64 N, .string S, .slice ao n cap] 26))
  have kz := kept_block (kept_grown kz went2.grown (fun k hk => by cases hk; omega)) (below_one w2 (.cells #[.int .i64 K, .int .i64 N, .string S, .slice ao n cap] 26))
  have kv := block_last w2 (.cells #[.int .i64 K, .int .i64 N, .string S, .slice ao n cap] 26)
  have wn2 := went2.made (below_one w2 (.cells #[.int .i64 K, .int .i64 N, .string S, .slice ao n cap] 26))
  have o2 := own_below how2 (below_one w2 (.cells #[.int .i64 K, .int .i64 N, .string S, .slice ao n cap] 26))
  have m2' : w2.heap.size + 1 ≤ (w2.alloc (.cells #[.int .i64 K, .int .i64 N, .string S, .slice ao n cap] 26)).heap.size := by simp
  clear cur1 how2 went2
  go_wp2_with fail
  generalize w2.alloc (.cells #[.int .i64 K, .int .i64 N, .string S, .slice ao n cap] 26) = w2' at *
  refine (once_any _ a0 l0 c0 z0 3 _ wn2.cur (by omega)).mono ?_
  rintro e w3 ⟨x, rfl, went3⟩
  have ky := kept_grown ky went3.grown (fun k hk => by cases hk; omega)
  have kz := kept_grown kz went3.grown (fun k hk => by cases hk; omega)
  have kv := kept_grown kv went3.grown (fun k hk => by cases hk; omega)
  have o3 := went3.ownI o2 hlt
  have wn3 := wn2.trans went3
  have m3 : w2.heap.size + 1 ≤ w3.heap.size := Nat.le_trans m2' went3.grown.size
  clear went3 wn2 o2 m2'
  have ne1 : ¬ w2.heap.size = w.heap.size := by omega
  have ne2 : ¬ w.heap.size = w2.heap.size := by omega
  have ne3 : ¬ w2.heap.size = w.heap.size + 1 := by omega
  have ne4 : ¬ w.heap.size + 1 = w2.heap.size := by omega
  cases x
  · obtain ⟨⟨x0, x1, x2, x3⟩, -⟩ := cells4 kv
    have KV := hide kv
    have KY := hide ky
    have KZ := hide kz
    have HO := hide o3
    clear kv ky kz o3
    go_wp2_with fail
    go_region_with (go_at_call 32; refine (l3Any_any _ a0 l0 c0 z0 _ (wn3.cur.below (Below.drew (Below.refl _ _)))).mono ?_; rintro e w4 ⟨K', N', S', ao', n', cap', zs', rfl, hS', hn', hz', hi', how4, went4⟩; obtain ⟨⟨v0, v1, v2, v3⟩, -⟩ := cells4 (kept_grown (w := w3.drew) KV.out went4.grown (fun k hk => by cases hk; omega)); obtain ⟨⟨y0, y1, y2, y3⟩, f0, f1, f2, f3⟩ := cells4 (kept_grown (w := w3.drew) KY.out went4.grown (fun k hk => by cases hk; omega)); obtain ⟨⟨u0, u1, u2, u3⟩, g0, g1, g2, g3⟩ := cells4 (kept_grown (w := w3.drew) KZ.out went4.grown (fun k hk => by cases hk; omega)))
    all_goals
      have o4 := went4.ownI (own_below HO.out (Below.drew (Below.refl _ _))) hlt
      have m4 := went4.grown.size
      have q4 : Below w.heap.size w w4 := (q1.trans (below_of_grown wn3.grown (by omega) (Nat.le_of_lt hlt))).trans ((Below.drew (Below.refl _ _)).trans (below_of_grown went4.grown (by omega) (by show _ ≤ w3.heap.size; omega)))
      have m4' : w3.heap.size ≤ w4.heap.size := m4
      have HO4 := hide o4
      have HO5 := hide (show w4.ownsRow w3.heap.size 3 1 (.slice ao' n' cap') n' (cI zs') from how4)
      clear o4 how4 went4 wn3 HO KV KY KZ m4
      go_wp2
      refine bodyPost_ret (v := .tuple #[.agg #[.int .i64 K, .int .i64 N, .string S, .slice ao n cap], .agg #[.int .i64 K', .int .i64 N', .string S', .slice ao' n' cap']]) (by simp [results, Try.results17, go_sem, *]) rfl ⟨K, N, S, ao, n, cap, zs, K', N', S', ao', n', cap', zs', rfl, ?_, ?_, ?_⟩
      · exact irow_own (own_set4 (own_set4 HO4.out (g := w.heap.size) (by omega) _ _ _ _) (g := w.heap.size + 1) (by omega) _ _ _ _) hi
      · exact irow_own (own_set4 (own_set4 HO5.out (g := w.heap.size) (by omega) _ _ _ _) (g := w.heap.size + 1) (by omega) _ _ _ _) hi'
      · exact below_set4 (below_set4 q4 (Nat.le_refl _) _ _ _ _) (by omega) _ _ _ _
  · obtain ⟨⟨x0, x1, x2, x3⟩, -⟩ := cells4 kv
    obtain ⟨⟨y0, y1, y2, y3⟩, f0, f1, f2, f3⟩ := cells4 ky
    obtain ⟨⟨u0, u1, u2, u3⟩, g0, g1, g2, g3⟩ := cells4 kz
    have q3 : Below w.heap.size w w3 := q1.trans (below_of_grown wn3.grown (by omega) (Nat.le_of_lt hlt))
    have HO := hide o3
    clear o3 ky kz kv
    go_wp2_with fail
    go_region
    go_wp2
    refine bodyPost_ret (v := .tuple #[.agg #[.int .i64 K, .int .i64 N, .string S, .slice ao n cap], .agg #[.int .i64 K, .int .i64 N, .string S, .slice ao n cap]]) (by simp [results, Try.results17, go_sem, *]) rfl ⟨K, N, S, ao, n, cap, zs, K, N, S, ao, n, cap, zs, rfl, ?_, ?_, ?_⟩
    · exact (irow_own (own_set4 (own_set4 HO.out (g := w.heap.size) (by omega) _ _ _ _) (g := w.heap.size + 1) (by omega) _ _ _ _) hi).below (Below.drew (Below.refl _ _))
    · exact (irow_own (own_set4 (own_set4 HO.out (g := w.heap.size) (by omega) _ _ _ _) (g := w.heap.size + 1) (by omega) _ _ _ _) hi).below (Below.drew (Below.refl _ _))
    · exact Below.drew (below_set4 (below_set4 q3 (Nat.le_refl _) _ _ _ _) (by omega) _ _ _ _)

end Go.Proofs.Ytfjojchenmdhdaa
