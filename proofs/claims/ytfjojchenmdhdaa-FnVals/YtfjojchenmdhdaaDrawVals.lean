/-
  What is drawn for values: bytes and a value; the bytes of a value, bent, and a place; two values.
-/
import Derived.Test.YtfjojchenmdhdaaDrawVal2
import Derived.Test.YtfjojchenmdhdaaDrawc
namespace Go.Proofs.Ytfjojchenmdhdaa
open Go.RowKit

def DrawnBV (w w' : World) (e : Ending) : Prop :=
  ∃ (a1 : Option Addr) (n1 c1 : Nat) (z1 : List Int) (K N : Int) (S : ByteArray) (ao : Option Addr) (n cap : Nat) (zs : List Int), e = .returned (.tuple #[.slice a1 n1 c1, .agg #[.int .i64 K, .int .i64 N, .string S, .slice ao n cap]]) ∧ n1 ≤ 9 ∧ S.size ≤ 30 ∧ n ≤ 11 ∧ Row w' a1 n1 c1 z1 ∧ IRow w' ao n cap zs ∧ Below w.heap.size w w'

set_option maxRecDepth 100000 in
set_option maxHeartbeats 1000000 in
theorem drawPutVal_any (a0 : Option Addr) (l0 c0 : Nat) (z0 : List Int) (w : World) (h0 : Row w a0 l0 c0 z0) (hs : l0 ≤ 1048576) :
    Calls Try.prog 9 #[.slice a0 l0 c0] w fun e w' => DrawnBV w w' e := by
  go_enter Try.func9, Try.ntmps9
  go_wp2_with fail
  refine (new_any a0 l0 c0 z0 _ (h0.below (below_one w (.cells #[.int .i64 0, .int .i64 0, .string ⟨#[]⟩, .slice none 0 0] 26))) hs).mono ?_
  rintro e w1 ⟨rfl, cur1, hb1⟩
  have kz := kept_block (block_last w (.cells #[.int .i64 0, .int .i64 0, .string ⟨#[]⟩, .slice none 0 0] 26)) hb1
  have q1 : Below w.heap.size w w1 := (below_one w (.cells #[.int .i64 0, .int .i64 0, .string ⟨#[]⟩, .slice none 0 0] 26)).trans (hb1.mono (below_one w (.cells #[.int .i64 0, .int .i64 0, .string ⟨#[]⟩, .slice none 0 0] 26)).size)
  have hlt := cur1.lt
  rw [show (w.alloc (.cells #[.int .i64 0, .int .i64 0, .string ⟨#[]⟩, .slice none 0 0] 26)).heap.size = w.heap.size + 1 by simp] at cur1 hlt ⊢
  clear hb1
  go_wp2_with fail
  refine (some_any _ a0 l0 c0 z0 _ cur1).mono ?_
  rintro e w2 ⟨a1, n1, cp1, zs1, rfl, hn1, hby1, hz1, how1, went2⟩
  have kz := kept_grown kz went2.grown (fun k hk => by cases hk; omega)
  clear cur1
  go_wp2_with fail
  refine (l3Any_any _ a0 l0 c0 z0 _ went2.cur).mono ?_
  rintro e w3 ⟨K, N, S, ao, n, cap, zs, rfl, hS, hn, hz, hi, how3, went3⟩
  have kz := kept_grown kz went3.grown (fun k hk => by cases hk; omega)
  have how1 := went3.own how1 hlt
  have q3 : Below w.heap.size w w3 := q1.trans (below_of_grown (went2.trans went3).grown (by omega) (Nat.le_of_lt hlt))
  have m2 := went2.grown.size
  obtain ⟨⟨x0, x1, x2, x3⟩, f0, f1, f2, f3⟩ := cells4 kz
  have HO1 := hide how1
  have HO3 := hide how3
  clear kz how1 how3 went2 went3 q1
  go_wp2
  have o1 := own_set4 HO1.out (g := w.heap.size) (by omega) (.int .i64 K) (.int .i64 N) (.string S) (.slice ao n cap)
  have o3 := own_set4 HO3.out (g := w.heap.size) (by omega) (.int .i64 K) (.int .i64 N) (.string S) (.slice ao n cap)
  exact bodyPost_ret (v := .tuple #[.slice a1 n1 cp1, .agg #[.int .i64 K, .int .i64 N, .string S, .slice ao n cap]]) (by simp [results, Try.results9, go_sem, *]) rfl ⟨a1, n1, cp1, zs1, K, N, S, ao, n, cap, zs, rfl, hn1, hS, hn, row_own o1 hby1, irow_own o3 hi, below_set4 q3 (Nat.le_refl _) _ _ _ _⟩

set_option maxRecDepth 100000 in
set_option maxHeartbeats 1000000 in
theorem drawGetVal_any (a0 : Option Addr) (l0 c0 : Nat) (z0 : List Int) (w : World) (h0 : Row w a0 l0 c0 z0) (hs : l0 ≤ 1048576) :
    Calls Try.prog 11 #[.slice a0 l0 c0] w fun e w' => ∃ ao1 n1 cp1 zs1 t, e = .returned (.tuple #[.slice ao1 n1 cp1, .int .i64 t]) ∧ n1 ≤ 2001 ∧ -9223372036854775808 ≤ t ∧ t ≤ 9223372036854775807 ∧ Row w' ao1 n1 cp1 zs1 ∧ Below w.heap.size w w' := by
  go_enter Try.func11, Try.ntmps11
  go_wp2_with fail
  refine (new_any a0 l0 c0 z0 _ h0 hs).mono ?_
  rintro e w1 ⟨rfl, cur1, hb1⟩
  have hlt := cur1.lt
  have hst := Went.start cur1 (below_one w1 (.cells #[] 5))
  go_wp2_with fail
  refine (l3Draw_any _ a0 l0 c0 z0 _ hst.cur).mono ?_
  rintro e w2 ⟨K, N, S, ao, n, cap, zs, rfl, hS, hn, hz, hi, how2, went2⟩
  have wn2 := hst.trans went2
  have m2 := wn2.grown.size
  have re : ∀ (wx : World) (B : Nat), Row wx (some ⟨B, 0, none⟩) 0 0 [] := fun _ _ => ⟨rfl, Nat.le_refl _, Nat.zero_le _, (by intro h; cases h), byte_nil, .inl rfl⟩
  clear hst went2
  have hpl := putV_length [] K N S zs
  have hpb := putV_byte [] K N S zs byte_nil
  generalize hP : putV [] K N S zs = P at hpl hpb
  have HP := hide hP
  have HRE := hide re
  clear hP re
  go_wp2_with fail
  refine (specPutVal_made _ _ _ [] K N S _ _ _ zs P HP.out _ (HRE.out _ _) (Nat.le_trans hS (by unfold maxLen; omega)) (irow_own how2 hi) (by omega)).mono ?_
  rintro e w3 ⟨ao3, cp3, rfl, ho3, -, hb3⟩
  have wn3 := wn2.made hb3
  have m3 := hb3.size
  clear wn2 hb3 how2
  go_wp2_with fail
  refine (bend_any _ a0 l0 c0 z0 w2.heap.size _ _ _ P _ wn3.cur (by omega) m3 ho3 hpb (by simp at hpl; omega)).mono ?_
  rintro e w4 ⟨ao4, n4, cp4, zs4, rfl, hn4, hby4, hz4, ho4, cur4, low4⟩
  go_wp2_with fail
  refine (at_any _ a0 l0 c0 z0 _ _ _ _ cur4 (by omega)).mono ?_
  rintro e w5 ⟨t, rfl, ht0, ht1, went5⟩
  have ho5 := went5.own ho4 (by omega)
  have q3 := hb1.trans (below_of_grown wn3.grown (Nat.le_refl _) (Nat.le_of_lt hlt))
  have q4 := q3.trans low4
  have q5 := q4.trans (below_of_grown went5.grown (Nat.le_refl _) (Nat.le_of_lt cur4.lt))
  go_wp2
  go_ret2
  exact ⟨ao4, n4, cp4, zs4, t, rfl, hn4, ht0, ht1, row_own ho5 hby4, q5⟩

end Go.Proofs.Ytfjojchenmdhdaa
