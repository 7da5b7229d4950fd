/-
  What is drawn of a cursor: bytes, bodies, numbers, places; each by what may come.
-/
import Derived.Test.YtfjojchenmdhdaaDraw
import Derived.Test.YtfjojchenmdhdaaNum
namespace Go.Proofs.Ytfjojchenmdhdaa
open Go.RowKit

theorem Cur.belowAt {w w' : World} {C B : Nat} {a0 : Option Addr} {l0 c0 : Nat} {z0 : List Int} (h : Cur w C a0 l0 c0 z0) (hb : Below B w w') (hC : C < B) : Cur w' C a0 l0 c0 z0 where
  row := fun w2 h2 => h.row w2 ((hb.mono (Nat.le_of_lt hC)).trans h2)
  small := h.small
  here := by
    obtain ⟨i, x, h1, h2, e⟩ := h.here
    exact ⟨i, x, h1, h2, by rw [hb.block C hC]; exact e⟩

theorem Went.madeAt {a b c : World} {C B : Nat} {a0 : Option Addr} {l0 c0 : Nat} {z0 : List Int} (h : Went a b C a0 l0 c0 z0) (k : Below B b c) (hC : C < B) (hB : a.heap.size ≤ B) : Went a c C a0 l0 c0 z0 where
  cur := h.cur.belowAt k hC
  grown := ⟨k.os.trans h.grown.os, k.tape.trans h.grown.tape, k.output.trans h.grown.output, Nat.le_trans h.grown.size k.size, fun j hj hne => (k.block j (by omega)).trans (h.grown.block j hj hne)⟩

theorem Went.own {a b : World} {C : Nat} {a0 : Option Addr} {l0 c0 : Nat} {z0 : List Int} (h : Went a b C a0 l0 c0 z0) {base : Nat} {v : Value} {n : Nat} {xs : List Value} (ho : a.ownsRow base 5 1 v n xs) (hC : C < base) : b.ownsRow base 5 1 v n xs :=
  own_above ho h.grown (by intro k hk; cases hk; exact hC)

set_option maxRecDepth 100000 in
set_option maxHeartbeats 400000 in
theorem bytes_any (C : Nat) (a0 : Option Addr) (l0 c0 : Nat) (z0 : List Int) (x : Int) (m : Nat) (w : World) (hc : Cur w C a0 l0 c0 z0) (hx : x = m) (hm : m ≤ 4000) :
    Calls Try.prog 60 #[.pointer (some ⟨C, 0, none⟩), .int .i64 x] w fun e w' => ∃ ao cap zs, e = .returned (.slice ao m cap) ∧ Byt zs ∧ zs.length = m ∧ w'.ownsRow w.heap.size 5 1 (.slice ao m cap) m (cB zs) ∧ Went w w' C a0 l0 c0 z0 := by
  subst hx
  have hlt := hc.lt
  go_enter Try.func60, Try.ntmps60
  go_wp2
  go_loopw [5, 6] (fun v i wr => ∃ (k : Nat) (zs : List Int) (ao : Option Addr) (cap : Nat), k ≤ m ∧ i = .int .i64 k ∧ v = .slice ao k cap ∧ zs.length = k ∧ Byt zs ∧ wr.ownsRow w.heap.size 5 1 (.slice ao k cap) k (cB zs) ∧ Went w wr C a0 l0 c0 z0) (fun _ i _ => m - (intOf i).toNat)
  case atStart => exact ⟨0, [], _, _, Nat.zero_le _, rfl, rfl, rfl, (by intro z hz; cases hz), World.ownsRow_lit w #[] 0 (Nat.le_refl _) (Nat.zero_le _) rfl, Went.start hc ((Below.refl _ _).alloc (Nat.le_refl _) _)⟩
  case round =>
    obtain ⟨k, zs, ao, cap, hk, rfl, rfl, hz, hby, how, went⟩ := hrel
    by_cases hlk : k < m
    · go_wp2_with fail
      refine (byte_any C a0 l0 c0 z0 _ went.cur).mono ?_
      rintro e w1 ⟨y, rfl, hy0, hy1, went1⟩
      have how1 := went1.own how hlt
      have wn1 := went.trans went1
      have hs1 := wn1.grown.size
      clear how went went1
      go_wp2_with (at_builtin; refine wpList_append_row _ rfl _ _ 22 rfl w.heap.size Try.underlying22 Try.infoU8 _ k zs rfl (own_below how1 ((Below.refl _ _).alloc (Nat.le_refl _) _)) hby _ 1 1 [y] rfl (row_one w1 y ⟨hy0, hy1⟩) (by omega) (by simp; omega) ?_)
      intro ao2 cp2 w2 how2 row2 hb2
      have wn2 : Went w w2 C a0 l0 c0 z0 := (wn1.made ((Below.refl _ _).alloc (Nat.le_refl _) _)).madeAt hb2 hlt (Nat.le_refl _)
      have hby2 := row2.byte
      clear how1 hb2 row2
      go_wp2
      go_roundw
      case rel => exact ⟨k + 1, zs ++ [y], ao2, cp2, by omega, by go_num, rfl, by simp; omega, hby2, how2, wn2⟩
      case measure => simp [intOf]; omega
    · obtain rfl : k = m := by omega
      go_wp2
      go_ret
      exact ⟨ao, cap, zs, rfl, hby, hz, how, went⟩

/-- One of a list that is laid ahead. -/
theorem pick_any (C : Nat) (a0 : Option Addr) (l0 c0 : Nat) (z0 : List Int) (xs : List Int) (B n : Nat) (w : World) (hc : Cur w C a0 l0 c0 z0) (hB : B = w.heap.size) (hxs : xs.length = n) (hn0 : 0 < n) (hn : n ≤ 1000) :
    Calls Try.prog 61 #[.pointer (some ⟨C, 0, none⟩), .slice (some ⟨B, 0, none⟩) n n] (w.alloc (.cells (xs.map (Value.int .i64)).toArray 3)) fun e w' => ∃ x : Int, x ∈ xs ∧ e = .returned (.int .i64 x) ∧ Went w w' C a0 l0 c0 z0 := by
  subst hB hxs
  have hb : Below w.heap.size w (w.alloc (.cells (xs.map (Value.int .i64)).toArray 3)) := (Below.refl _ _).alloc (Nat.le_refl _) _
  refine (int_any C a0 l0 c0 z0 w.heap.size xs.length xs _ (hc.below hb) hc.lt (fun j hj => ints_lit w xs j hj) rfl hn0 hn).mono ?_
  rintro e w' ⟨x, hx, rfl, went⟩
  exact ⟨x, hx, rfl, (Went.start hc hb).trans went⟩

set_option maxRecDepth 100000 in
set_option maxHeartbeats 400000 in
theorem some_any (C : Nat) (a0 : Option Addr) (l0 c0 : Nat) (z0 : List Int) (w : World) (hc : Cur w C a0 l0 c0 z0) :
    Calls Try.prog 31 #[.pointer (some ⟨C, 0, none⟩)] w fun e w' => ∃ ao m cap zs, e = .returned (.slice ao m cap) ∧ m ≤ 9 ∧ Byt zs ∧ zs.length = m ∧ w'.ownsRow w.heap.size 5 1 (.slice ao m cap) m (cB zs) ∧ Went w w' C a0 l0 c0 z0 := by
  go_enter Try.func31, Try.ntmps31
  go_wp2_with fail
  refine (pick_any C a0 l0 c0 z0 [0, 1, 2, 5, 9] _ _ w hc rfl rfl (by simp) (by simp)).mono ?_
  rintro e w1 ⟨x, hx, rfl, went1⟩
  have hx' : 0 ≤ x ∧ x ≤ 9 := by simp at hx; omega
  clear hx
  go_wp2_with fail
  refine (bytes_any C a0 l0 c0 z0 x x.toNat _ went1.cur (by omega) (by omega)).mono ?_
  rintro e w2 ⟨ao, cap, zs, rfl, hby, hz, how, went2⟩
  go_wp2
  go_ret
  exact ⟨ao, _, cap, zs, rfl, by omega, hby, hz, own_lt how went1.grown.size, went1.trans went2⟩

theorem byte_zeros (n : Nat) : Byt (List.replicate n 0) := by
  intro z hz
  have := List.eq_of_mem_replicate hz
  omega

set_option maxRecDepth 100000 in
set_option maxHeartbeats 400000 in
theorem num_any (C : Nat) (a0 : Option Addr) (l0 c0 : Nat) (z0 : List Int) (w : World) (hc : Cur w C a0 l0 c0 z0) :
    Calls Try.prog 63 #[.pointer (some ⟨C, 0, none⟩)] w fun e w' => ∃ x : Int, e = .returned (.int .i64 x) ∧ -9223372036854775808 ≤ x ∧ x ≤ 9223372036854775807 ∧ Went w w' C a0 l0 c0 z0 := by
  go_enter Try.func63, Try.ntmps63
  go_wp2_with fail
  refine (below_any C a0 l0 c0 z0 1000 _ hc (by omega)).mono ?_
  rintro e w1 ⟨t, rfl, ht0, ht1, ht2, went1⟩
  go_wp2_with fail
  refine (pick_any C a0 l0 c0 z0 [0, 1, -1, 127, 128, -128, -129, 255, 256, 32767, 32768, -32769, 8388608, 2147483647, -2147483648, 2147483648, -2147483649, 9223372036854775807, -9223372036854775808, t] _ _ w1 went1.cur rfl rfl (by simp) (by simp)).mono ?_
  rintro e w2 ⟨x, hx, rfl, went2⟩
  have hx' : -9223372036854775808 ≤ x ∧ x ≤ 9223372036854775807 := by simp at hx; omega
  clear hx
  go_wp2
  go_ret
  exact ⟨x, rfl, hx'.1, hx'.2, went1.trans went2⟩

set_option maxRecDepth 100000 in
set_option maxHeartbeats 400000 in
theorem at_any (C : Nat) (a0 : Option Addr) (l0 c0 : Nat) (z0 : List Int) (ao : Option Addr) (l cp : Nat) (w : World) (hc : Cur w C a0 l0 c0 z0) (hl : l ≤ 3000000) :
    Calls Try.prog 39 #[.pointer (some ⟨C, 0, none⟩), .slice ao l cp] w fun e w' => ∃ x : Int, e = .returned (.int .i64 x) ∧ -9223372036854775808 ≤ x ∧ x ≤ 9223372036854775807 ∧ Went w w' C a0 l0 c0 z0 := by
  go_enter Try.func39, Try.ntmps39
  go_wp2_with fail
  refine (below_any C a0 l0 c0 z0 _ _ hc (by omega)).mono ?_
  rintro e w1 ⟨t, rfl, ht0, ht1, ht2, went1⟩
  go_wp2_with fail
  refine (pick_any C a0 l0 c0 z0 [0, 0, 0, (l : Int), t, -1, 9223372036854775807] _ _ w1 went1.cur rfl rfl (by simp) (by simp)).mono ?_
  rintro e w2 ⟨x, hx, rfl, went2⟩
  have hx' : -9223372036854775808 ≤ x ∧ x ≤ 9223372036854775807 := by simp at hx; omega
  clear hx
  go_wp2
  go_ret
  exact ⟨x, rfl, hx'.1, hx'.2, went1.trans went2⟩

end Go.Proofs.Ytfjojchenmdhdaa
