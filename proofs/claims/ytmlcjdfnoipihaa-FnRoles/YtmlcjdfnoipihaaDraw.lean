/-
  The draws' cursor: what each of its functions may answer, and what of memory they leave alone.
-/
import Derived.Test.YtmlcjdfnoipihaaCopy
namespace Go.Proofs.Ytmlcjdfnoipihaa
open Go.RowKit

theorem and_mask (x m : Int) (h : 0 ≤ m ∧ m ≤ 9223372036854775807) : 0 ≤ bits .and .i64 x m ∧ bits .and .i64 x m ≤ m := by
  have e2 : (BitVec.ofInt 64 m).toNat = m.toNat := by
    rw [BitVec.toNat_ofInt]
    have : ((2 ^ 64 : Nat) : Int) = 18446744073709551616 := by decide
    rw [this]; omega
  have e3 : ((BitVec.ofInt 64 x) &&& (BitVec.ofInt 64 m)).toNat ≤ m.toNat := by
    rw [BitVec.toNat_and, e2]; exact Nat.and_le_right
  have e : bits .and .i64 x m = IntKind.i64.wrap (((BitVec.ofInt 64 x) &&& (BitVec.ofInt 64 m)).toNat : Int) := rfl
  rw [e, IntKind.wrap_i64]
  omega

theorem grown_trans {a b c : World} {C : Nat} (h : a.grownBy b (some C)) (k : b.grownBy c (some C)) : a.grownBy c (some C) where
  os := k.os.trans h.os
  tape := k.tape.trans h.tape
  output := k.output.trans h.output
  size := Nat.le_trans h.size k.size
  block := fun j hj hne => (k.block j (Nat.lt_of_lt_of_le hj h.size) hne).trans (h.block j hj hne)

theorem grown_of_below {a b : World} (C : Nat) (h : Below a.heap.size a b) : a.grownBy b (some C) where
  os := h.os
  tape := h.tape
  output := h.output
  size := h.size
  block := fun j hj _ => h.block j hj

theorem below_of_grown {a b : World} {C B : Nat} (h : a.grownBy b (some C)) (hB : B ≤ C) (hs : C ≤ a.heap.size) : Below B a b where
  os := h.os
  tape := h.tape
  output := h.output
  size := h.size
  block := fun j hj => h.block j (by omega) (by intro e; cases e; omega)

theorem grown_drewN {a b : World} {C : Nat} (h : a.grownBy b (some C)) (n : Nat) : a.grownBy (b.drewN n) (some C) := ⟨h.os, h.tape, h.output, h.size, h.block⟩

/-- A cursor: where it lies, over which bytes it goes. -/
structure Cur (w : World) (C : Nat) (a0 : Option Addr) (l0 c0 : Nat) (z0 : List Int) : Prop where
  row : ∀ w', Below C w w' → Row w' a0 l0 c0 z0
  small : l0 ≤ 1048576
  here : ∃ i h : Int, 0 ≤ i ∧ i ≤ l0 ∧ w.heap[C]? = some (.cells #[.slice a0 l0 c0, .int .i64 i, .int .i64 h] 69)

theorem Cur.lt {w : World} {C : Nat} {a0 : Option Addr} {l0 c0 : Nat} {z0 : List Int} (h : Cur w C a0 l0 c0 z0) : C < w.heap.size := by
  obtain ⟨i, x, _, _, e⟩ := h.here
  by_cases hlt : C < w.heap.size
  · exact hlt
  · rw [Array.getElem?_eq_none (by omega)] at e; cases e

theorem Cur.below {w w' : World} {C : Nat} {a0 : Option Addr} {l0 c0 : Nat} {z0 : List Int} (h : Cur w C a0 l0 c0 z0) (hb : Below w.heap.size w w') : Cur w' C a0 l0 c0 z0 where
  row := fun w2 h2 => h.row w2 ((hb.mono (Nat.le_of_lt h.lt)).trans h2)
  small := h.small
  here := by
    obtain ⟨i, x, h1, h2, e⟩ := h.here
    exact ⟨i, x, h1, h2, by rw [hb.block C h.lt]; exact e⟩

theorem cur_new (w : World) (a0 : Option Addr) (l0 c0 : Nat) (z0 : List Int) (x : Int) (h0 : Row w a0 l0 c0 z0) (hs : l0 ≤ 1048576) : Cur (w.alloc (.cells #[.slice a0 l0 c0, .int .i64 0, .int .i64 x] 69)) w.heap.size a0 l0 c0 z0 where
  row := fun w2 h2 => h0.below (((Below.refl _ _).alloc (Nat.le_refl _) _).trans h2)
  small := hs
  here := ⟨0, x, by omega, by omega, by show (w.heap.push _)[w.heap.size]? = _; simp⟩

theorem Cur.drew {w : World} {C : Nat} {a0 : Option Addr} {l0 c0 : Nat} {z0 : List Int} (h : Cur w C a0 l0 c0 z0) (n : Nat) : Cur (w.drewN n) C a0 l0 c0 z0 := h.below (below_drewN (Below.refl _ _) n)

set_option maxRecDepth 100000 in
set_option maxHeartbeats 400000 in
theorem new_any (a0 : Option Addr) (l0 c0 : Nat) (z0 : List Int) (w : World) (h0 : Row w a0 l0 c0 z0) (hs : l0 ≤ 1048576) :
    Calls Try.prog 31 #[.slice a0 l0 c0] w fun e w' => e = .returned (.pointer (some ⟨w.heap.size, 0, none⟩)) ∧ Cur w' w.heap.size a0 l0 c0 z0 ∧ Below w.heap.size w w' := by
  have hby := h0.byte
  have hcell := h0.cell
  go_enter Try.func31, Try.ntmps31
  go_wp2
  go_loop [3, 4] (fun m i => ∃ (k : Nat) (x : Int), k ≤ l0 ∧ k ≤ 4000 ∧ i = .int .i64 k ∧ m = .int .i64 x ∧ 0 ≤ x ∧ x ≤ 1073741823) (fun _ i => l0 - (intOf i).toNat)
  case atStart => exact ⟨0, _, Nat.zero_le _, by omega, rfl, rfl, by omega, by omega⟩
  case round =>
    obtain ⟨k, x, hk, hk4, rfl, rfl, hx0, hx1⟩ := hrel
    by_cases hlt : k < l0
    · by_cases hl4 : k < 4000
      · rcases hcell with h | ⟨b, off, rfl, hc⟩
        · omega
        have cx := hc k hlt
        have bx := hby.at k
        clear hc
        generalize z0.getD k 0 = y at *
        go_wp2
        go_round
        case rel => exact ⟨k + 1, _, by omega, by omega, by go_num, rfl, (and_mask (x * 137 + y + 11) 1073741823 (by omega)).1, (and_mask (x * 137 + y + 11) 1073741823 (by omega)).2⟩
        case measure => simp [intOf]; omega
      · have i1 : ¬ (k : Int) < 4000 := by omega
        go_wp2
        go_ret
        exact ⟨rfl, cur_new w a0 l0 c0 z0 x h0 hs, (Below.refl _ _).alloc (Nat.le_refl _) _⟩
    · go_wp2
      go_ret
      exact ⟨rfl, cur_new w a0 l0 c0 z0 x h0 hs, (Below.refl _ _).alloc (Nat.le_refl _) _⟩

/-- What a step of the cursor leaves: the cursor, and all other memory as it was. -/
structure Went (w w' : World) (C : Nat) (a0 : Option Addr) (l0 c0 : Nat) (z0 : List Int) : Prop where
  cur : Cur w' C a0 l0 c0 z0
  grown : w.grownBy w' (some C)

theorem Cur.cells {w : World} {C : Nat} {c0 c1 c2 : Value} (h : w.heap[C]? = some (.cells #[c0, c1, c2] 69)) :
    w.cell? ⟨C, 0, none⟩ = some c0 ∧ w.cell? ⟨C, 1, none⟩ = some c1 ∧ w.cell? ⟨C, 2, none⟩ = some c2 ∧ (∀ j, w.frozen? ⟨C, j, none⟩ = false) := by
  refine ⟨?_, ?_, ?_, fun j => ?_⟩ <;> simp [World.cell?, World.frozen?, h]

theorem cur_set2 {w : World} {C : Nat} {a0 : Option Addr} {l0 c0 : Nat} {z0 : List Int} {i h : Int} (hc : Cur w C a0 l0 c0 z0) (hh : w.heap[C]? = some (.cells #[.slice a0 l0 c0, .int .i64 i, .int .i64 h] 69)) (H : Int) (hi : 0 ≤ i ∧ i ≤ l0) :
    (w.setCell ⟨C, 2, none⟩ (.int .i64 H)).heap[C]? = some (.cells #[.slice a0 l0 c0, .int .i64 i, .int .i64 H] 69) ∧ w.grownBy (w.setCell ⟨C, 2, none⟩ (.int .i64 H)) (some C) ∧ Cur (w.setCell ⟨C, 2, none⟩ (.int .i64 H)) C a0 l0 c0 z0 := by
  have e : (w.setCell ⟨C, 2, none⟩ (.int .i64 H)).heap[C]? = some (.cells #[.slice a0 l0 c0, .int .i64 i, .int .i64 H] 69) := by
    have := hc.lt
    simp [World.setCell, Array.getElem?_modify, hh]
  have g : w.grownBy (w.setCell ⟨C, 2, none⟩ (.int .i64 H)) (some C) := grown_setCell (World.grownBy.refl _ _) 2 _
  exact ⟨e, g, ⟨fun w2 h2 => hc.row w2 ((below_of_grown g (Nat.le_refl _) (Nat.le_of_lt hc.lt)).trans h2), hc.small, i, H, hi.1, hi.2, e⟩⟩

theorem cur_set1 {w : World} {C : Nat} {a0 : Option Addr} {l0 c0 : Nat} {z0 : List Int} {i h : Int} (hc : Cur w C a0 l0 c0 z0) (hh : w.heap[C]? = some (.cells #[.slice a0 l0 c0, .int .i64 i, .int .i64 h] 69)) (j : Int) (hj : 0 ≤ j ∧ j ≤ l0) :
    Went w (w.setCell ⟨C, 1, none⟩ (.int .i64 j)) C a0 l0 c0 z0 := by
  have e : (w.setCell ⟨C, 1, none⟩ (.int .i64 j)).heap[C]? = some (.cells #[.slice a0 l0 c0, .int .i64 j, .int .i64 h] 69) := by
    have := hc.lt
    simp [World.setCell, Array.getElem?_modify, hh]
  have g : w.grownBy (w.setCell ⟨C, 1, none⟩ (.int .i64 j)) (some C) := grown_setCell (World.grownBy.refl _ _) 1 _
  exact ⟨⟨fun w2 h2 => hc.row w2 ((below_of_grown g (Nat.le_refl _) (Nat.le_of_lt hc.lt)).trans h2), hc.small, j, h, hj.1, hj.2, e⟩, g⟩

set_option maxRecDepth 100000 in
set_option maxHeartbeats 400000 in
theorem byte_any (C : Nat) (a0 : Option Addr) (l0 c0 : Nat) (z0 : List Int) (w : World) (hc : Cur w C a0 l0 c0 z0) :
    Calls Try.prog 46 #[.pointer (some ⟨C, 0, none⟩)] w fun e w' => ∃ x : Int, e = .returned (.int .i64 x) ∧ 0 ≤ x ∧ x ≤ 255 ∧ Went w w' C a0 l0 c0 z0 := by
  obtain ⟨i, h, hi0, hi1, hh⟩ := hc.here
  obtain ⟨k0, k1, k2, kf⟩ := Cur.cells hh
  have kf2 := kf 2
  clear kf
  obtain ⟨k, rfl⟩ : ∃ k : Nat, i = k := ⟨i.toNat, by omega⟩
  go_enter Try.func46, Try.ntmps46
  go_wp2
  generalize wrap64 (wrap64 (h * 6364136223846793005) + 1442695040888963407) = H
  have st := cur_set2 hc hh H ⟨hi0, hi1⟩
  generalize w.setCell ⟨C, 2, none⟩ (.int .i64 H) = W at *
  obtain ⟨hW, hg, hcw⟩ := st
  clear k0 k1 k2 kf2 hh hc
  obtain ⟨k0, k1, k2, kf⟩ := Cur.cells hW
  have kf1 := kf 1
  clear kf
  have hrow := hcw.row W (Below.refl _ _)
  have hl0 := hcw.small
  have hby := hrow.byte
  have hcell := hrow.cell
  go_quiet (fail)
  go_wp2
  have hx := and_mask (bits BinOp.xor IntKind.i64 (H / 8589934592) (H / 140737488355328)) 255 (by omega)
  generalize bits BinOp.and IntKind.i64 (bits BinOp.xor IntKind.i64 (H / 8589934592) (H / 140737488355328)) 255 = x at *
  by_cases hlt : k < l0
  · rcases hcell with h | ⟨b, off, rfl, hc⟩
    · omega
    have cx := hc k hlt
    have bx := hby.at k
    clear hc
    generalize z0.getD k 0 = y at *
    have g1 : (k : Int) < l0 := by omega
    go_quiet (fail)
    go_wp2
    go_quiet (fail)
    go_wp2
    go_ret
    refine ⟨_, rfl, (and_mask _ 255 (by omega)).1, (and_mask _ 255 (by omega)).2, ?_⟩
    have t := fun n => cur_set1 (hcw.drew n) (by exact hW) ((k : Int) + 1) (by omega)
    exact ⟨(t _).cur, grown_trans (grown_drewN hg _) (t _).grown⟩
  · have g1 : ¬ (k : Int) < l0 := by omega
    go_quiet (fail)
    go_wp2
    go_ret
    exact ⟨x, rfl, hx.1, hx.2, hcw.drew _, grown_drewN hg _⟩

theorem mod_bd (x n : Int) (hx : 0 ≤ x) (hn : 0 < n) : 0 ≤ x % n ∧ x % n < n ∧ x % n ≤ x := by
  refine ⟨Int.emod_nonneg _ (by omega), Int.emod_lt_of_pos _ hn, ?_⟩
  have h1 := Int.emod_add_mul_ediv x n
  have h2 : 0 ≤ x / n := Int.ediv_nonneg hx (by omega)
  have h3 : 0 ≤ n * (x / n) := Int.mul_nonneg (by omega) h2
  omega

theorem Went.trans {a b c : World} {C : Nat} {a0 : Option Addr} {l0 c0 : Nat} {z0 : List Int} (h : Went a b C a0 l0 c0 z0) (k : Went b c C a0 l0 c0 z0) : Went a c C a0 l0 c0 z0 := ⟨k.cur, grown_trans h.grown k.grown⟩

theorem Went.made {a b c : World} {C : Nat} {a0 : Option Addr} {l0 c0 : Nat} {z0 : List Int} (h : Went a b C a0 l0 c0 z0) (k : Below b.heap.size b c) : Went a c C a0 l0 c0 z0 := ⟨h.cur.below k, grown_trans h.grown (grown_of_below C k)⟩

theorem Went.start {a b : World} {C : Nat} {a0 : Option Addr} {l0 c0 : Nat} {z0 : List Int} (h : Cur a C a0 l0 c0 z0) (k : Below a.heap.size a b) : Went a b C a0 l0 c0 z0 := ⟨h.below k, grown_of_below C k⟩

set_option maxRecDepth 100000 in
set_option maxHeartbeats 400000 in
theorem below_any (C : Nat) (a0 : Option Addr) (l0 c0 : Nat) (z0 : List Int) (n : Int) (w : World) (hc : Cur w C a0 l0 c0 z0) (hn : n ≤ 1099511627776) :
    Calls Try.prog 32 #[.pointer (some ⟨C, 0, none⟩), .int .i64 n] w fun e w' => ∃ x : Int, e = .returned (.int .i64 x) ∧ 0 ≤ x ∧ (0 < n → x < n) ∧ x ≤ 16777215 ∧ Went w w' C a0 l0 c0 z0 := by
  by_cases k0 : n ≤ 0
  · go_enter Try.func32, Try.ntmps32
    go_wp2
    go_ret
    exact ⟨0, rfl, by omega, by omega, by omega, Went.start hc (Below.refl _ _)⟩
  by_cases k1 : n ≤ 256
  · go_enter Try.func32, Try.ntmps32
    go_wp2_with fail
    refine (byte_any C a0 l0 c0 z0 _ hc).mono ?_
    rintro e w1 ⟨x, rfl, hx0, hx1, went⟩
    have hne : (n == 0) = false := by simp; omega
    go_wp2
    go_ret
    exact ⟨_, rfl, (mod_bd x n hx0 (by omega)).1, fun _ => (mod_bd x n hx0 (by omega)).2.1, by have := (mod_bd x n hx0 (by omega)).2.2; omega, went⟩
  · go_enter Try.func32, Try.ntmps32
    go_wp2_with fail
    refine (byte_any C a0 l0 c0 z0 _ hc).mono ?_
    rintro e w1 ⟨x, rfl, hx0, hx1, went1⟩
    go_wp2_with fail
    refine (byte_any C a0 l0 c0 z0 _ went1.cur).mono ?_
    rintro e w2 ⟨y, rfl, hy0, hy1, went2⟩
    go_wp2_with fail
    refine (byte_any C a0 l0 c0 z0 _ went2.cur).mono ?_
    rintro e w3 ⟨z, rfl, hz0, hz1, went3⟩
    have hne : (n == 0) = false := by simp; omega
    go_wp2
    go_ret
    have hm := mod_bd (x * 65536 + y * 256 + z) n (by omega) (by omega)
    exact ⟨_, rfl, hm.1, fun _ => hm.2.1, by omega, (went1.trans went2).trans went3⟩

set_option maxRecDepth 100000 in
set_option maxHeartbeats 400000 in
theorem once_any (C : Nat) (a0 : Option Addr) (l0 c0 : Nat) (z0 : List Int) (n : Int) (w : World) (hc : Cur w C a0 l0 c0 z0) (hn : n ≤ 1099511627776) :
    Calls Try.prog 47 #[.pointer (some ⟨C, 0, none⟩), .int .i64 n] w fun e w' => ∃ x : Bool, e = .returned (.bool x) ∧ Went w w' C a0 l0 c0 z0 := by
  go_enter Try.func47, Try.ntmps47
  go_wp2_with fail
  refine (below_any C a0 l0 c0 z0 n _ hc hn).mono ?_
  rintro e w1 ⟨x, rfl, hx0, hx1, hx2, went⟩
  go_wp2
  go_ret
  exact ⟨_, rfl, went⟩

/-- A list of numbers laid in a new block. -/
theorem ints_lit (w : World) (xs : List Int) (j : Nat) (hj : j < xs.length) : (w.alloc (.cells (xs.map (Value.int .i64)).toArray 3)).cell? ⟨w.heap.size, j, none⟩ = some (.int .i64 (xs.getD j 0)) := by
  have : (w.alloc (.cells (xs.map (Value.int .i64)).toArray 3)).cell? ⟨w.heap.size, j, none⟩ = (xs.map (Value.int .i64)).toArray[j]? := by simp
  rw [this]
  simp [hj]

set_option maxRecDepth 100000 in
set_option maxHeartbeats 400000 in
theorem int_any (C : Nat) (a0 : Option Addr) (l0 c0 : Nat) (z0 : List Int) (B n : Nat) (xs : List Int) (w : World) (hc : Cur w C a0 l0 c0 z0) (hB : C < B) (hcell : ∀ j, j < n → w.cell? ⟨B, j, none⟩ = some (.int .i64 (xs.getD j 0))) (hxs : xs.length = n) (hn0 : 0 < n) (hn : n ≤ 1000) :
    Calls Try.prog 41 #[.pointer (some ⟨C, 0, none⟩), .slice (some ⟨B, 0, none⟩) n n] w fun e w' => ∃ x : Int, x ∈ xs ∧ e = .returned (.int .i64 x) ∧ Went w w' C a0 l0 c0 z0 := by
  have HC := hide hcell
  clear hcell
  go_enter Try.func41, Try.ntmps41
  go_wp2_with fail
  refine (below_any C a0 l0 c0 z0 n _ hc (by omega)).mono ?_
  rintro e w1 ⟨x, rfl, hx0, hx1, hx2, went⟩
  have hx1 := hx1 (by omega)
  obtain ⟨j, rfl⟩ : ∃ j : Nat, x = j := ⟨x.toNat, by omega⟩
  have cx : w1.cell? ⟨B, j, none⟩ = some (.int .i64 (xs.getD j 0)) := went.grown.cell (HC.out j (by omega)) (by intro e; simp at e; omega)
  have hm : xs.getD j 0 ∈ xs := by
    rw [List.getD_eq_getElem?_getD, List.getElem?_eq_getElem (by omega)]; exact List.getElem_mem _
  generalize xs.getD j 0 = y at *
  go_wp2
  go_ret
  exact ⟨y, hm, rfl, went⟩

end Go.Proofs.Ytmlcjdfnoipihaa
