/-
  The draws' cursor: what each of its functions may answer, and what of memory they leave alone.
  What is drawn of a cursor: bytes, bodies, numbers, places; each by what may come.
  Bytes that are bent, and the four draws of the first chapter, each by what may come.
  Names that are drawn of a cursor: right ones, and whatever ones.
  A text that is drawn out of a literal list.
-/
import Derived.Test.YtamglfhnhjgdjaaGreatDoorQA
import Derived.Test.YtamglfhnhjgdjaaGreatDoorNum
import Derived.Test.YtamglfhnhjgdjaaGreatDoorTlv
namespace Go.Proofs.YtamglfhnhjgdjaaGreatDoor
open Go.RowKit

theorem and_mask (x m : Int) (h : 0 ≤ m ∧ m ≤ 9223372036854775807) : 0 ≤ bits .and .i64 x m ∧ bits .and .i64 x m ≤ m := by
  have e2 : (BitVec.ofInt 64 m).toNat = m.toNat := by
    rw [BitVec.toNat_ofInt]
    have : ((2 ^ 64 : Nat) : Int) = 18446744073709551616 := by decide
    rw [this]; omega
  have e3 : ((BitVec.ofInt 64 x) &&& (BitVec.ofInt 64 m)).toNat ≤ m.toNat := by
    rw [BitVec.toNat_and, e2]; exact Nat.and_le_right
  have e : bits .and .i64 x m = IntKind.i64.wrap (((BitVec.ofInt 64 x) &&& (BitVec.ofInt 64 m)).toNat : Int) := rfl
  rw [e, IntKind.wrap_i64]
  omega

theorem grown_trans {a b c : World} {C : Nat} (h : a.grownBy b (some C)) (k : b.grownBy c (some C)) : a.grownBy c (some C) where
  os := k.os.trans h.os
  tape := k.tape.trans h.tape
  output := k.output.trans h.output
  size := Nat.le_trans h.size k.size
  block := fun j hj hne => (k.block j (Nat.lt_of_lt_of_le hj h.size) hne).trans (h.block j hj hne)

theorem grown_of_below {a b : World} (C : Nat) (h : Below a.heap.size a b) : a.grownBy b (some C) where
  os := h.os
  tape := h.tape
  output := h.output
  size := h.size
  block := fun j hj _ => h.block j hj

theorem below_of_grown {a b : World} {C B : Nat} (h : a.grownBy b (some C)) (hB : B ≤ C) (hs : C ≤ a.heap.size) : Below B a b where
  os := h.os
  tape := h.tape
  output := h.output
  size := h.size
  block := fun j hj => h.block j (by omega) (by intro e; cases e; omega)

theorem grown_drewN {a b : World} {C : Nat} (h : a.grownBy b (some C)) (n : Nat) : a.grownBy (b.drewN n) (some C) := ⟨h.os, h.tape, h.output, h.size, h.block⟩

/-- A cursor: where it lies, over which bytes it goes. -/
structure Cur (w : World) (C : Nat) (a0 : Option Addr) (l0 c0 : Nat) (z0 : List Int) : Prop where
  row : ∀ w', Below C w w' → Row w' a0 l0 c0 z0
  small : l0 ≤ 1048576
  here : ∃ i h : Int, 0 ≤ i ∧ i ≤ l0 ∧ w.heap[C]? = some (.cells #[.slice a0 l0 c0, .int .i64 i, .int .i64 h] 74)

theorem Cur.lt {w : World} {C : Nat} {a0 : Option Addr} {l0 c0 : Nat} {z0 : List Int} (h : Cur w C a0 l0 c0 z0) : C < w.heap.size := by
  obtain ⟨i, x, _, _, e⟩ := h.here
  by_cases hlt : C < w.heap.size
  · exact hlt
  · rw [Array.getElem?_eq_none (by omega)] at e; cases e

theorem Cur.below {w w' : World} {C : Nat} {a0 : Option Addr} {l0 c0 : Nat} {z0 : List Int} (h : Cur w C a0 l0 c0 z0) (hb : Below w.heap.size w w') : Cur w' C a0 l0 c0 z0 where
  row := fun w2 h2 => h.row w2 ((hb.mono (Nat.le_of_lt h.lt)).trans h2)
  small := h.small
  here := by
    obtain ⟨i, x, h1, h2, e⟩ := h.here
    exact ⟨i, x, h1, h2, by rw [hb.block C h.lt]; exact e⟩

theorem cur_new (w : World) (a0 : Option Addr) (l0 c0 : Nat) (z0 : List Int) (x : Int) (h0 : Row w a0 l0 c0 z0) (hs : l0 ≤ 1048576) : Cur (w.alloc (.cells #[.slice a0 l0 c0, .int .i64 0, .int .i64 x] 74)) w.heap.size a0 l0 c0 z0 where
  row := fun w2 h2 => h0.below (((Below.refl _ _).alloc (Nat.le_refl _) _).trans h2)
  small := hs
  here := ⟨0, x, by omega, by omega, by show (w.heap.push _)[w.heap.size]? = _; simp⟩

theorem Cur.drew {w : World} {C : Nat} {a0 : Option Addr} {l0 c0 : Nat} {z0 : List Int} (h : Cur w C a0 l0 c0 z0) (n : Nat) : Cur (w.drewN n) C a0 l0 c0 z0 := h.below (below_drewN (Below.refl _ _) n)

set_option maxRecDepth 100000 in
set_option maxHeartbeats 400000 in
theorem new_any (a0 : Option Addr) (l0 c0 : Nat) (z0 : List Int) (w : World) (h0 : Row w a0 l0 c0 z0) (hs : l0 ≤ 1048576) :
    Calls Tryz.prog 16 #[.slice a0 l0 c0] w fun e w' => e = .returned (.pointer (some ⟨w.heap.size, 0, none⟩)) ∧ Cur w' w.heap.size a0 l0 c0 z0 ∧ Below w.heap.size w w' := by
  have hby := h0.byte
  have hcell := h0.cell
  go_enter Tryz.func16, Tryz.ntmps16
  go_wp2
  go_loop [3, 4] (fun m i => ∃ (k : Nat) (x : Int), k ≤ l0 ∧ k ≤ 4000 ∧ i = .int .i64 k ∧ m = .int .i64 x ∧ 0 ≤ x ∧ x ≤ 1073741823) (fun _ i => l0 - (intOf i).toNat)
  case atStart => exact ⟨0, _, Nat.zero_le _, by omega, rfl, rfl, by omega, by omega⟩
  case round =>
    obtain ⟨k, x, hk, hk4, rfl, rfl, hx0, hx1⟩ := hrel
    by_cases hlt : k < l0
    · by_cases hl4 : k < 4000
      · rcases hcell with h | ⟨b, off, rfl, hc⟩
        · omega
        have cx := hc k hlt
        have bx := hby.at k
        clear hc
        generalize z0.getD k 0 = y at *
        go_wp2
        go_round
        case rel => exact ⟨k + 1, _, by omega, by omega, by go_num, rfl, (and_mask (x * 137 + y + 11) 1073741823 (by omega)).1, (and_mask (x * 137 + y + 11) 1073741823 (by omega)).2⟩
        case measure => simp [intOf]; omega
      · have i1 : ¬ (k : Int) < 4000 := by omega
        go_wp2
        go_ret
        exact ⟨rfl, cur_new w a0 l0 c0 z0 x h0 hs, (Below.refl _ _).alloc (Nat.le_refl _) _⟩
    · go_wp2
      go_ret
      exact ⟨rfl, cur_new w a0 l0 c0 z0 x h0 hs, (Below.refl _ _).alloc (Nat.le_refl _) _⟩

/-- What a step of the cursor leaves: the cursor, and all other memory as it was. -/
structure Went (w w' : World) (C : Nat) (a0 : Option Addr) (l0 c0 : Nat) (z0 : List Int) : Prop where
  cur : Cur w' C a0 l0 c0 z0
  grown : w.grownBy w' (some C)

theorem Cur.cells {w : World} {C : Nat} {c0 c1 c2 : Value} (h : w.heap[C]? = some (.cells #[c0, c1, c2] 74)) :
    w.cell? ⟨C, 0, none⟩ = some c0 ∧ w.cell? ⟨C, 1, none⟩ = some c1 ∧ w.cell? ⟨C, 2, none⟩ = some c2 ∧ (∀ j, w.frozen? ⟨C, j, none⟩ = false) := by
  refine ⟨?_, ?_, ?_, fun j => ?_⟩ <;> simp [World.cell?, World.frozen?, h]

theorem cur_set2 {w : World} {C : Nat} {a0 : Option Addr} {l0 c0 : Nat} {z0 : List Int} {i h : Int} (hc : Cur w C a0 l0 c0 z0) (hh : w.heap[C]? = some (.cells #[.slice a0 l0 c0, .int .i64 i, .int .i64 h] 74)) (H : Int) (hi : 0 ≤ i ∧ i ≤ l0) :
    (w.setCell ⟨C, 2, none⟩ (.int .i64 H)).heap[C]? = some (.cells #[.slice a0 l0 c0, .int .i64 i, .int .i64 H] 74) ∧ w.grownBy (w.setCell ⟨C, 2, none⟩ (.int .i64 H)) (some C) ∧ Cur (w.setCell ⟨C, 2, none⟩ (.int .i64 H)) C a0 l0 c0 z0 := by
  have e : (w.setCell ⟨C, 2, none⟩ (.int .i64 H)).heap[C]? = some (.cells #[.slice a0 l0 c0, .int .i64 i, .int .i64 H] 74) := by
    have := hc.lt
    simp [World.setCell, Array.getElem?_modify, hh]
  have g : w.grownBy (w.setCell ⟨C, 2, none⟩ (.int .i64 H)) (some C) := grown_setCell (World.grownBy.refl _ _) 2 _
  exact ⟨e, g, ⟨fun w2 h2 => hc.row w2 ((below_of_grown g (Nat.le_refl _) (Nat.le_of_lt hc.lt)).trans h2), hc.small, i, H, hi.1, hi.2, e⟩⟩

theorem cur_set1 {w : World} {C : Nat} {a0 : Option Addr} {l0 c0 : Nat} {z0 : List Int} {i h : Int} (hc : Cur w C a0 l0 c0 z0) (hh : w.heap[C]? = some (.cells #[.slice a0 l0 c0, .int .i64 i, .int .i64 h] 74)) (j : Int) (hj : 0 ≤ j ∧ j ≤ l0) :
    Went w (w.setCell ⟨C, 1, none⟩ (.int .i64 j)) C a0 l0 c0 z0 := by
  have e : (w.setCell ⟨C, 1, none⟩ (.int .i64 j)).heap[C]? = some (.cells #[.slice a0 l0 c0, .int .i64 j, .int .i64 h] 74) := by
    have := hc.lt
    simp [World.setCell, Array.getElem?_modify, hh]
  have g : w.grownBy (w.setCell ⟨C, 1, none⟩ (.int .i64 j)) (some C) := grown_setCell (World.grownBy.refl _ _) 1 _
  exact ⟨⟨fun w2 h2 => hc.row w2 ((below_of_grown g (Nat.le_refl _) (Nat.le_of_lt hc.lt)).trans h2), hc.small, j, h, hj.1, hj.2, e⟩, g⟩

set_option maxRecDepth 100000 in
set_option maxHeartbeats 400000 in
theorem byte_any (C : Nat) (a0 : Option Addr) (l0 c0 : Nat) (z0 : List Int) (w : World) (hc : Cur w C a0 l0 c0 z0) :
    Calls Tryz.prog 61 #[.pointer (some ⟨C, 0, none⟩)] w fun e w' => ∃ x : Int, e = .returned (.int .i64 x) ∧ 0 ≤ x ∧ x ≤ 255 ∧ Went w w' C a0 l0 c0 z0 := by
  obtain ⟨i, h, hi0, hi1, hh⟩ := hc.here
  obtain ⟨k0, k1, k2, kf⟩ := Cur.cells hh
  have kf2 := kf 2
  clear kf
  obtain ⟨k, rfl⟩ : ∃ k : Nat, i = k := ⟨i.toNat, by omega⟩
  go_enter Tryz.func61, Tryz.ntmps61
  go_wp2
  generalize wrap64 (wrap64 (h * 6364136223846793005) + 1442695040888963407) = H
  have st := cur_set2 hc hh H ⟨hi0, hi1⟩
  generalize w.setCell ⟨C, 2, none⟩ (.int .i64 H) = W at *
  obtain ⟨hW, hg, hcw⟩ := st
  clear k0 k1 k2 kf2 hh hc
  obtain ⟨k0, k1, k2, kf⟩ := Cur.cells hW
  have kf1 := kf 1
  clear kf
  have hrow := hcw.row W (Below.refl _ _)
  have hl0 := hcw.small
  have hby := hrow.byte
  have hcell := hrow.cell
  go_quiet (fail)
  go_wp2
  have hx := and_mask (bits BinOp.xor IntKind.i64 (H / 8589934592) (H / 140737488355328)) 255 (by omega)
  generalize bits BinOp.and IntKind.i64 (bits BinOp.xor IntKind.i64 (H / 8589934592) (H / 140737488355328)) 255 = x at *
  by_cases hlt : k < l0
  · rcases hcell with h | ⟨b, off, rfl, hc⟩
    · omega
    have cx := hc k hlt
    have bx := hby.at k
    clear hc
    generalize z0.getD k 0 = y at *
    have g1 : (k : Int) < l0 := by omega
    go_quiet (fail)
    go_wp2
    go_quiet (fail)
    go_wp2
    go_ret
    refine ⟨_, rfl, (and_mask _ 255 (by omega)).1, (and_mask _ 255 (by omega)).2, ?_⟩
    have t := fun n => cur_set1 (hcw.drew n) (by exact hW) ((k : Int) + 1) (by omega)
    exact ⟨(t _).cur, grown_trans (grown_drewN hg _) (t _).grown⟩
  · have g1 : ¬ (k : Int) < l0 := by omega
    go_quiet (fail)
    go_wp2
    go_ret
    exact ⟨x, rfl, hx.1, hx.2, hcw.drew _, grown_drewN hg _⟩

theorem mod_bd (x n : Int) (hx : 0 ≤ x) (hn : 0 < n) : 0 ≤ x % n ∧ x % n < n ∧ x % n ≤ x := by
  refine ⟨Int.emod_nonneg _ (by omega), Int.emod_lt_of_pos _ hn, ?_⟩
  have h1 := Int.emod_add_mul_ediv x n
  have h2 : 0 ≤ x / n := Int.ediv_nonneg hx (by omega)
  have h3 : 0 ≤ n * (x / n) := Int.mul_nonneg (by omega) h2
  omega

theorem Went.trans {a b c : World} {C : Nat} {a0 : Option Addr} {l0 c0 : Nat} {z0 : List Int} (h : Went a b C a0 l0 c0 z0) (k : Went b c C a0 l0 c0 z0) : Went a c C a0 l0 c0 z0 := ⟨k.cur, grown_trans h.grown k.grown⟩

theorem Went.made {a b c : World} {C : Nat} {a0 : Option Addr} {l0 c0 : Nat} {z0 : List Int} (h : Went a b C a0 l0 c0 z0) (k : Below b.heap.size b c) : Went a c C a0 l0 c0 z0 := ⟨h.cur.below k, grown_trans h.grown (grown_of_below C k)⟩

theorem Went.start {a b : World} {C : Nat} {a0 : Option Addr} {l0 c0 : Nat} {z0 : List Int} (h : Cur a C a0 l0 c0 z0) (k : Below a.heap.size a b) : Went a b C a0 l0 c0 z0 := ⟨h.below k, grown_of_below C k⟩

set_option maxRecDepth 100000 in
set_option maxHeartbeats 400000 in
theorem below_any (C : Nat) (a0 : Option Addr) (l0 c0 : Nat) (z0 : List Int) (n : Int) (w : World) (hc : Cur w C a0 l0 c0 z0) (hn : n ≤ 1099511627776) :
    Calls Tryz.prog 31 #[.pointer (some ⟨C, 0, none⟩), .int .i64 n] w fun e w' => ∃ x : Int, e = .returned (.int .i64 x) ∧ 0 ≤ x ∧ (0 < n → x < n) ∧ x ≤ 16777215 ∧ Went w w' C a0 l0 c0 z0 := by
  by_cases k0 : n ≤ 0
  · go_enter Tryz.func31, Tryz.ntmps31
    go_wp2
    go_ret
    exact ⟨0, rfl, by omega, by omega, by omega, Went.start hc (Below.refl _ _)⟩
  by_cases k1 : n ≤ 256
  · go_enter Tryz.func31, Tryz.ntmps31
    go_wp2_with fail
    refine (byte_any C a0 l0 c0 z0 _ hc).mono ?_
    rintro e w1 ⟨x, rfl, hx0, hx1, went⟩
    have hne : (n == 0) = false := by simp; omega
    go_wp2
    go_ret
    exact ⟨_, rfl, (mod_bd x n hx0 (by omega)).1, fun _ => (mod_bd x n hx0 (by omega)).2.1, by have := (mod_bd x n hx0 (by omega)).2.2; omega, went⟩
  · go_enter Tryz.func31, Tryz.ntmps31
    go_wp2_with fail
    refine (byte_any C a0 l0 c0 z0 _ hc).mono ?_
    rintro e w1 ⟨x, rfl, hx0, hx1, went1⟩
    go_wp2_with fail
    refine (byte_any C a0 l0 c0 z0 _ went1.cur).mono ?_
    rintro e w2 ⟨y, rfl, hy0, hy1, went2⟩
    go_wp2_with fail
    refine (byte_any C a0 l0 c0 z0 _ went2.cur).mono ?_
    rintro e w3 ⟨z, rfl, hz0, hz1, went3⟩
    have hne : (n == 0) = false := by simp; omega
    go_wp2
    go_ret
    have hm := mod_bd (x * 65536 + y * 256 + z) n (by omega) (by omega)
    exact ⟨_, rfl, hm.1, fun _ => hm.2.1, by omega, (went1.trans went2).trans went3⟩

set_option maxRecDepth 100000 in
set_option maxHeartbeats 400000 in
theorem once_any (C : Nat) (a0 : Option Addr) (l0 c0 : Nat) (z0 : List Int) (n : Int) (w : World) (hc : Cur w C a0 l0 c0 z0) (hn : n ≤ 1099511627776) :
    Calls Tryz.prog 30 #[.pointer (some ⟨C, 0, none⟩), .int .i64 n] w fun e w' => ∃ x : Bool, e = .returned (.bool x) ∧ Went w w' C a0 l0 c0 z0 := by
  go_enter Tryz.func30, Tryz.ntmps30
  go_wp2_with fail
  refine (below_any C a0 l0 c0 z0 n _ hc hn).mono ?_
  rintro e w1 ⟨x, rfl, hx0, hx1, hx2, went⟩
  go_wp2
  go_ret
  exact ⟨_, rfl, went⟩

/-- A list of numbers laid in a new block. -/
theorem ints_lit (w : World) (xs : List Int) (j : Nat) (hj : j < xs.length) : (w.alloc (.cells (xs.map (Value.int .i64)).toArray 3)).cell? ⟨w.heap.size, j, none⟩ = some (.int .i64 (xs.getD j 0)) := by
  have : (w.alloc (.cells (xs.map (Value.int .i64)).toArray 3)).cell? ⟨w.heap.size, j, none⟩ = (xs.map (Value.int .i64)).toArray[j]? := by simp
  rw [this]
  simp [hj]

set_option maxRecDepth 100000 in
set_option maxHeartbeats 400000 in
theorem int_any (C : Nat) (a0 : Option Addr) (l0 c0 : Nat) (z0 : List Int) (B n : Nat) (xs : List Int) (w : World) (hc : Cur w C a0 l0 c0 z0) (hB : C < B) (hcell : ∀ j, j < n → w.cell? ⟨B, j, none⟩ = some (.int .i64 (xs.getD j 0))) (hxs : xs.length = n) (hn0 : 0 < n) (hn : n ≤ 1000) :
    Calls Tryz.prog 37 #[.pointer (some ⟨C, 0, none⟩), .slice (some ⟨B, 0, none⟩) n n] w fun e w' => ∃ x : Int, x ∈ xs ∧ e = .returned (.int .i64 x) ∧ Went w w' C a0 l0 c0 z0 := by
  have HC := hide hcell
  clear hcell
  go_enter Tryz.func37, Tryz.ntmps37
  go_wp2_with fail
  refine (below_any C a0 l0 c0 z0 n _ hc (by omega)).mono ?_
  rintro e w1 ⟨x, rfl, hx0, hx1, hx2, went⟩
  have hx1 := hx1 (by omega)
  obtain ⟨j, rfl⟩ : ∃ j : Nat, x = j := ⟨x.toNat, by omega⟩
  have cx : w1.cell? ⟨B, j, none⟩ = some (.int .i64 (xs.getD j 0)) := went.grown.cell (HC.out j (by omega)) (by intro e; simp at e; omega)
  have hm : xs.getD j 0 ∈ xs := by
    rw [List.getD_eq_getElem?_getD, List.getElem?_eq_getElem (by omega)]; exact List.getElem_mem _
  generalize xs.getD j 0 = y at *
  go_wp2
  go_ret
  exact ⟨y, hm, rfl, went⟩

theorem Cur.belowAt {w w' : World} {C B : Nat} {a0 : Option Addr} {l0 c0 : Nat} {z0 : List Int} (h : Cur w C a0 l0 c0 z0) (hb : Below B w w') (hC : C < B) : Cur w' C a0 l0 c0 z0 where
  row := fun w2 h2 => h.row w2 ((hb.mono (Nat.le_of_lt hC)).trans h2)
  small := h.small
  here := by
    obtain ⟨i, x, h1, h2, e⟩ := h.here
    exact ⟨i, x, h1, h2, by rw [hb.block C hC]; exact e⟩

theorem Went.madeAt {a b c : World} {C B : Nat} {a0 : Option Addr} {l0 c0 : Nat} {z0 : List Int} (h : Went a b C a0 l0 c0 z0) (k : Below B b c) (hC : C < B) (hB : a.heap.size ≤ B) : Went a c C a0 l0 c0 z0 where
  cur := h.cur.belowAt k hC
  grown := ⟨k.os.trans h.grown.os, k.tape.trans h.grown.tape, k.output.trans h.grown.output, Nat.le_trans h.grown.size k.size, fun j hj hne => (k.block j (by omega)).trans (h.grown.block j hj hne)⟩

theorem Went.own {a b : World} {C : Nat} {a0 : Option Addr} {l0 c0 : Nat} {z0 : List Int} (h : Went a b C a0 l0 c0 z0) {base : Nat} {v : Value} {n : Nat} {xs : List Value} (ho : a.ownsRow base 5 1 v n xs) (hC : C < base) : b.ownsRow base 5 1 v n xs :=
  own_above ho h.grown (by intro k hk; cases hk; exact hC)

set_option maxRecDepth 100000 in
set_option maxHeartbeats 400000 in
theorem bytes_any (C : Nat) (a0 : Option Addr) (l0 c0 : Nat) (z0 : List Int) (x : Int) (m : Nat) (w : World) (hc : Cur w C a0 l0 c0 z0) (hx : x = m) (hm : m ≤ 4000) :
    Calls Tryz.prog 86 #[.pointer (some ⟨C, 0, none⟩), .int .i64 x] w fun e w' => ∃ ao cap zs, e = .returned (.slice ao m cap) ∧ Byt zs ∧ zs.length = m ∧ w'.ownsRow w.heap.size 5 1 (.slice ao m cap) m (cB zs) ∧ Went w w' C a0 l0 c0 z0 := by
  subst hx
  have hlt := hc.lt
  go_enter Tryz.func86, Tryz.ntmps86
  go_wp2
  go_loopw [5, 6] (fun v i wr => ∃ (k : Nat) (zs : List Int) (ao : Option Addr) (cap : Nat), k ≤ m ∧ i = .int .i64 k ∧ v = .slice ao k cap ∧ zs.length = k ∧ Byt zs ∧ wr.ownsRow w.heap.size 5 1 (.slice ao k cap) k (cB zs) ∧ Went w wr C a0 l0 c0 z0) (fun _ i _ => m - (intOf i).toNat)
  case atStart => exact ⟨0, [], _, _, Nat.zero_le _, rfl, rfl, rfl, (by intro z hz; cases hz), World.ownsRow_lit w #[] 0 (Nat.le_refl _) (Nat.zero_le _) rfl, Went.start hc ((Below.refl _ _).alloc (Nat.le_refl _) _)⟩
  case round =>
    obtain ⟨k, zs, ao, cap, hk, rfl, rfl, hz, hby, how, went⟩ := hrel
    by_cases hlk : k < m
    · go_wp2_with fail
      refine (byte_any C a0 l0 c0 z0 _ went.cur).mono ?_
      rintro e w1 ⟨y, rfl, hy0, hy1, went1⟩
      have how1 := went1.own how hlt
      have wn1 := went.trans went1
      have hs1 := wn1.grown.size
      clear how went went1
      go_wp2_with (at_builtin; refine wpList_append_row _ rfl _ _ 22 rfl w.heap.size Tryz.underlying22 Tryz.infoU8 _ k zs rfl (own_below how1 ((Below.refl _ _).alloc (Nat.le_refl _) _)) hby _ 1 1 [y] rfl (row_one w1 y ⟨hy0, hy1⟩) (by omega) (by simp; omega) ?_)
      intro ao2 cp2 w2 how2 row2 hb2
      have wn2 : Went w w2 C a0 l0 c0 z0 := (wn1.made ((Below.refl _ _).alloc (Nat.le_refl _) _)).madeAt hb2 hlt (Nat.le_refl _)
      have hby2 := row2.byte
      clear how1 hb2 row2
      go_wp2
      go_roundw
      case rel => exact ⟨k + 1, zs ++ [y], ao2, cp2, by omega, by go_num, rfl, by simp; omega, hby2, how2, wn2⟩
      case measure => simp [intOf]; omega
    · obtain rfl : k = m := by omega
      go_wp2
      go_ret
      exact ⟨ao, cap, zs, rfl, hby, hz, how, went⟩

/-- One of a list that is laid ahead. -/
theorem pick_any (C : Nat) (a0 : Option Addr) (l0 c0 : Nat) (z0 : List Int) (xs : List Int) (B n : Nat) (w : World) (hc : Cur w C a0 l0 c0 z0) (hB : B = w.heap.size) (hxs : xs.length = n) (hn0 : 0 < n) (hn : n ≤ 1000) :
    Calls Tryz.prog 37 #[.pointer (some ⟨C, 0, none⟩), .slice (some ⟨B, 0, none⟩) n n] (w.alloc (.cells (xs.map (Value.int .i64)).toArray 3)) fun e w' => ∃ x : Int, x ∈ xs ∧ e = .returned (.int .i64 x) ∧ Went w w' C a0 l0 c0 z0 := by
  subst hB hxs
  have hb : Below w.heap.size w (w.alloc (.cells (xs.map (Value.int .i64)).toArray 3)) := (Below.refl _ _).alloc (Nat.le_refl _) _
  refine (int_any C a0 l0 c0 z0 w.heap.size xs.length xs _ (hc.below hb) hc.lt (fun j hj => ints_lit w xs j hj) rfl hn0 hn).mono ?_
  rintro e w' ⟨x, hx, rfl, went⟩
  exact ⟨x, hx, rfl, (Went.start hc hb).trans went⟩

set_option maxRecDepth 100000 in
set_option maxHeartbeats 400000 in
theorem some_any (C : Nat) (a0 : Option Addr) (l0 c0 : Nat) (z0 : List Int) (w : World) (hc : Cur w C a0 l0 c0 z0) :
    Calls Tryz.prog 64 #[.pointer (some ⟨C, 0, none⟩)] w fun e w' => ∃ ao m cap zs, e = .returned (.slice ao m cap) ∧ m ≤ 9 ∧ Byt zs ∧ zs.length = m ∧ w'.ownsRow w.heap.size 5 1 (.slice ao m cap) m (cB zs) ∧ Went w w' C a0 l0 c0 z0 := by
  go_enter Tryz.func64, Tryz.ntmps64
  go_wp2_with fail
  refine (pick_any C a0 l0 c0 z0 [0, 1, 2, 5, 9] _ _ w hc rfl rfl (by simp) (by simp)).mono ?_
  rintro e w1 ⟨x, hx, rfl, went1⟩
  have hx' : 0 ≤ x ∧ x ≤ 9 := by simp at hx; omega
  clear hx
  go_wp2_with fail
  refine (bytes_any C a0 l0 c0 z0 x x.toNat _ went1.cur (by omega) (by omega)).mono ?_
  rintro e w2 ⟨ao, cap, zs, rfl, hby, hz, how, went2⟩
  go_wp2
  go_ret
  exact ⟨ao, _, cap, zs, rfl, by omega, hby, hz, own_lt how went1.grown.size, went1.trans went2⟩

theorem byte_zeros (n : Nat) : Byt (List.replicate n 0) := by
  intro z hz
  have := List.eq_of_mem_replicate hz
  omega

set_option maxRecDepth 100000 in
set_option maxHeartbeats 400000 in
theorem body_any (C : Nat) (a0 : Option Addr) (l0 c0 : Nat) (z0 : List Int) (w : World) (hc : Cur w C a0 l0 c0 z0) :
    Calls Tryz.prog 38 #[.pointer (some ⟨C, 0, none⟩)] w fun e w' => ∃ ao m cap zs, e = .returned (.slice ao m cap) ∧ m ≤ 251 ∧ Byt zs ∧ zs.length = m ∧ w'.ownsRow w.heap.size 5 1 (.slice ao m cap) m (cB zs) ∧ Went w w' C a0 l0 c0 z0 := by
  obtain ⟨i0, hi, hz0, hz1, hz2⟩ := info_parts Tryz.infoU8
  go_enter Tryz.func38, Tryz.ntmps38
  go_wp2_with fail
  refine (once_any C a0 l0 c0 z0 8 _ hc (by omega)).mono ?_
  rintro e w1 ⟨x, rfl, went1⟩
  cases x
  · go_wp2_with fail
    refine (some_any C a0 l0 c0 z0 _ went1.cur).mono ?_
    rintro e w2 ⟨ao, m, cap, zs, rfl, hm, hby, hz, how, went2⟩
    go_wp2
    go_ret
    exact ⟨ao, m, cap, zs, rfl, by omega, hby, hz, own_lt how went1.grown.size, went1.trans went2⟩
  · go_wp2_with fail
    refine (pick_any C a0 l0 c0 z0 [127, 128, 250, 251] _ _ w1 went1.cur rfl rfl (by simp) (by simp)).mono ?_
    rintro e w2 ⟨x, hx, rfl, went2⟩
    have hx' : 0 ≤ x ∧ x ≤ 251 := by simp at hx; omega
    clear hx
    obtain ⟨m, rfl⟩ : ∃ m : Nat, x = m := ⟨x.toNat, by omega⟩
    have wn2 := went1.trans went2
    have hs2 := wn2.grown.size
    go_wp2_with (at_make; refine wpList_make_full _ rfl _ _ 22 rfl w2.heap.size 5 i0 (.int .u8 0) 1 Tryz.underlying22 hi hz0 hz1 .i64 .i64 _ _ m rfl rfl rfl rfl ?c1 ?c2 ?c3 ?_)
    case c1 => first | omega | (rw [hz2]; omega)
    case c2 => unfold maxLen; omega
    case c3 => exact Nat.le_refl _
    intro w3 hown hgrow
    have hb3 : Below w2.heap.size w2 w3 := (Below.refl _ _).grown hgrow (Nat.le_refl _) (by intro k hk; cases hk)
    have hown3 : w3.ownsRow w2.heap.size 5 1 (.slice (some ⟨w2.heap.size, 0, none⟩) m m) m (cB (List.replicate m 0)) := by
      have e : cB (List.replicate m 0) = (madeCells #[.int .u8 0] m).toList := by rw [toList_madeCells_one]; simp [cB]
      rw [e]; simpa [Value.cells] using hown
    clear hown hgrow
    go_wp2
    go_ret
    exact ⟨_, m, m, _, rfl, by omega, byte_zeros m, by simp, own_lt hown3 hs2, wn2.made hb3⟩

set_option maxRecDepth 100000 in
set_option maxHeartbeats 400000 in
theorem num_any (C : Nat) (a0 : Option Addr) (l0 c0 : Nat) (z0 : List Int) (w : World) (hc : Cur w C a0 l0 c0 z0) :
    Calls Tryz.prog 59 #[.pointer (some ⟨C, 0, none⟩)] w fun e w' => ∃ x : Int, e = .returned (.int .i64 x) ∧ -9223372036854775808 ≤ x ∧ x ≤ 9223372036854775807 ∧ Went w w' C a0 l0 c0 z0 := by
  go_enter Tryz.func59, Tryz.ntmps59
  go_wp2_with fail
  refine (below_any C a0 l0 c0 z0 1000 _ hc (by omega)).mono ?_
  rintro e w1 ⟨t, rfl, ht0, ht1, ht2, went1⟩
  go_wp2_with fail
  refine (pick_any C a0 l0 c0 z0 [0, 1, -1, 127, 128, -128, -129, 255, 256, 32767, 32768, -32769, 8388608, 2147483647, -2147483648, 2147483648, -2147483649, 9223372036854775807, -9223372036854775808, t] _ _ w1 went1.cur rfl rfl (by simp) (by simp)).mono ?_
  rintro e w2 ⟨x, hx, rfl, went2⟩
  have hx' : -9223372036854775808 ≤ x ∧ x ≤ 9223372036854775807 := by simp at hx; omega
  clear hx
  go_wp2
  go_ret
  exact ⟨x, rfl, hx'.1, hx'.2, went1.trans went2⟩

set_option maxRecDepth 100000 in
set_option maxHeartbeats 400000 in
theorem at_any (C : Nat) (a0 : Option Addr) (l0 c0 : Nat) (z0 : List Int) (ao : Option Addr) (l cp : Nat) (w : World) (hc : Cur w C a0 l0 c0 z0) (hl : l ≤ 3000000) :
    Calls Tryz.prog 39 #[.pointer (some ⟨C, 0, none⟩), .slice ao l cp] w fun e w' => ∃ x : Int, e = .returned (.int .i64 x) ∧ -9223372036854775808 ≤ x ∧ x ≤ 9223372036854775807 ∧ Went w w' C a0 l0 c0 z0 := by
  go_enter Tryz.func39, Tryz.ntmps39
  go_wp2_with fail
  refine (below_any C a0 l0 c0 z0 _ _ hc (by omega)).mono ?_
  rintro e w1 ⟨t, rfl, ht0, ht1, ht2, went1⟩
  go_wp2_with fail
  refine (pick_any C a0 l0 c0 z0 [0, 0, 0, (l : Int), t, -1, 9223372036854775807] _ _ w1 went1.cur rfl rfl (by simp) (by simp)).mono ?_
  rintro e w2 ⟨x, hx, rfl, went2⟩
  have hx' : -9223372036854775808 ≤ x ∧ x ≤ 9223372036854775807 := by simp at hx; omega
  clear hx
  go_wp2
  go_ret
  exact ⟨x, rfl, hx'.1, hx'.2, went1.trans went2⟩

/-- What is left where the bytes that were handed in may be written, too. -/
structure Left2 (w w' : World) (C base : Nat) (a0 : Option Addr) (l0 c0 : Nat) (z0 : List Int) : Prop where
  cur : Cur w' C a0 l0 c0 z0
  low : Below C w w'
  size : w.heap.size ≤ w'.heap.size

theorem own_take {w : World} {base : Nat} {ao : Option Addr} {n cap : Nat} {zs : List Int} (h : w.ownsRow base 5 1 (.slice ao n cap) n (cB zs)) (k : Nat) (hk : k ≤ n) : w.ownsRow base 5 1 (.slice ao k cap) k (cB (zs.take k)) := by
  have hl : zs.length = n := by have := h.1; simpa [cB] using this
  refine ⟨by simp [cB]; omega, ?_⟩
  rcases h.2 with ⟨e, h0⟩ | ⟨g, cap', cur, e, hg, hh, h1, h2, h3, h4⟩
  · cases e
    exact .inl ⟨by simp; omega, by omega⟩
  · cases e
    refine .inr ⟨g, cap, cur, rfl, hg, hh, by omega, h2, h3, ?_⟩
    have e2 : cB (zs.take k) = (cB zs).take k := by simp [cB]
    rw [e2, ← h4, List.take_take]
    congr 1
    omega

theorem byte_set {zs : List Int} (h : Byt zs) (j : Nat) {x : Int} (hx : 0 ≤ x ∧ x ≤ 255) : Byt (zs.set j x) := by
  intro z hz
  rcases List.mem_or_eq_of_mem_set hz with hm | rfl
  · exact h z hm
  · exact hx

theorem byte_take {zs : List Int} (h : Byt zs) (k : Nat) : Byt (zs.take k) := fun z hz => h z (List.mem_of_mem_take hz)

set_option maxRecDepth 100000 in
set_option maxHeartbeats 800000 in
theorem bend_any (C : Nat) (a0 : Option Addr) (l0 c0 : Nat) (z0 : List Int) (base : Nat) (ao : Option Addr) (n cap : Nat) (zs : List Int) (w : World) (hc : Cur w C a0 l0 c0 z0) (hCb : C < base) (hbw : base ≤ w.heap.size) (how : w.ownsRow base 5 1 (.slice ao n cap) n (cB zs)) (hby : Byt zs) (hn : n ≤ 2000) :
    Calls Tryz.prog 32 #[.pointer (some ⟨C, 0, none⟩), .slice ao n cap] w fun e w' => ∃ ao' n' cap' zs', e = .returned (.slice ao' n' cap') ∧ n' ≤ 2001 ∧ Byt zs' ∧ zs'.length = n' ∧ w'.ownsRow base 5 1 (.slice ao' n' cap') n' (cB zs') ∧ Cur w' C a0 l0 c0 z0 ∧ Below C w w' := by
  have hz : zs.length = n := by have := how.1; simpa [cB] using this
  by_cases h0 : n = 0
  · subst h0
    go_enter Tryz.func32, Tryz.ntmps32
    go_wp2
    go_ret
    exact ⟨ao, 0, cap, zs, rfl, by omega, hby, hz, how, hc, Below.refl _ _⟩
  have hne : ((n : Int) == 0) = false := by simp; omega
  obtain ⟨g, rfl, hgb, hcap⟩ : ∃ g, ao = some ⟨g, 0, none⟩ ∧ base ≤ g ∧ n ≤ cap := by
    rcases how.2 with ⟨e, h⟩ | ⟨g, cap', cur, e, hg, hh, h1, h2⟩
    · exact absurd h h0
    · cases e; exact ⟨g, rfl, hg, h1⟩
  go_enter Tryz.func32, Tryz.ntmps32
  go_wp2_with fail
  refine (below_any C a0 l0 c0 z0 5 _ hc (by omega)).mono ?_
  rintro e w1 ⟨d, rfl, hd0, hd1, -, went1⟩
  have hd1 := hd1 (by omega)
  have how1 := went1.own how hCb
  have low1 : Below C w w1 := below_of_grown went1.grown (Nat.le_refl _) (Nat.le_of_lt hc.lt)
  have hs1 := went1.grown.size
  clear how
  have hd : d = 0 ∨ d = 1 ∨ d = 2 ∨ (d = 3 ∨ d = 4) := by omega
  clear hd0 hd1
  rcases hd with rfl | rfl | rfl | hd
  · go_wp2_with fail
    refine (below_any C a0 l0 c0 z0 _ _ went1.cur (by omega)).mono ?_
    rintro e w2 ⟨x, rfl, hx0, hx1, -, went2⟩
    have hx1 := hx1 (by omega)
    obtain ⟨j, rfl⟩ : ∃ j : Nat, x = j := ⟨x.toNat, by omega⟩
    go_wp2_with fail
    refine (pick_any C a0 l0 c0 z0 [0, 1, 2, 4, 5, 6, 48, 127, 128, 129, 160, 255] _ _ w2 went2.cur rfl rfl (by simp) (by simp)).mono ?_
    rintro e w3 ⟨x, hx, rfl, went3⟩
    have hx' : 0 ≤ x ∧ x ≤ 255 := by simp at hx; omega
    clear hx
    have wn := went2.trans went3
    have how3 := wn.own how1 hCb
    have low3 : Below C w w3 := low1.trans (below_of_grown wn.grown (Nat.le_refl _) (Nat.le_of_lt went1.cur.lt))
    have cf := how3.frozenAt j
    have cc : w3.cell? ⟨g, j, none⟩ = some (.int .u8 (zs.getD j 0)) := by rw [how3.cellAt j (by omega)]; exact cB_get zs j (by omega)
    have R := (how3.stored j (.int .u8 x)).1
    have hst : Below base w3 (w3.setCell ⟨g, j, none⟩ (.int .u8 x)) := (Below.refl _ _).setCell hgb _
    have cur3 := went3.cur
    clear how1 how3 went2 went3 wn
    go_wp2
    go_ret
    exact ⟨_, n, cap, zs.set j x, rfl, by omega, byte_set hby j hx', by simp; exact hz, by simpa [cB, List.map_set] using R, cur3.belowAt hst hCb, low3.trans (hst.mono (Nat.le_of_lt hCb))⟩
  · go_wp2_with (at_builtin; refine wpList_append_row _ rfl _ _ 22 rfl base Tryz.underlying22 Tryz.infoU8 _ n zs rfl (own_below how1 ((Below.refl _ _).alloc (Nat.le_refl _) _)) hby _ 1 1 [3] rfl (row_one w1 3 (by omega)) (by omega) (by simp; omega) ?_)
    intro ao2 cp2 w2 how2 row2 hb2
    have hba : Below w1.heap.size w1 (w1.alloc (.cells #[.int .u8 3] 5)) := (Below.refl _ _).alloc (Nat.le_refl _) _
    have cur2 := (went1.cur.below hba).belowAt hb2 hCb
    have low2 : Below C w w2 := (low1.trans (hba.mono (Nat.le_of_lt went1.cur.lt))).trans (hb2.mono (Nat.le_of_lt hCb))
    have hz2 := row2.size
    have hby2 := row2.byte
    clear how1 hb2 hba row2
    go_wp2
    go_ret
    exact ⟨ao2, n + 1, cp2, _, rfl, by omega, hby2, hz2, how2, cur2, low2⟩
  · go_wp2_with fail
    refine (below_any C a0 l0 c0 z0 _ _ went1.cur (by omega)).mono ?_
    rintro e w2 ⟨x, rfl, hx0, hx1, -, went2⟩
    have hx1 := hx1 (by omega)
    obtain ⟨j, rfl⟩ : ∃ j : Nat, x = j := ⟨x.toNat, by omega⟩
    have how2 := went2.own how1 hCb
    have low2 : Below C w w2 := low1.trans (below_of_grown went2.grown (Nat.le_refl _) (Nat.le_of_lt went1.cur.lt))
    have hjc : (j : Int) ≤ cap := by omega
    have hc0 : ¬ cap = 0 := by omega
    go_wp2
    go_ret
    exact ⟨_, j, cap, zs.take j, rfl, by omega, byte_take hby j, by simp; omega, own_take how2 j (by omega), went2.cur, low2⟩
  · have e0 : (d == 0) = false := by simp; omega
    have e1 : (d == 1) = false := by simp; omega
    have e2 : (d == 2) = false := by simp; omega
    clear hd
    go_wp2
    go_ret
    exact ⟨_, n, cap, zs, rfl, by omega, hby, hz, how1, went1.cur, low1⟩

theorem Went.ownI {a b : World} {C : Nat} {a0 : Option Addr} {l0 c0 : Nat} {z0 : List Int} (h : Went a b C a0 l0 c0 z0) {base : Nat} {v : Value} {n : Nat} {xs : List Value} (ho : a.ownsRow base 3 1 v n xs) (hC : C < base) : b.ownsRow base 3 1 v n xs :=
  own_above ho h.grown (by intro k hk; cases hk; exact hC)

def OkNs (zs : List Int) : Prop := ∀ z ∈ zs, 0 ≤ z ∧ z ≤ 100000

theorem OkNs.i64 {zs : List Int} (h : OkNs zs) : I64s zs := fun z hz => by have := h z hz; omega
theorem OkNs.snoc {zs : List Int} {x : Int} (h : OkNs zs) (hx : 0 ≤ x ∧ x ≤ 100000) : OkNs (zs ++ [x]) := by
  intro z hz
  rcases List.mem_append.1 hz with h1 | h1
  · exact h z h1
  · simp at h1; rw [h1]; exact hx

/-- A list of numbers that was drawn: how long it may be, what it is. -/
def DrawnI (w w' : World) (C : Nat) (a0 : Option Addr) (l0 c0 : Nat) (z0 : List Int) (lo hi : Nat) (p : List Int → Prop) (e : Ending) : Prop :=
  ∃ ao n cap zs, e = .returned (.slice ao n cap) ∧ lo ≤ n ∧ n ≤ hi ∧ zs.length = n ∧ p zs ∧ w'.ownsRow w.heap.size 3 1 (.slice ao n cap) n (cI zs) ∧ Went w w' C a0 l0 c0 z0

set_option maxRecDepth 100000 in
set_option maxHeartbeats 1000000 in
theorem oidDraw_any (C : Nat) (a0 : Option Addr) (l0 c0 : Nat) (z0 : List Int) (w : World) (hc : Cur w C a0 l0 c0 z0) :
    Calls Tryz.prog 42 #[.pointer (some ⟨C, 0, none⟩)] w fun e w' => DrawnI w w' C a0 l0 c0 z0 1 6 OkNs e := by
  have hlt := hc.lt
  have hst := Went.start hc ((Below.refl w.heap.size w).alloc (Nat.le_refl _) (.cells #[] 3))
  have hown0 : (w.alloc (.cells #[] 3)).ownsRow w.heap.size 3 1 (.slice (some ⟨w.heap.size, 0, none⟩) 0 0) 0 (cI []) := World.ownsRow_lit w #[] 0 (Nat.le_refl _) (Nat.zero_le _) rfl
  go_enter Tryz.func42, Tryz.ntmps42
  go_wp2_with fail
  refine (below_any C a0 l0 c0 z0 6 _ hst.cur (by omega)).mono ?_
  rintro e w1 ⟨x, rfl, hx0, hx1, hx2, went1⟩
  have hx6 := hx1 (by omega)
  obtain ⟨m, rfl⟩ : ∃ m : Nat, x = m := ⟨x.toNat, by omega⟩
  have how1 := went1.ownI hown0 hlt
  have wn1 := hst.trans went1
  clear hx1 hx2 hown0 hst went1
  go_wp2
  go_loopw [3, 4] (fun v i wr => ∃ (k j : Nat) (zs : List Int) (ao : Option Addr) (cap : Nat), k + j = 1 + m ∧ i = .int .i64 j ∧ v = .slice ao k cap ∧ zs.length = k ∧ OkNs zs ∧ wr.ownsRow w.heap.size 3 1 (.slice ao k cap) k (cI zs) ∧ Went w wr C a0 l0 c0 z0) (fun _ i _ => (intOf i).toNat)
  case atStart => exact ⟨0, 1 + m, [], _, _, by omega, by simp, rfl, rfl, (by intro z hz; cases hz), how1, wn1⟩
  case round =>
    obtain ⟨k, j, zs, ao, cap, hk, rfl, rfl, hz, hok, how, went⟩ := hrel
    clear how1 wn1
    by_cases hj : 0 < j
    · go_wp2_with fail
      refine (pick_any C a0 l0 c0 z0 [0, 1, 2, 3, 127, 128, 16384, 100000] _ _ wr went.cur rfl rfl (by simp) (by simp)).mono ?_
      rintro e w2 ⟨y, hy, rfl, went2⟩
      have hy' : 0 ≤ y ∧ y ≤ 100000 := by simp at hy; omega
      clear hy
      have how2 := went2.ownI how hlt
      have wn2 := went.trans went2
      have hs2 := wn2.grown.size
      clear how went went2
      go_wp2_with (at_builtin; refine wpList_append_irow _ rfl _ _ 70 rfl w.heap.size Tryz.underlying70 Tryz.infoI64 _ k zs rfl (how2.alloc _) hok.i64 _ 1 1 [y] rfl (irow_one w2 y (by omega)) (by omega) (by simp; omega) ?_)
      intro ao3 cp3 w3 how3 row3 hb3
      have wn3 : Went w w3 C a0 l0 c0 z0 := (wn2.made ((Below.refl _ _).alloc (Nat.le_refl _) _)).madeAt hb3 hlt (Nat.le_refl _)
      clear how2 hb3 row3
      go_wp2
      go_roundw
      case rel => exact ⟨k + 1, j - 1, zs ++ [y], ao3, cp3, by omega, by go_num, rfl, by simp; omega, hok.snoc hy', how3, wn3⟩
      case measure => simp [intOf]; omega
    · have hj0 : ¬ (0 : Int) < j := by omega
      go_wp2
      go_ret
      exact ⟨ao, k, cap, zs, rfl, by omega, by omega, hz, hok, how, went⟩

def sliceLen : Value → Nat
  | .slice _ n _ => n
  | _ => 0

theorem lit_own (w : World) (base : Nat) (h : base ≤ w.heap.size) : (w.alloc (.cells #[] 3)).ownsRow base 3 1 (.slice (some ⟨w.heap.size, 0, none⟩) 0 0) 0 (cI []) := World.ownsRow_lit w #[] 0 h (Nat.zero_le _) rfl

theorem i64_snoc {zs : List Int} {x : Int} (h : I64s zs) (hx : -9223372036854775808 ≤ x ∧ x ≤ 9223372036854775807) : I64s (zs ++ [x]) := by
  intro z hz
  rcases List.mem_append.1 hz with h1 | h1
  · exact h z h1
  · simp at h1; rw [h1]; exact hx

theorem i64_set {zs : List Int} {x : Int} (h : I64s zs) (hx : -9223372036854775808 ≤ x ∧ x ≤ 9223372036854775807) : I64s (zs.set 0 x) := by
  intro z hz
  rcases List.mem_or_eq_of_mem_set hz with h1 | h1
  · exact h z h1
  · rw [h1]; exact hx

set_option maxRecDepth 100000 in
set_option maxHeartbeats 1000000 in
theorem oidAny_any (C : Nat) (a0 : Option Addr) (l0 c0 : Nat) (z0 : List Int) (w : World) (hc : Cur w C a0 l0 c0 z0) :
    Calls Tryz.prog 40 #[.pointer (some ⟨C, 0, none⟩)] w fun e w' => DrawnI w w' C a0 l0 c0 z0 0 11 I64s e := by
  have hlt := hc.lt
  go_enter Tryz.func40, Tryz.ntmps40
  go_wp2_with fail
  refine (oidDraw_any C a0 l0 c0 z0 _ hc).mono ?_
  rintro e w1 ⟨ao, n, cap, zs, rfl, hn1, hn6, hz, hok, how1, went1⟩
  have hs1 := went1.grown.size
  go_wp2_with fail
  refine (below_any C a0 l0 c0 z0 10 _ went1.cur (by omega)).mono ?_
  rintro e w2 ⟨x, rfl, hx0, hx1, hx2, went2⟩
  have how2 := went2.ownI how1 hlt
  have wn2 := went1.trans went2
  have hs2 := wn2.grown.size
  clear how1 went1 went2 hx1 hx2
  by_cases e0 : x = 0
  · subst e0
    go_wp2
    go_ret
    exact ⟨_, 0, _, [], rfl, Nat.le_refl _, by omega, rfl, (by intro z hz; cases hz), lit_own w2 _ hs2, wn2.made ((Below.refl _ _).alloc (Nat.le_refl _) _)⟩
  have x0 : (x == 0) = false := by simp [e0]
  by_cases e1 : x = 1
  · subst e1
    go_wp2_with fail
    refine (pick_any C a0 l0 c0 z0 [-1, 100001] _ _ w2 wn2.cur rfl rfl (by simp) (by simp)).mono ?_
    rintro e w3 ⟨y, hy, rfl, went3⟩
    have hy' : -1 ≤ y ∧ y ≤ 100001 := by simp at hy; omega
    clear hy
    have how3 := went3.ownI how2 hlt
    have wn3 := wn2.trans went3
    clear how2 wn2 went3
    obtain ⟨g, rfl, hg⟩ : ∃ g, ao = some ⟨g, 0, none⟩ ∧ w.heap.size ≤ g := by
      rcases how3.2 with ⟨h, h0⟩ | ⟨g, cap', cur, h, hg, _⟩
      · omega
      · cases h; exact ⟨g, rfl, hg⟩
    have cf := how3.frozenAt 0
    obtain ⟨u, cu⟩ : ∃ u, w3.cell? ⟨g, 0, none⟩ = some u := by
      rw [how3.cellAt 0 (by omega)]
      exact ⟨_, List.getElem?_eq_getElem (by rw [cI_length]; omega)⟩
    have R := (how3.stored 0 (.int .i64 y)).1
    have hset : (cI zs).set 0 (.int .i64 y) = cI (zs.set 0 y) := by simp [cI, List.map_set]
    rw [hset] at R
    have hb4 := (Below.refl w.heap.size w3).setCell (p := ⟨g, 0, none⟩) hg (.int .i64 y)
    clear how3 hset
    go_wp2
    go_ret
    exact ⟨_, n, cap, zs.set 0 y, rfl, by omega, by omega, by simp [hz], i64_set hok.i64 (by omega), R, wn3.madeAt hb4 hlt (Nat.le_refl _)⟩
  have x1 : (x == 1) = false := by simp [e1]
  by_cases e2 : x = 2
  · subst e2
    go_wp2
    go_loopw [3] (fun v wr => ∃ (k : Nat) (ys : List Int) (ao : Option Addr) (cap : Nat), k ≤ 11 ∧ v = .slice ao k cap ∧ ys.length = k ∧ I64s ys ∧ wr.ownsRow w.heap.size 3 1 (.slice ao k cap) k (cI ys) ∧ Went w wr C a0 l0 c0 z0) (fun v _ => 11 - sliceLen v)
    case atStart => exact ⟨n, zs, ao, cap, by omega, rfl, hz, hok.i64, how2, wn2⟩
    case round =>
      obtain ⟨k, ys, ao, cap, hk, rfl, hyl, hyi, how, went⟩ := hrel
      clear how2 wn2
      go_wp2_with fail
      refine (below_any C a0 l0 c0 z0 2 _ went.cur (by omega)).mono ?_
      rintro e w3 ⟨y, rfl, hy0, hy1, hy2, went3⟩
      have hy1 := hy1 (by omega)
      have how3 := went3.ownI how hlt
      have wn3 := went.trans went3
      have hs3 := wn3.grown.size
      clear how went went3
      by_cases hky : (k : Int) < 10 + y
      · go_wp2_with (at_builtin; refine wpList_append_irow _ rfl _ _ 70 rfl w.heap.size Tryz.underlying70 Tryz.infoI64 _ k ys rfl (how3.alloc _) hyi _ 1 1 [1] rfl (irow_one w3 1 (by omega)) (by omega) (by simp; omega) ?_)
        intro ao4 cp4 w4 how4 row4 hb4
        have wn4 : Went w w4 C a0 l0 c0 z0 := (wn3.made ((Below.refl _ _).alloc (Nat.le_refl _) _)).madeAt hb4 hlt (Nat.le_refl _)
        clear how3 hb4 row4
        go_wp2
        go_roundw
        case rel => exact ⟨k + 1, ys ++ [1], ao4, cp4, by omega, rfl, by simp; omega, i64_snoc hyi (by omega), how4, wn4⟩
        case measure => simp [sliceLen]; omega
      · go_wp2
        go_ret
        exact ⟨ao, k, cap, ys, rfl, by omega, by omega, hyl, hyi, how3, wn3⟩
  · have x2 : (x == 2) = false := by simp [e2]
    go_wp2
    go_ret
    exact ⟨ao, n, cap, zs, rfl, by omega, by omega, hz, hok.i64, how2, wn2⟩

theorem IRow.belowAt {w3 w w' : World} {ao : Option Addr} {len cap : Nat} {zs : List Int} (h : IRow w ao len cap zs) (h3 : IRow w3 ao len cap zs) (hb : Below w3.heap.size w w') : IRow w' ao len cap zs where
  size := h.size
  le := h.le
  top := h.top
  nil := h.nil
  byte := h.byte
  cell := by
    rcases h.cell with h0 | ⟨b, off, ha, hc⟩
    · exact .inl h0
    · refine .inr ⟨b, off, ha, fun i hi => ?_⟩
      rcases h3.cell with h0 | ⟨b', off', ha', hc'⟩
      · omega
      · rw [ha] at ha'
        cases ha'
        have h1 : b < w3.heap.size := block_lt (hc' i hi)
        rw [hb.cell (p := ⟨b, off + i, none⟩) h1]
        exact hc i hi

/-- Two lists that were drawn of the same bytes. -/
def DrawnTwo (w w' : World) (e : Ending) : Prop :=
  ∃ ao1 n1 c1 z1 ao2 n2 c2 z2, e = .returned (.tuple #[.slice ao1 n1 c1, .slice ao2 n2 c2]) ∧ n1 ≤ 12 ∧ n2 ≤ 12 ∧ IRow w' ao1 n1 c1 z1 ∧ IRow w' ao2 n2 c2 z2 ∧ Below w.heap.size w w'

def strOk : Value → Bool
  | .string S => decide (S.size ≤ 30)
  | _ => false

theorem strOk_is {v : Value} (h : strOk v = true) : ∃ S : ByteArray, v = .string S ∧ S.size ≤ 30 := by
  cases v with
  | string S => exact ⟨S, rfl, of_decide_eq_true h⟩
  | _ => cases h

set_option maxRecDepth 100000 in
set_option maxHeartbeats 400000 in
theorem pickS_any (C : Nat) (a0 : Option Addr) (l0 c0 : Nat) (z0 : List Int) (cs : Array Value) (B n : Nat) (w : World) (hc : Cur w C a0 l0 c0 z0) (hB : B = w.heap.size) (hn : cs.size = n) (hall : cs.all strOk = true) (hn0 : 0 < n) (hn1 : n ≤ 1000) :
    Calls Tryz.prog 17 #[.pointer (some ⟨C, 0, none⟩), .slice (some ⟨B, 0, none⟩) n n] (w.alloc (.cells cs 9)) fun e w' => ∃ S : ByteArray, S.size ≤ 30 ∧ e = .returned (.string S) ∧ Went w w' C a0 l0 c0 z0 := by
  subst hB
  have hb : Below w.heap.size w (w.alloc (.cells cs 9)) := (Below.refl _ _).alloc (Nat.le_refl _) _
  have hst := Went.start hc hb
  have hlt := hc.lt
  have hcell : ∀ j, j < n → ∃ S : ByteArray, (w.alloc (.cells cs 9)).cell? ⟨w.heap.size, j, none⟩ = some (.string S) ∧ S.size ≤ 30 := by
    intro j hj
    have hj' : j < cs.size := by omega
    have h1 : strOk cs[j] = true := (Array.all_eq_true.1 hall) j hj'
    obtain ⟨S, e, hS⟩ := strOk_is h1
    refine ⟨S, ?_, hS⟩
    have : (w.alloc (.cells cs 9)).cell? ⟨w.heap.size, j, none⟩ = cs[j]? := by simp
    rw [this, Array.getElem?_eq_getElem hj', e]
  have HC := hide hcell
  clear hcell hall
  generalize w.alloc (.cells cs 9) = w1 at *
  go_enter Tryz.func17, Tryz.ntmps17
  go_wp2_with fail
  refine (below_any C a0 l0 c0 z0 n _ hst.cur (by omega)).mono ?_
  rintro e w2 ⟨x, rfl, hx0, hx1, hx2, went⟩
  have hx1 := hx1 (by omega)
  obtain ⟨j, rfl⟩ : ∃ j : Nat, x = j := ⟨x.toNat, by omega⟩
  obtain ⟨S, hS, hSs⟩ := HC.out j (by omega)
  have cx : w2.cell? ⟨w.heap.size, j, none⟩ = some (.string S) := went.grown.cell hS (by intro e; simp at e; omega)
  clear hS
  go_wp2
  go_ret
  exact ⟨S, hSs, rfl, hst.trans went⟩

end Go.Proofs.YtamglfhnhjgdjaaGreatDoor
