/-
  The law file's own helpers by their contracts: a copy of bytes, whether two slices are the same, the marks that are put and read again.
-/
import Derived.Test.YtamglfhnhjgdjaaBase
namespace Go.Proofs.Ytamglfhnhjgdjaa
open Go.RowKit

theorem take_succ_getD (l : List Int) (k : Nat) (h : k < l.length) : l.take (k + 1) = l.take k ++ [l.getD k 0] := by
  rw [List.take_succ_eq_append_getElem h]; simp [h]

theorem eq_of_takes {a b : List Int} (hl : a.length = b.length) (h : a.take a.length = b.take a.length) : a = b := by
  rw [List.take_length, hl, List.take_length] at h; exact h

theorem ne_at {a b : List Int} (k : Nat) (h : ¬ a.getD k 0 = b.getD k 0) : ¬ a = b := by
  intro e; exact h (by rw [e])

theorem ret_bool {a b : Bool} (h : a = b) : Ending.returned (.bool a) = .returned (.bool b) := by rw [h]
theorem ret_int {k : IntKind} {a b : Int} (h : a = b) : Ending.returned (.int k a) = .returned (.int k b) := by rw [h]

set_option maxRecDepth 100000 in
set_option maxHeartbeats 400000 in
theorem eq_any (a1 : Option Addr) (l1 c1 : Nat) (z1 : List Int) (a2 : Option Addr) (l2 c2 : Nat) (z2 : List Int) (w : World) (h1 : Row w a1 l1 c1 z1) (h2 : Row w a2 l2 c2 z2) :
    Calls Try.prog 18 #[.slice a1 l1 c1, .slice a2 l2 c2] w fun e w' => e = .returned (.bool (decide (z1 = z2))) ∧ ∃ n, w' = w.drewN n := by
  have m1 := h1.top; have m2 := h2.top; have s1 := h1.size; have s2 := h2.size; have e1 := h1.le; have e2 := h2.le
  unfold maxLen at m1 m2
  by_cases hl : l1 = l2
  · subst hl
    by_cases h0 : l1 = 0
    · subst h0
      have hz : z1 = z2 := by rw [List.eq_nil_of_length_eq_zero s1, List.eq_nil_of_length_eq_zero s2]
      go_enter Try.func18, Try.ntmps18
      go_wp2
      go_loop [5] (fun i => i = .int .i64 0) (fun _ => 0)
      case atStart => rfl
      case round =>
        subst hrel
        go_wp2
        go_ret
        exact ⟨by simp, 0, rfl⟩
    · rcases h1.cell with h | ⟨b1, o1, rfl, g1⟩
      · exact absurd h h0
      rcases h2.cell with h | ⟨b2, o2, rfl, g2⟩
      · exact absurd h h0
      clear h1 h2
      have G1 : Hid (∀ i, i < l1 → w.cell? ⟨b1, o1 + i, none⟩ = some (.int .u8 (z1.getD i 0))) := g1
      have G2 : Hid (∀ i, i < l1 → w.cell? ⟨b2, o2 + i, none⟩ = some (.int .u8 (z2.getD i 0))) := g2
      clear g1 g2
      go_enter Try.func18, Try.ntmps18
      go_wp2
      go_loopw [5] (fun i wr => ∃ k : Nat, k ≤ l1 ∧ i = .int .i64 k ∧ z1.take k = z2.take k ∧ ∃ n, wr = w.drewN n) (fun i _ => l1 - (intOf i).toNat)
      case atStart => exact ⟨0, Nat.zero_le _, rfl, rfl, 0, rfl⟩
      case round =>
        obtain ⟨k, hk, rfl, ht, n, rfl⟩ := hrel
        have HT : Hid (z1.take k = z2.take k) := ht
        clear ht
        by_cases hlt : k < l1
        · have c1 := G1.out k hlt
          have c2 := G2.out k hlt
          generalize hx : z1.getD k 0 = x at c1
          generalize hy : z2.getD k 0 = y at c2
          have HX : Hid (z1.getD k 0 = x) := hx
          have HY : Hid (z2.getD k 0 = y) := hy
          clear hx hy
          by_cases hq : x = y
          · subst hq
            go_wp2
            go_quiet (fail)
            go_wp2
            go_roundw
            case rel => exact ⟨k + 1, by omega, by go_num, by rw [take_succ_getD _ _ (by omega), take_succ_getD _ _ (by omega), HT.out, HX.out, HY.out], _, rfl⟩
            case measure => simp [intOf]; omega
          · have hne : (x != y) = true := by simp [hq]
            go_wp2
            go_quiet (fail)
            go_wp2
            go_ret
            exact ⟨ret_bool (decide_eq_false (ne_at k (by rw [HX.out, HY.out]; exact hq))).symm, _, World.drewN_drewN _ _ _⟩
        · go_wp2
          go_ret
          have hk' : k = l1 := by omega
          exact ⟨ret_bool (decide_eq_true (eq_of_takes (by omega) (by rw [s1, ← hk']; exact HT.out))).symm, _, rfl⟩
  · have hne : ((l1 : Int) != (l2 : Int)) = true := by simp; omega
    have hz : ¬ z1 = z2 := by intro e; rw [e] at s1; omega
    go_enter Try.func18, Try.ntmps18
    go_wp2
    go_ret
    exact ⟨ret_bool (decide_eq_false hz).symm, 0, rfl⟩

/-- A copy on its way: k of n bytes are laid. -/
def half (zs : List Int) (n k : Nat) : List Value := cB (zs.take k) ++ List.replicate (n - k) (.int .u8 0)

theorem half_length (zs : List Int) (n k : Nat) (h : zs.length = n) (hk : k ≤ n) : (half zs n k).length = n := by
  simp [half, cB_length]; omega

theorem half_set (zs : List Int) (n k : Nat) (h : zs.length = n) (hk : k < n) : (half zs n k).set k (.int .u8 (zs.getD k 0)) = half zs n (k + 1) := by
  have hl : (cB (zs.take k)).length = k := by simp [cB_length]; omega
  unfold half
  rw [List.set_append_right _ _ (by omega), hl, Nat.sub_self, take_succ_getD _ _ (by omega), cB_append]
  obtain ⟨m, hm⟩ : ∃ m, n - k = m + 1 := ⟨n - k - 1, by omega⟩
  have hm' : n - (k + 1) = m := by omega
  rw [hm, hm', List.replicate_succ, List.set_cons_zero]
  simp [cB]

theorem half_all (zs : List Int) (n : Nat) (h : zs.length = n) : half zs n n = cB zs := by
  simp [half, ← h]

theorem half_none (zs : List Int) (n : Nat) : half zs n 0 = List.replicate n (.int .u8 0) := by
  simp [half, cB]

/-- The marks that are put into n bytes, from k on. -/
def marks (k : Int) (n : Nat) : List Int := (List.range n).map fun i : Nat => IntKind.u8.wrap (k + i)

theorem marks_length (k : Int) (n : Nat) : (marks k n).length = n := by simp [marks]
theorem marks_get (k : Int) (n i : Nat) (h : i < n) : (marks k n).getD i 0 = IntKind.u8.wrap (k + i) := by
  simp [marks, List.getD_eq_getElem?_getD, List.getElem?_map, List.getElem?_range h]
theorem marks_succ (k : Int) (n : Nat) : marks k (n + 1) = marks k n ++ [IntKind.u8.wrap (k + n)] := by
  simp [marks, List.range_succ]
theorem wrap_byte (x : Int) : 0 ≤ IntKind.u8.wrap x ∧ IntKind.u8.wrap x ≤ 255 := by
  simp [IntKind.wrap, IntKind.bits, IntKind.signed]; omega
theorem marks_byte (k : Int) (n : Nat) : Byt (marks k n) := by
  intro z hz
  simp only [marks, List.mem_map] at hz
  obtain ⟨i, _, rfl⟩ := hz
  exact wrap_byte _

/-- Marks on their way: j of them are put, the rest is as it was. -/
def marked (k : Int) (zs : List Int) (j : Nat) : List Int := marks k j ++ zs.drop j

theorem marked_set (k : Int) (zs : List Int) (j : Nat) (h : j < zs.length) : (cB (marked k zs j)).set j (.int .u8 (IntKind.u8.wrap (k + j))) = cB (marked k zs (j + 1)) := by
  have hl : (cB (marks k j)).length = j := by rw [cB_length, marks_length]
  unfold marked
  rw [cB_append, List.set_append_right _ _ (by omega), hl, Nat.sub_self, marks_succ, cB_append, cB_append]
  rw [List.drop_eq_getElem_cons h]
  simp only [cB, List.map_cons, List.set_cons_zero, List.map_nil, List.append_assoc, List.cons_append, List.nil_append]

theorem marked_length (k : Int) (zs : List Int) (j : Nat) (h : j ≤ zs.length) : (marked k zs j).length = zs.length := by
  simp [marked, marks_length]; omega

theorem grown_setCell {w0 w : World} {g : Nat} (h : w0.grownBy w (some g)) (j : Nat) (u : Value) : w0.grownBy (w.setCell ⟨g, j, none⟩ u) (some g) where
  os := h.os
  tape := h.tape
  output := h.output
  size := by have := h.size; simpa using this
  block := fun k hk hne => by
    rw [Below.heap_setCell _ _ _ _ (by intro e; exact hne (by rw [e]))]
    exact h.block k hk hne

set_option maxRecDepth 100000 in
set_option maxHeartbeats 400000 in
theorem mark_any (base g n cap : Nat) (zs : List Int) (k : Int) (w : World) (hown : w.ownsRow base 5 1 (.slice (some ⟨g, 0, none⟩) n cap) n (cB zs)) (hn : n ≤ 16777216) (hk0 : 0 ≤ k) (hk1 : k ≤ 1099511627776) :
    Calls Try.prog 20 #[.slice (some ⟨g, 0, none⟩) n cap, .int .i64 k] w fun e w' => e = .returned (.int .i64 (k + n)) ∧
      w'.ownsRow base 5 1 (.slice (some ⟨g, 0, none⟩) n cap) n (cB (marks k n)) ∧ w.grownBy w' (some g) := by
  have hl : zs.length = n := by have := hown.1; simpa [cB] using this
  go_enter Try.func20, Try.ntmps20
  go_wp2
  go_loopw [1, 5] (fun m i wr => ∃ j : Nat, j ≤ n ∧ i = .int .i64 j ∧ m = .int .i64 (k + j) ∧ wr.ownsRow base 5 1 (.slice (some ⟨g, 0, none⟩) n cap) n (cB (marked k zs j)) ∧ w.grownBy wr (some g)) (fun _ i _ => n - (intOf i).toNat)
  case atStart => exact ⟨0, Nat.zero_le _, rfl, by simp, by simpa [marked, marks] using hown, World.grownBy.refl _ _⟩
  case round =>
    obtain ⟨j, hj, rfl, rfl, how, hg⟩ := hrel
    by_cases hlt : j < n
    · have cf := how.frozenAt j
      have cc : ∃ u, wr.cell? ⟨g, j, none⟩ = some u := by
        rw [how.cellAt j (by omega)]
        exact ⟨_, List.getElem?_eq_getElem (by rw [cB_length, marked_length _ _ _ (by omega)]; omega)⟩
      obtain ⟨u, cu⟩ := cc
      have R := (how.stored j (.int .u8 (IntKind.u8.wrap (k + j)))).1
      rw [marked_set _ _ _ (by omega)] at R
      have hg' := grown_setCell hg j (.int .u8 (IntKind.u8.wrap (k + j)))
      clear how hg hown
      go_wp2
      go_roundw
      case rel => exact ⟨j + 1, by omega, by go_num, by go_num, R, hg'⟩
      case measure => simp [intOf]; omega
    · have hj' : j = n := by omega
      subst hj'
      have hd : marked k zs j = marks k j := by simp [marked, ← hl]
      rw [hd] at how
      clear hd
      go_wp2
      go_ret
      exact ⟨rfl, how, hg⟩

set_option maxRecDepth 100000 in
set_option maxHeartbeats 400000 in
theorem mark_nil (k : Int) (w : World) :
    Calls Try.prog 20 #[.slice none 0 0, .int .i64 k] w fun e w' => e = .returned (.int .i64 k) ∧ w' = w := by
  go_enter Try.func20, Try.ntmps20
  go_wp2
  go_loop [1, 5] (fun m i => m = .int .i64 k ∧ i = .int .i64 0) (fun _ _ => 0)
  case atStart => exact ⟨rfl, rfl⟩
  case round =>
    obtain ⟨rfl, rfl⟩ := hrel
    go_wp2
    go_ret
    exact ⟨rfl, rfl⟩

set_option maxRecDepth 100000 in
set_option maxHeartbeats 400000 in
theorem held_any (ao : Option Addr) (n cap : Nat) (k : Int) (w : World) (h1 : Row w ao n cap (marks k n)) (hn : n ≤ 16777216) (hk0 : 0 ≤ k) (hk1 : k ≤ 1099511627776) :
    Calls Try.prog 21 #[.slice ao n cap, .int .i64 k] w fun e w' => e = .returned (.int .i64 (k + n)) ∧ w' = w := by
  have hcell := h1.cell
  clear h1
  go_enter Try.func21, Try.ntmps21
  go_wp2
  go_loop [1, 5] (fun m i => ∃ j : Nat, j ≤ n ∧ i = .int .i64 j ∧ m = .int .i64 (k + j)) (fun _ i => n - (intOf i).toNat)
  case atStart => exact ⟨0, Nat.zero_le _, rfl, by simp⟩
  case round =>
    obtain ⟨j, hj, rfl, rfl⟩ := hrel
    by_cases hlt : j < n
    · rcases hcell with h0 | ⟨b, off, rfl, hc⟩
      · omega
      have cx := hc j hlt
      rw [marks_get _ _ _ hlt] at cx
      clear hc
      go_wp2
      go_round
      case rel => exact ⟨j + 1, by omega, by go_num, by go_num⟩
      case measure => simp [intOf]; omega
    · have hj' : j = n := by omega
      subst hj'
      go_wp2
      go_ret
      exact ⟨rfl, rfl⟩

theorem eq_same (a1 : Option Addr) (l1 c1 : Nat) (a2 : Option Addr) (l2 c2 : Nat) (zs : List Int) (w : World) (h1 : Row w a1 l1 c1 zs) (h2 : Row w a2 l2 c2 zs) :
    Calls Try.prog 18 #[.slice a1 l1 c1, .slice a2 l2 c2] w fun e w' => e = .returned (.bool true) ∧ ∃ n, w' = w.drewN n := by
  refine (eq_any a1 l1 c1 zs a2 l2 c2 zs w h1 h2).mono ?_
  rintro e w' ⟨rfl, n, rfl⟩
  exact ⟨by simp, n, rfl⟩

/-- Marks into what the call owns. -/
theorem mark_own (base : Nat) (ao : Option Addr) (n cap : Nat) (zs : List Int) (k : Int) (w : World) (hown : w.ownsRow base 5 1 (.slice ao n cap) n (cB zs)) (hbase : base ≤ w.heap.size) (hn : n ≤ 16777216) (hk0 : 0 ≤ k) (hk1 : k ≤ 1099511627776) :
    Calls Try.prog 20 #[.slice ao n cap, .int .i64 k] w fun e w' => e = .returned (.int .i64 (k + n)) ∧
      w'.ownsRow base 5 1 (.slice ao n cap) n (cB (marks k n)) ∧ Below base w w' := by
  rcases hown.2 with ⟨h, h0⟩ | ⟨g, cap', cur, h, hg, h3⟩
  · cases h
    refine (mark_nil k w).mono ?_
    rintro e w' ⟨rfl, rfl⟩
    exact ⟨by simp, by simpa [marks, cB] using World.ownsRow_nil _ _ _ _, Below.refl _ _⟩
  · cases h
    refine (mark_any base g n cap zs k w hown hn hk0 hk1).mono ?_
    rintro e w' ⟨rfl, ho, hgr⟩
    exact ⟨rfl, ho, (Below.refl _ _).grown hgr hbase (by intro k hk; cases hk; exact hg)⟩

/-- What the call owns can be read, its value written out. -/
theorem row_own {w : World} {base : Nat} {ao : Option Addr} {n cap : Nat} {zs : List Int} (h : w.ownsRow base 5 1 (.slice ao n cap) n (cB zs)) (hz : Byt zs) : Row w ao n cap zs := by
  obtain ⟨ao', cap', e, hr⟩ := row_of_own h hz
  cases e
  exact hr

/-- Marks into what the call owns; no other block turns. -/
theorem mark_grown (base : Nat) (ao : Option Addr) (n cap : Nat) (zs : List Int) (k : Int) (w : World) (hown : w.ownsRow base 5 1 (.slice ao n cap) n (cB zs)) (hn : n ≤ 16777216) (hk0 : 0 ≤ k) (hk1 : k ≤ 1099511627776) :
    Calls Try.prog 20 #[.slice ao n cap, .int .i64 k] w fun e w' => e = .returned (.int .i64 (k + n)) ∧
      w'.ownsRow base 5 1 (.slice ao n cap) n (cB (marks k n)) ∧ w.grownBy w' (Value.slice ao n cap).ownBlock := by
  rcases hown.2 with ⟨h, h0⟩ | ⟨g, cap', cur, h, hg, h3⟩
  · cases h
    refine (mark_nil k w).mono ?_
    rintro e w' ⟨rfl, rfl⟩
    exact ⟨by simp, by simpa [marks, cB] using World.ownsRow_nil _ _ _ _, World.grownBy.refl _ _⟩
  · cases h
    refine (mark_any base g n cap zs k w hown hn hk0 hk1).mono ?_
    rintro e w' ⟨rfl, ho, hgr⟩
    exact ⟨rfl, ho, hgr⟩

/-- A younger row stays its owner's while an elder one is written. -/
theorem own_above {w w' : World} {base : Nat} {e : TypeId} {v : Value} {n : Nat} {xs : List Value} {row : Option Nat} (h : w.ownsRow base e 1 v n xs) (hg : w.grownBy w' row) (hr : ∀ k, row = some k → k < base) : w'.ownsRow base e 1 v n xs := by
  refine h.kept hg ?_
  cases hv : v.ownBlock with
  | none => exact .inl rfl
  | some k =>
    refine .inr ?_
    intro e
    have := hr k e.symm
    have := (h.lt k hv).1
    omega

theorem below_grown {B : Nat} {a w w' : World} {row : Option Nat} (h : Below B a w) (hg : w.grownBy w' row) (hB : B ≤ w.heap.size) (hr : ∀ k, row = some k → B ≤ k) : Below B a w' := h.grown hg hB hr

end Go.Proofs.Ytamglfhnhjgdjaa
