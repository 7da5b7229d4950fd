/-
  The law file's own helpers on ints by their contracts: a copy, whether two slices are the same, the marks that are put and read again.
-/
import Derived.Test.YtafonmfgeecopaaIBase
import Derived.Test.YtafonmfgeecopaaHelp
namespace Go.Proofs.Ytafonmfgeecopaa
open Go.RowKit

set_option maxRecDepth 100000 in
set_option maxHeartbeats 400000 in
theorem eqI_any (a1 : Option Addr) (l1 c1 : Nat) (z1 : List Int) (a2 : Option Addr) (l2 c2 : Nat) (z2 : List Int) (w : World) (h1 : IRow w a1 l1 c1 z1) (h2 : IRow w a2 l2 c2 z2) :
    Calls Try.prog 73 #[.slice a1 l1 c1, .slice a2 l2 c2] w fun e w' => e = .returned (.bool (decide (z1 = z2))) ∧ ∃ n, w' = w.drewN n := by
  have m1 := h1.top; have m2 := h2.top; have s1 := h1.size; have s2 := h2.size; have e1 := h1.le; have e2 := h2.le
  unfold maxLen at m1 m2
  by_cases hl : l1 = l2
  · subst hl
    by_cases h0 : l1 = 0
    · subst h0
      have hz : z1 = z2 := by rw [List.eq_nil_of_length_eq_zero s1, List.eq_nil_of_length_eq_zero s2]
      go_enter Try.func73, Try.ntmps73
      go_wp2
      go_loop [5] (fun i => i = .int .i64 0) (fun _ => 0)
      case atStart => rfl
      case round =>
        subst hrel
        go_wp2
        go_ret
        exact ⟨by simp, 0, rfl⟩
    · rcases h1.cell with h | ⟨b1, o1, rfl, g1⟩
      · exact absurd h h0
      rcases h2.cell with h | ⟨b2, o2, rfl, g2⟩
      · exact absurd h h0
      clear h1 h2
      have G1 : Hid (∀ i, i < l1 → w.cell? ⟨b1, o1 + i, none⟩ = some (.int .i64 (z1.getD i 0))) := g1
      have G2 : Hid (∀ i, i < l1 → w.cell? ⟨b2, o2 + i, none⟩ = some (.int .i64 (z2.getD i 0))) := g2
      clear g1 g2
      go_enter Try.func73, Try.ntmps73
      go_wp2
      go_loopw [5] (fun i wr => ∃ k : Nat, k ≤ l1 ∧ i = .int .i64 k ∧ z1.take k = z2.take k ∧ ∃ n, wr = w.drewN n) (fun i _ => l1 - (intOf i).toNat)
      case atStart => exact ⟨0, Nat.zero_le _, rfl, rfl, 0, rfl⟩
      case round =>
        obtain ⟨k, hk, rfl, ht, n, rfl⟩ := hrel
        have HT : Hid (z1.take k = z2.take k) := ht
        clear ht
        by_cases hlt : k < l1
        · have c1 := G1.out k hlt
          have c2 := G2.out k hlt
          generalize hx : z1.getD k 0 = x at c1
          generalize hy : z2.getD k 0 = y at c2
          have HX : Hid (z1.getD k 0 = x) := hx
          have HY : Hid (z2.getD k 0 = y) := hy
          clear hx hy
          by_cases hq : x = y
          · subst hq
            go_wp2
            go_quiet (fail)
            go_wp2
            go_roundw
            case rel => exact ⟨k + 1, by omega, by go_num, by rw [take_succ_getD _ _ (by omega), take_succ_getD _ _ (by omega), HT.out, HX.out, HY.out], _, rfl⟩
            case measure => simp [intOf]; omega
          · have hne : (x != y) = true := by simp [hq]
            go_wp2
            go_quiet (fail)
            go_wp2
            go_ret
            exact ⟨ret_bool (decide_eq_false (ne_at k (by rw [HX.out, HY.out]; exact hq))).symm, _, World.drewN_drewN _ _ _⟩
        · go_wp2
          go_ret
          have hk' : k = l1 := by omega
          exact ⟨ret_bool (decide_eq_true (eq_of_takes (by omega) (by rw [s1, ← hk']; exact HT.out))).symm, _, rfl⟩
  · have hne : ((l1 : Int) != (l2 : Int)) = true := by simp; omega
    have hz : ¬ z1 = z2 := by intro e; rw [e] at s1; omega
    go_enter Try.func73, Try.ntmps73
    go_wp2
    go_ret
    exact ⟨ret_bool (decide_eq_false hz).symm, 0, rfl⟩

/-- A copy on its way: k of n bytes are laid. -/
def halfI (zs : List Int) (n k : Nat) : List Value := cI (zs.take k) ++ List.replicate (n - k) (.int .i64 0)

theorem halfI_length (zs : List Int) (n k : Nat) (h : zs.length = n) (hk : k ≤ n) : (halfI zs n k).length = n := by
  simp [halfI, cI_length]; omega

theorem halfI_set (zs : List Int) (n k : Nat) (h : zs.length = n) (hk : k < n) : (halfI zs n k).set k (.int .i64 (zs.getD k 0)) = halfI zs n (k + 1) := by
  have hl : (cI (zs.take k)).length = k := by simp [cI_length]; omega
  unfold halfI
  rw [List.set_append_right _ _ (by omega), hl, Nat.sub_self, take_succ_getD _ _ (by omega), cI_append]
  obtain ⟨m, hm⟩ : ∃ m, n - k = m + 1 := ⟨n - k - 1, by omega⟩
  have hm' : n - (k + 1) = m := by omega
  rw [hm, hm', List.replicate_succ, List.set_cons_zero]
  simp [cI]

theorem halfI_all (zs : List Int) (n : Nat) (h : zs.length = n) : halfI zs n n = cI zs := by
  simp [halfI, ← h]

theorem halfI_none (zs : List Int) (n : Nat) : halfI zs n 0 = List.replicate n (.int .i64 0) := by
  simp [halfI, cI]

set_option maxRecDepth 100000 in
set_option maxHeartbeats 400000 in
theorem copyI_any (a1 : Option Addr) (l1 c1 : Nat) (z1 : List Int) (w : World) (h1 : IRow w a1 l1 c1 z1) (hs : l1 ≤ 16777216) :
    Calls Try.prog 81 #[.slice a1 l1 c1] w fun e w' => e = .returned (.slice (some ⟨w.heap.size, 0, none⟩) l1 l1) ∧
      w'.ownsRow w.heap.size 3 1 (.slice (some ⟨w.heap.size, 0, none⟩) l1 l1) l1 (cI z1) ∧ Below w.heap.size w w' := by
  obtain ⟨i0, hi, hz0, hz1, hz2⟩ := info_parts Try.infoI64
  have s1 := h1.size
  have hcell := h1.cell
  clear h1
  go_enter Try.func81, Try.ntmps81
  go_wp2_with (at_make; refine wpList_make_full _ rfl _ _ 25 rfl w.heap.size 3 i0 (.int .i64 0) 1 Try.underlying25 hi hz0 hz1 .i64 .i64 _ _ l1 rfl rfl rfl rfl ?c1 ?c2 ?c3 ?_)
  case c1 => rw [hz2]; omega
  case c2 => unfold maxLen; omega
  case c3 => exact Nat.le_refl _
  intro w1 hown hgrow
  have hb1 : Below w.heap.size w w1 := (Below.refl _ _).grown hgrow (Nat.le_refl _) (by intro k hk; cases hk)
  have hown1 : w1.ownsRow w.heap.size 3 1 (.slice (some ⟨w.heap.size, 0, none⟩) l1 l1) l1 (halfI z1 l1 0) := by
    rw [halfI_none, ← toList_madeCells_one]; simpa [Value.cells] using hown
  clear hown hgrow hi hz0 hz1 hz2
  go_wp2
  go_loopw [4] (fun i wr => ∃ k : Nat, k ≤ l1 ∧ i = .int .i64 k ∧ wr.ownsRow w.heap.size 3 1 (.slice (some ⟨w.heap.size, 0, none⟩) l1 l1) l1 (halfI z1 l1 k) ∧ Below w.heap.size w wr) (fun i _ => l1 - (intOf i).toNat)
  case atStart => exact ⟨0, Nat.zero_le _, rfl, hown1, hb1⟩
  case round =>
    obtain ⟨k, hk, rfl, hown, hb⟩ := hrel
    by_cases hlt : k < l1
    · rcases hcell with h0 | ⟨b, off, rfl, hc⟩
      · omega
      have cx : wr.cell? ⟨b, off + k, none⟩ = some (.int .i64 (z1.getD k 0)) := by rw [hb.cell (block_lt (hc k hlt))]; exact hc k hlt
      have cf := hown.frozenAt k
      have cc : ∃ u, wr.cell? ⟨w.heap.size, k, none⟩ = some u := by
        rw [hown.cellAt k (by omega)]
        exact ⟨_, List.getElem?_eq_getElem (by rw [halfI_length _ _ _ s1 (by omega)]; exact hlt)⟩
      obtain ⟨u, cu⟩ := cc
      have R := hown.stored k (.int .i64 (z1.getD k 0))
      rw [halfI_set _ _ _ s1 hlt] at R
      have hb' := hb.setCell (p := ⟨w.heap.size, k, none⟩) (Nat.le_refl _) (.int .i64 (z1.getD k 0))
      have HR := R.1
      generalize hx : z1.getD k 0 = x at cx HR hb'
      have HX : Hid (z1.getD k 0 = x) := hx
      clear hx hc hown R hb hb1 hown1
      go_wp2
      go_roundw
      case rel => exact ⟨k + 1, by omega, by go_num, HR, hb'⟩
      case measure => simp [intOf]; omega
    · have hk' : k = l1 := by omega
      subst hk'
      rw [halfI_all _ _ s1] at hown
      go_wp2
      go_ret
      exact ⟨rfl, hown, hb⟩

/-- The marksI that are put into n bytes, from k on. -/
def marksI (k : Int) (n : Nat) : List Int := (List.range n).map fun i : Nat => (k + i)

theorem marksI_length (k : Int) (n : Nat) : (marksI k n).length = n := by simp [marksI]
theorem marksI_get (k : Int) (n i : Nat) (h : i < n) : (marksI k n).getD i 0 = (k + i) := by
  simp [marksI, List.getD_eq_getElem?_getD, List.getElem?_map, List.getElem?_range h]
theorem marksI_succ (k : Int) (n : Nat) : marksI k (n + 1) = marksI k n ++ [(k + n)] := by
  simp [marksI, List.range_succ]
theorem marksI_byte (k : Int) (n : Nat) (h0 : 0 ≤ k) (h1 : k ≤ 1099511627776) (hn : n ≤ 16777216) : I64s (marksI k n) := by
  intro z hz
  simp only [marksI, List.mem_map, List.mem_range] at hz
  obtain ⟨i, hi, rfl⟩ := hz
  omega

/-- Marks on their way: j of them are put, the rest is as it was. -/
def markedI (k : Int) (zs : List Int) (j : Nat) : List Int := marksI k j ++ zs.drop j

theorem markedI_set (k : Int) (zs : List Int) (j : Nat) (h : j < zs.length) : (cI (markedI k zs j)).set j (.int .i64 ((k + j))) = cI (markedI k zs (j + 1)) := by
  have hl : (cI (marksI k j)).length = j := by rw [cI_length, marksI_length]
  unfold markedI
  rw [cI_append, List.set_append_right _ _ (by omega), hl, Nat.sub_self, marksI_succ, cI_append, cI_append]
  rw [List.drop_eq_getElem_cons h]
  simp only [cI, List.map_cons, List.set_cons_zero, List.map_nil, List.append_assoc, List.cons_append, List.nil_append]

theorem markedI_length (k : Int) (zs : List Int) (j : Nat) (h : j ≤ zs.length) : (markedI k zs j).length = zs.length := by
  simp [markedI, marksI_length]; omega

set_option maxRecDepth 100000 in
set_option maxHeartbeats 400000 in
theorem markI_any (base g n cap : Nat) (zs : List Int) (k : Int) (w : World) (hown : w.ownsRow base 3 1 (.slice (some ⟨g, 0, none⟩) n cap) n (cI zs)) (hn : n ≤ 16777216) (hk0 : 0 ≤ k) (hk1 : k ≤ 1099511627776) :
    Calls Try.prog 75 #[.slice (some ⟨g, 0, none⟩) n cap, .int .i64 k] w fun e w' => e = .returned (.int .i64 (k + n)) ∧
      w'.ownsRow base 3 1 (.slice (some ⟨g, 0, none⟩) n cap) n (cI (marksI k n)) ∧ w.grownBy w' (some g) := by
  have hl : zs.length = n := by have := hown.1; simpa [cI] using this
  go_enter Try.func75, Try.ntmps75
  go_wp2
  go_loopw [1, 5] (fun m i wr => ∃ j : Nat, j ≤ n ∧ i = .int .i64 j ∧ m = .int .i64 (k + j) ∧ wr.ownsRow base 3 1 (.slice (some ⟨g, 0, none⟩) n cap) n (cI (markedI k zs j)) ∧ w.grownBy wr (some g)) (fun _ i _ => n - (intOf i).toNat)
  case atStart => exact ⟨0, Nat.zero_le _, rfl, by simp, by simpa [markedI, marksI] using hown, World.grownBy.refl _ _⟩
  case round =>
    obtain ⟨j, hj, rfl, rfl, how, hg⟩ := hrel
    by_cases hlt : j < n
    · have cf := how.frozenAt j
      have cc : ∃ u, wr.cell? ⟨g, j, none⟩ = some u := by
        rw [how.cellAt j (by omega)]
        exact ⟨_, List.getElem?_eq_getElem (by rw [cI_length, markedI_length _ _ _ (by omega)]; omega)⟩
      obtain ⟨u, cu⟩ := cc
      have R := (how.stored j (.int .i64 ((k + j)))).1
      rw [markedI_set _ _ _ (by omega)] at R
      have hg' := grown_setCell hg j (.int .i64 ((k + j)))
      clear how hg hown
      go_wp2
      go_roundw
      case rel => exact ⟨j + 1, by omega, by go_num, by go_num, R, hg'⟩
      case measure => simp [intOf]; omega
    · have hj' : j = n := by omega
      subst hj'
      have hd : markedI k zs j = marksI k j := by simp [markedI, ← hl]
      rw [hd] at how
      clear hd
      go_wp2
      go_ret
      exact ⟨rfl, how, hg⟩

set_option maxRecDepth 100000 in
set_option maxHeartbeats 400000 in
theorem markI_nil (k : Int) (w : World) :
    Calls Try.prog 75 #[.slice none 0 0, .int .i64 k] w fun e w' => e = .returned (.int .i64 k) ∧ w' = w := by
  go_enter Try.func75, Try.ntmps75
  go_wp2
  go_loop [1, 5] (fun m i => m = .int .i64 k ∧ i = .int .i64 0) (fun _ _ => 0)
  case atStart => exact ⟨rfl, rfl⟩
  case round =>
    obtain ⟨rfl, rfl⟩ := hrel
    go_wp2
    go_ret
    exact ⟨rfl, rfl⟩

set_option maxRecDepth 100000 in
set_option maxHeartbeats 400000 in
theorem heldI_any (ao : Option Addr) (n cap : Nat) (k : Int) (w : World) (h1 : IRow w ao n cap (marksI k n)) (hn : n ≤ 16777216) (hk0 : 0 ≤ k) (hk1 : k ≤ 1099511627776) :
    Calls Try.prog 77 #[.slice ao n cap, .int .i64 k] w fun e w' => e = .returned (.int .i64 (k + n)) ∧ w' = w := by
  have hcell := h1.cell
  clear h1
  go_enter Try.func77, Try.ntmps77
  go_wp2
  go_loop [1, 5] (fun m i => ∃ j : Nat, j ≤ n ∧ i = .int .i64 j ∧ m = .int .i64 (k + j)) (fun _ i => n - (intOf i).toNat)
  case atStart => exact ⟨0, Nat.zero_le _, rfl, by simp⟩
  case round =>
    obtain ⟨j, hj, rfl, rfl⟩ := hrel
    by_cases hlt : j < n
    · rcases hcell with h0 | ⟨b, off, rfl, hc⟩
      · omega
      have cx := hc j hlt
      rw [marksI_get _ _ _ hlt] at cx
      clear hc
      go_wp2
      go_round
      case rel => exact ⟨j + 1, by omega, by go_num, by go_num⟩
      case measure => simp [intOf]; omega
    · have hj' : j = n := by omega
      subst hj'
      go_wp2
      go_ret
      exact ⟨rfl, rfl⟩

theorem eqI_same (a1 : Option Addr) (l1 c1 : Nat) (a2 : Option Addr) (l2 c2 : Nat) (zs : List Int) (w : World) (h1 : IRow w a1 l1 c1 zs) (h2 : IRow w a2 l2 c2 zs) :
    Calls Try.prog 73 #[.slice a1 l1 c1, .slice a2 l2 c2] w fun e w' => e = .returned (.bool true) ∧ ∃ n, w' = w.drewN n := by
  refine (eqI_any a1 l1 c1 zs a2 l2 c2 zs w h1 h2).mono ?_
  rintro e w' ⟨rfl, n, rfl⟩
  exact ⟨by simp, n, rfl⟩

/-- Marks into what the call owns. -/
theorem markI_own (base : Nat) (ao : Option Addr) (n cap : Nat) (zs : List Int) (k : Int) (w : World) (hown : w.ownsRow base 3 1 (.slice ao n cap) n (cI zs)) (hbase : base ≤ w.heap.size) (hn : n ≤ 16777216) (hk0 : 0 ≤ k) (hk1 : k ≤ 1099511627776) :
    Calls Try.prog 75 #[.slice ao n cap, .int .i64 k] w fun e w' => e = .returned (.int .i64 (k + n)) ∧
      w'.ownsRow base 3 1 (.slice ao n cap) n (cI (marksI k n)) ∧ Below base w w' := by
  rcases hown.2 with ⟨h, h0⟩ | ⟨g, cap', cur, h, hg, h3⟩
  · cases h
    refine (markI_nil k w).mono ?_
    rintro e w' ⟨rfl, rfl⟩
    exact ⟨by simp, by simpa [marksI, cI] using World.ownsRow_nil _ _ _ _, Below.refl _ _⟩
  · cases h
    refine (markI_any base g n cap zs k w hown hn hk0 hk1).mono ?_
    rintro e w' ⟨rfl, ho, hgr⟩
    exact ⟨rfl, ho, (Below.refl _ _).grown hgr hbase (by intro k hk; cases hk; exact hg)⟩

/-- What the call owns can be read, its value written out. -/
theorem irow_own {w : World} {base : Nat} {ao : Option Addr} {n cap : Nat} {zs : List Int} (h : w.ownsRow base 3 1 (.slice ao n cap) n (cI zs)) (hz : I64s zs) : IRow w ao n cap zs := by
  obtain ⟨ao', cap', e, hr⟩ := irow_of_own h hz
  cases e
  exact hr

/-- Marks into what the call owns; no other block turns. -/
theorem markI_grown (base : Nat) (ao : Option Addr) (n cap : Nat) (zs : List Int) (k : Int) (w : World) (hown : w.ownsRow base 3 1 (.slice ao n cap) n (cI zs)) (hn : n ≤ 16777216) (hk0 : 0 ≤ k) (hk1 : k ≤ 1099511627776) :
    Calls Try.prog 75 #[.slice ao n cap, .int .i64 k] w fun e w' => e = .returned (.int .i64 (k + n)) ∧
      w'.ownsRow base 3 1 (.slice ao n cap) n (cI (marksI k n)) ∧ w.grownBy w' (Value.slice ao n cap).ownBlock := by
  rcases hown.2 with ⟨h, h0⟩ | ⟨g, cap', cur, h, hg, h3⟩
  · cases h
    refine (markI_nil k w).mono ?_
    rintro e w' ⟨rfl, rfl⟩
    exact ⟨by simp, by simpa [marksI, cI] using World.ownsRow_nil _ _ _ _, World.grownBy.refl _ _⟩
  · cases h
    refine (markI_any base g n cap zs k w hown hn hk0 hk1).mono ?_
    rintro e w' ⟨rfl, ho, hgr⟩
    exact ⟨rfl, ho, hgr⟩

theorem copyI_made (a1 : Option Addr) (l1 c1 : Nat) (z1 : List Int) (w : World) (h1 : IRow w a1 l1 c1 z1) (hs : l1 ≤ 16777216) :
    Calls Try.prog 81 #[.slice a1 l1 c1] w fun e w' => ∃ ao cap, e = .returned (.slice ao l1 cap) ∧
      w'.ownsRow w.heap.size 3 1 (.slice ao l1 cap) l1 (cI z1) ∧ IRow w' ao l1 cap z1 ∧ Below w.heap.size w w' := by
  refine (copyI_any a1 l1 c1 z1 w h1 hs).mono ?_
  rintro e w' ⟨rfl, ho, hb⟩
  exact ⟨_, _, rfl, ho, irow_own ho h1.byte, hb⟩

end Go.Proofs.Ytafonmfgeecopaa
