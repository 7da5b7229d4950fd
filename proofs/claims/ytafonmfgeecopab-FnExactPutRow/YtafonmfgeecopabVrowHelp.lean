/-
  The law file's own helpers on rows of networks by their contracts: a copy, whether two lists are the same, their size, the marks that are put and read again.
-/
import Derived.Test.YtafonmfgeecopabVrowMem
namespace Go.Proofs.Ytafonmfgeecopab
open Go.RowKit

set_option maxRecDepth 100000 in
set_option maxHeartbeats 400000 in
theorem toVrow_made (e : VR) (w : World) :
    Calls Try.prog 13 #[.agg #[.int .i64 e.i, .int .i64 e.m, .int .i64 e.b]] w fun r w' => r = .returned (.agg #[.int .i64 e.i, .int .i64 e.m, .int .i64 e.b]) ∧ Below w.heap.size w w' := by
  go_enter Try.func13, Try.ntmps13
  go_wp2
  exact bodyPost_ret (v := .agg #[.int .i64 e.i, .int .i64 e.m, .int .i64 e.b]) (by simp [results, Try.results13, go_sem, *]) rfl ⟨rfl, below_three _ _ _ _⟩

theorem vrowInfoH : (Try.prog.info? 38).map (fun i => (i.zero, i.size, i.bytes)) = some (some (.agg #[.int .i64 0, .int .i64 0, .int .i64 0]), 3, 24) := by kernel_rfl

def VR.zero : VR := ⟨0, 0, 0⟩

theorem at3h {w w' : World} {b off n cap : Nat} {l : List VR} (h : GRow vrowF w (some ⟨b, off, none⟩) n cap l) (hb : Below w.heap.size w w') {i : Nat} {x : VR} (hx : l[i]? = some x) :
    w'.cell? ⟨b, off + i * 3, none⟩ = some (.int .i64 x.i) ∧ w'.cell? ⟨b, off + i * 3 + 1, none⟩ = some (.int .i64 x.m) ∧ w'.cell? ⟨b, off + i * 3 + 2, none⟩ = some (.int .i64 x.b) := by
  have hi : i < n := by
    have := (List.getElem?_eq_some_iff.1 hx).1
    have := h.size
    omega
  obtain ⟨y, b', off', hy, e, c⟩ := vrow_at (h.below hb) i hi
  cases e
  rw [hx] at hy
  cases hy
  exact c

/-- A row is laid over another one. -/
theorem vrow_put {w : World} {base g n cap : Nat} {pre post : List VR} {x y : VR} (h : w.ownsRow base 38 3 (.slice (some ⟨g, 0, none⟩) n cap) n (vrowF.all (pre ++ x :: post))) :
    (((w.setCell ⟨g, pre.length * 3, none⟩ (.int .i64 y.i)).setCell ⟨g, pre.length * 3 + 1, none⟩ (.int .i64 y.m)).setCell ⟨g, pre.length * 3 + 2, none⟩ (.int .i64 y.b)).ownsRow base 38 3 (.slice (some ⟨g, 0, none⟩) n cap) n (vrowF.all (pre ++ y :: post)) := by
  have R0 := flat_stored (F := vrowF) (x' := ⟨y.i, x.m, x.b⟩) h 0 (.int .i64 y.i) (by decide) rfl
  have R1 := flat_stored (F := vrowF) (x' := ⟨y.i, y.m, x.b⟩) R0 1 (.int .i64 y.m) (by decide) rfl
  exact flat_stored (F := vrowF) (x' := y) R1 2 (.int .i64 y.b) (by decide) rfl

theorem grown_set3 {w : World} {g : Nat} (j0 j1 j2 : Nat) (u0 u1 u2 : Value) : w.grownBy (((w.setCell ⟨g, j0, none⟩ u0).setCell ⟨g, j1, none⟩ u1).setCell ⟨g, j2, none⟩ u2) (some g) :=
  grownTr (grownTr (grown_set _ _) (grown_set _ _)) (grown_set _ _)

/-- The three cells of a row of an owned list, none frozen. -/
theorem vrow_cells {w : World} {base g n cap : Nat} {T : TypeId} {l : List VR} (h : w.ownsRow base T 3 (.slice (some ⟨g, 0, none⟩) n cap) n (vrowF.all l)) {i : Nat} {x : VR} (hx : l[i]? = some x) :
    (w.cell? ⟨g, i * 3, none⟩ = some (.int .i64 x.i) ∧ w.cell? ⟨g, i * 3 + 1, none⟩ = some (.int .i64 x.m) ∧ w.cell? ⟨g, i * 3 + 2, none⟩ = some (.int .i64 x.b)) ∧
    (w.frozen? ⟨g, i * 3, none⟩ = false ∧ w.frozen? ⟨g, i * 3 + 1, none⟩ = false ∧ w.frozen? ⟨g, i * 3 + 2, none⟩ = false) := by
  have c0 := flat_cells (F := vrowF) h hx (j := 0) (v := .int .i64 x.i) rfl
  have c1 := flat_cells (F := vrowF) h hx (j := 1) (v := .int .i64 x.m) rfl
  have c2 := flat_cells (F := vrowF) h hx (j := 2) (v := .int .i64 x.b) rfl
  exact ⟨⟨c0.1, c1.1, c2.1⟩, c0.2, c1.2, c2.2⟩

set_option maxRecDepth 100000 in
set_option maxHeartbeats 2000000 in
theorem toVrows_made (ao : Option Addr) (n c : Nat) (l : List VR) (w : World) (hl : GRow vrowF w ao n c l) (hs : n ≤ 1048576) :
    Calls Try.prog 24 #[.slice ao n c] w fun r w' => ∃ ao' cap, r = .returned (.slice ao' n cap) ∧ w'.ownsRow w.heap.size 38 3 (.slice ao' n cap) n (vrowF.all l) ∧ GRow vrowF w' ao' n cap l ∧ Below w.heap.size w w' := by
  obtain ⟨i0, hi, hz0, hz1, hz2⟩ := finfo_parts vrowInfoH
  have s1 := hl.size
  go_enter Try.func24, Try.ntmps24
  go_wp2_with (at_make; refine wpList_make_full _ rfl _ _ 28 rfl w.heap.size 38 i0 (.agg #[.int .i64 0, .int .i64 0, .int .i64 0]) 3 Try.underlying28 hi hz0 hz1 .i64 .i64 _ _ n rfl rfl rfl rfl ?c1 ?c2 ?c3 ?_)
  case c1 => rw [hz2]; omega
  case c2 => unfold maxLen; omega
  case c3 => exact Nat.le_refl _
  intro w1 hown hgrow
  have hb1 : Below w.heap.size w w1 := (Below.refl _ _).grown hgrow (Nat.le_refl _) (by intro k hk; cases hk)
  have hown1 : w1.ownsRow w.heap.size 38 3 (.slice (some ⟨w.heap.size, 0, none⟩) n n) n (vrowF.all (l.take 0 ++ List.replicate (n - 0) VR.zero)) := by
    rw [List.take_zero, List.nil_append, Nat.sub_zero, ← flat_made]; exact hown
  clear hown hgrow hi hz0 hz1 hz2
  go_wp2
  go_loopw [4] (fun i wr => ∃ k : Nat, k ≤ n ∧ i = .int .i64 k ∧ wr.ownsRow w.heap.size 38 3 (.slice (some ⟨w.heap.size, 0, none⟩) n n) n (vrowF.all (l.take k ++ List.replicate (n - k) VR.zero)) ∧ Below w.heap.size w wr) (fun i _ => n - (intOf i).toNat)
  case atStart => exact ⟨0, Nat.zero_le _, rfl, hown1, hb1⟩
  case round =>
    obtain ⟨k, hk, rfl, ho, hb⟩ := hrel
    clear hown1 hb1
    by_cases hlt : k < n
    · obtain ⟨x, b, off, hx, rfl, a0, a1, a2⟩ := vrow_at (hl.below hb) k hlt
      have hrep : List.replicate (n - k) VR.zero = VR.zero :: List.replicate (n - (k + 1)) VR.zero := by rw [← List.replicate_succ]; congr 1; omega
      have hlk : (l.take k).length = k := by rw [List.length_take]; omega
      rw [hrep] at ho
      have htk : l.take (k + 1) = l.take k ++ [x] := by rw [List.take_add_one, hx]; rfl
      have HTK := hide htk
      have HB := hide hb
      have HO := hide ho
      have HX := hide hx
      clear hb ho htk hx
      go_wp2_with fail
      refine (toVrow_made x _).mono ?_
      rintro r w2 ⟨rfl, hb2⟩
      have ho2 := gown_below HO.out hb2
      have hz : (l.take k ++ VR.zero :: List.replicate (n - (k + 1)) VR.zero)[k]? = some VR.zero := by rw [List.getElem?_append_right (by omega), hlk, Nat.sub_self]; rfl
      obtain ⟨⟨t0, t1, t2⟩, f0, f1, f2⟩ := vrow_cells ho2 hz
      have o3 := vrow_put (y := x) ho2
      rw [hlk] at o3
      have HO3 := hide o3
      have hb3 := gr_trans HB.out hb2
      have HB3 := hide (hb3.grown (grown_set3 (w := w2) (g := w.heap.size) (k * 3) (k * 3 + 1) (k * 3 + 2) (.int .i64 x.i) (.int .i64 x.m) (.int .i64 x.b)) hb3.size (by intro j e; cases e; exact Nat.le_refl _))
      clear ho2 hb2 hb3 o3 hz a0 a1 a2
      go_wp2
      go_roundw
      case rel => exact ⟨k + 1, by omega, by go_num, by rw [HTK.out, List.append_assoc]; exact HO3.out, HB3.out⟩
      case measure => simp [intOf]; omega
    · have hkn : k = n := by omega
      subst hkn
      rw [Nat.sub_self, List.take_of_length_le (by omega), List.replicate_zero, List.append_nil] at ho
      have HO := hide ho
      have HR := hide (grow_own ho)
      have HB := hide hb
      clear ho hb
      go_wp2
      go_ret
      exact ⟨_, _, rfl, HO.out, HR.out, HB.out⟩

set_option maxRecDepth 100000 in
set_option maxHeartbeats 400000 in
theorem eqVrow_same (e : VR) (w : World) :
    Calls Try.prog 47 #[.agg #[.int .i64 e.i, .int .i64 e.m, .int .i64 e.b], .agg #[.int .i64 e.i, .int .i64 e.m, .int .i64 e.b]] w fun r w' => r = .returned (.bool true) ∧ Below w.heap.size w w' := by
  go_enter Try.func47, Try.ntmps47
  go_wp2
  go_ret
  exact ⟨rfl, below_two _ _ _⟩

set_option maxRecDepth 100000 in
set_option maxHeartbeats 400000 in
theorem szVrows_any (ao : Option Addr) (n c : Nat) (left : Int) (w : World) (hl : n ≤ maxLen) (h0 : 0 ≤ left) (h1 : left ≤ 1048576) :
    Calls Try.prog 21 #[.slice ao n c, .int .i64 left] w fun r w' => r = .returned (.int .i64 (if (n : Int) ≤ left then left - n else -1)) ∧ w' = w := by
  unfold maxLen at hl
  go_enter Try.func21, Try.ntmps21
  go_wp2
  all_goals go_ret
  all_goals exact ⟨rfl, rfl⟩

set_option maxRecDepth 100000 in
set_option maxHeartbeats 400000 in
theorem szInts9_any (ao : Option Addr) (n c : Nat) (left : Int) (w : World) (hl : n ≤ maxLen) (h0 : 0 ≤ left) (h1 : left ≤ 1048576) :
    Calls Try.prog 22 #[.slice ao n c, .int .i64 left] w fun r w' => r = .returned (.int .i64 (if (n : Int) ≤ left then left - n else -1)) ∧ w' = w := by
  unfold maxLen at hl
  go_enter Try.func22, Try.ntmps22
  go_wp2
  all_goals go_ret
  all_goals exact ⟨rfl, rfl⟩

/-- The marks of n rows from k on. -/
def markR (k : Int) : VR := ⟨k, k + 1, k + 1 + 1⟩
def markRs (k : Int) (n : Nat) : List VR := (List.range n).map fun (i : Nat) => markR (k + 3 * i)

theorem markRs_length (k : Int) (n : Nat) : (markRs k n).length = n := by simp [markRs]
theorem markRs_succ (k : Int) (j : Nat) : markRs k (j + 1) = markRs k j ++ [markR (k + 3 * j)] := by simp [markRs, List.range_succ]
theorem markRs_at (k : Int) (n j : Nat) (h : j < n) : (markRs k n)[j]? = some (markR (k + 3 * j)) := by simp [markRs, List.getElem?_map, List.getElem?_range h]

set_option maxRecDepth 100000 in
set_option maxHeartbeats 2000000 in
theorem markVrows_at (base g n cap : Nat) (l : List VR) (k : Int) (w : World) (hown : w.ownsRow base 38 3 (.slice (some ⟨g, 0, none⟩) n cap) n (vrowF.all l)) (hn : n ≤ 16777216) (hk0 : 0 ≤ k) (hk1 : k ≤ 1099511627776) :
    Calls Try.prog 37 #[.slice (some ⟨g, 0, none⟩) n cap, .int .i64 k] w fun r w' => r = .returned (.int .i64 (k + 3 * n)) ∧ w'.ownsRow base 38 3 (.slice (some ⟨g, 0, none⟩) n cap) n (vrowF.all (markRs k n)) ∧ w.grownBy w' (some g) := by
  have hl : l.length = n := (grow_own (F := vrowF) hown).size
  go_enter Try.func37, Try.ntmps37
  go_wp2
  go_loopw [1, 5] (fun m i wr => ∃ j : Nat, j ≤ n ∧ i = .int .i64 j ∧ m = .int .i64 (k + 3 * j) ∧ wr.ownsRow base 38 3 (.slice (some ⟨g, 0, none⟩) n cap) n (vrowF.all (markRs k j ++ l.drop j)) ∧ w.grownBy wr (some g)) (fun _ i _ => n - (intOf i).toNat)
  case atStart => exact ⟨0, Nat.zero_le _, rfl, by simp, by simpa [markRs] using hown, World.grownBy.refl _ _⟩
  case round =>
    obtain ⟨j, hj, rfl, rfl, how, hg⟩ := hrel
    by_cases hlt : j < n
    · obtain ⟨x, hx⟩ : ∃ x, l[j]? = some x := ⟨l[j]'(by omega), List.getElem?_eq_getElem (by omega)⟩
      have hdr : l.drop j = x :: l.drop (j + 1) := by
        obtain ⟨h, rfl⟩ := List.getElem?_eq_some_iff.1 hx
        exact List.drop_eq_getElem_cons h
      rw [hdr] at how
      have hlj := markRs_length k j
      have hz : (markRs k j ++ x :: l.drop (j + 1))[j]? = some x := by rw [List.getElem?_append_right (by omega), hlj, Nat.sub_self]; rfl
      obtain ⟨⟨t0, t1, t2⟩, f0, f1, f2⟩ := vrow_cells how hz
      have o3 := vrow_put (y := markR (k + 3 * j)) how
      rw [hlj] at o3
      have HO3 := hide o3
      have HG := hide (grownTr hg (grown_set3 (w := wr) (g := g) (j * 3) (j * 3 + 1) (j * 3 + 2) (.int .i64 (markR (k + 3 * j)).i) (.int .i64 (markR (k + 3 * j)).m) (.int .i64 (markR (k + 3 * j)).b)))
      have HM := hide (markRs_succ k j)
      have hm : 0 ≤ k + 3 * (j : Int) ∧ k + 3 * (j : Int) ≤ 2199023255552 := by omega
      clear how hg hown o3 hz hdr
      generalize hK : k + 3 * (j : Int) = K at *
      go_wp2
      go_roundw
      case rel => exact ⟨j + 1, by omega, by go_num, by simp; omega, by rw [HM.out, List.append_assoc]; exact HO3.out, HG.out⟩
      case measure => simp [intOf]; omega
    · have hj' : j = n := by omega
      subst hj'
      rw [List.drop_eq_nil_of_le (by omega), List.append_nil] at how
      have HO := hide how
      clear how hown
      go_wp2
      go_ret
      exact ⟨rfl, HO.out, hg⟩

set_option maxRecDepth 100000 in
set_option maxHeartbeats 400000 in
theorem markVrows_nil (k : Int) (c : Nat) (w : World) :
    Calls Try.prog 37 #[.slice none 0 c, .int .i64 k] w fun r w' => r = .returned (.int .i64 k) ∧ w' = w := by
  go_enter Try.func37, Try.ntmps37
  go_wp2
  go_loop [1, 5] (fun m i => m = .int .i64 k ∧ i = .int .i64 0) (fun _ _ => 0)
  case atStart => exact ⟨rfl, rfl⟩
  case round =>
    obtain ⟨rfl, rfl⟩ := hrel
    go_wp2
    go_ret
    exact ⟨rfl, rfl⟩

theorem markVrows_grown (base : Nat) (ao : Option Addr) (n cap : Nat) (l : List VR) (k : Int) (w : World) (hown : w.ownsRow base 38 3 (.slice ao n cap) n (vrowF.all l)) (hn : n ≤ 16777216) (hk0 : 0 ≤ k) (hk1 : k ≤ 1099511627776) :
    Calls Try.prog 37 #[.slice ao n cap, .int .i64 k] w fun r w' => r = .returned (.int .i64 (k + 3 * n)) ∧ w'.ownsRow base 38 3 (.slice ao n cap) n (vrowF.all (markRs k n)) ∧ w.grownBy w' (Value.slice ao n cap).ownBlock := by
  rcases hown.2 with ⟨e, h0⟩ | ⟨g, cap', cur, e, -⟩
  · cases e
    refine (markVrows_nil k 0 w).mono ?_
    rintro r w' ⟨rfl, rfl⟩
    exact ⟨by simp, by simpa [markRs, Flat.all] using World.ownsRow_nil w' base 38 3, World.grownBy.refl _ _⟩
  · cases e
    exact markVrows_at base g n cap l k w hown hn hk0 hk1

set_option maxRecDepth 100000 in
set_option maxHeartbeats 2000000 in
theorem heldVrows_any (ao : Option Addr) (n cap : Nat) (k : Int) (w : World) (h1 : GRow vrowF w ao n cap (markRs k n)) (hn : n ≤ 16777216) (hk0 : 0 ≤ k) (hk1 : k ≤ 1099511627776) :
    Calls Try.prog 39 #[.slice ao n cap, .int .i64 k] w fun r w' => r = .returned (.int .i64 (k + 3 * n)) ∧ Below w.heap.size w w' := by
  go_enter Try.func39, Try.ntmps39
  go_wp2
  go_loopw [1, 5] (fun m i wr => ∃ j : Nat, j ≤ n ∧ i = .int .i64 j ∧ m = .int .i64 (k + 3 * j) ∧ Below w.heap.size w wr) (fun _ i _ => n - (intOf i).toNat)
  case atStart => exact ⟨0, Nat.zero_le _, rfl, by simp, Below.refl _ _⟩
  case round =>
    obtain ⟨j, hj, rfl, rfl, hb⟩ := hrel
    by_cases hlt : j < n
    · obtain ⟨x, b, off, hx, rfl, c0, c1, c2⟩ := vrow_at (h1.below hb) j hlt
      rw [markRs_at k n j hlt] at hx
      cases hx
      have hm : 0 ≤ k + 3 * (j : Int) ∧ k + 3 * (j : Int) ≤ 2199023255552 := by omega
      unfold markR at c0 c1 c2
      generalize hK : k + 3 * (j : Int) = K at *
      go_wp2
      go_roundw
      case rel => exact ⟨j + 1, by omega, by go_num, by simp; omega, hb⟩
      case measure => simp [intOf]; omega
    · have hj' : j = n := by omega
      subst hj'
      go_wp2
      go_ret
      exact ⟨rfl, hb⟩

set_option maxRecDepth 100000 in
set_option maxHeartbeats 2000000 in
theorem eqVrows_same (ao : Option Addr) (n c : Nat) (ao' : Option Addr) (n' c' : Nat) (l : List VR) (w : World) (hl : GRow vrowF w ao n c l) (hl' : GRow vrowF w ao' n' c' l) :
    Calls Try.prog 28 #[.slice ao n c, .slice ao' n' c'] w fun r w' => r = .returned (.bool true) ∧ Below w.heap.size w w' := by
  have hs := hl.size
  have hs' := hl'.size
  have htop := Nat.le_trans hl.le hl.top
  unfold maxLen at htop
  have hnn : n' = n := by omega
  subst hnn
  go_enter Try.func28, Try.ntmps28
  go_wp2
  go_loopw [5] (fun i wr => ∃ k : Nat, k ≤ n' ∧ i = .int .i64 k ∧ Below w.heap.size w wr) (fun i _ => n' - (intOf i).toNat)
  case atStart => exact ⟨0, Nat.zero_le _, rfl, Below.refl _ _⟩
  case round =>
    obtain ⟨k, hk, rfl, hb⟩ := hrel
    by_cases hlt : k < n'
    · obtain ⟨x, b, off, hx, rfl, a0, a1, a2⟩ := vrow_at (hl.below hb) k hlt
      obtain ⟨y, b', off', hy, rfl, e0, e1, e2⟩ := vrow_at (hl'.below hb) k hlt
      rw [hx] at hy
      cases hy
      have HS : Hid (∀ W, Below wr.heap.size wr W → (W.cell? ⟨b, off + k * 3, none⟩ = some (.int .i64 x.i) ∧ W.cell? ⟨b, off + k * 3 + 1, none⟩ = some (.int .i64 x.m) ∧ W.cell? ⟨b, off + k * 3 + 2, none⟩ = some (.int .i64 x.b)) ∧ (W.cell? ⟨b', off' + k * 3, none⟩ = some (.int .i64 x.i) ∧ W.cell? ⟨b', off' + k * 3 + 1, none⟩ = some (.int .i64 x.m) ∧ W.cell? ⟨b', off' + k * 3 + 2, none⟩ = some (.int .i64 x.b))) := hide (fun W h => ⟨at3h (hl.below hb) h hx, at3h (hl'.below hb) h hx⟩)
      have vv : Below wr.heap.size wr wr.drew := gr_drew (Below.refl _ _)
      have i1 : (0 : Int) ≤ (k : Int) := by omega
      have i2 : (k : Int) < (n' : Int) := by omega
      have HB := hide hb
      clear hb a0 a1 a2 e0 e1 e2 hx
      go_wp2_with fail
      refine wp_region_held_drew (S := (fun W => (W.cell? ⟨b, off + k * 3, none⟩ = some (.int .i64 x.i) ∧ W.cell? ⟨b, off + k * 3 + 1, none⟩ = some (.int .i64 x.m) ∧ W.cell? ⟨b, off + k * 3 + 2, none⟩ = some (.int .i64 x.b)) ∧ (W.cell? ⟨b', off' + k * 3, none⟩ = some (.int .i64 x.i) ∧ W.cell? ⟨b', off' + k * 3 + 1, none⟩ = some (.int .i64 x.m) ∧ W.cell? ⟨b', off' + k * 3 + 2, none⟩ = some (.int .i64 x.b)))) (by kernel_rfl) (HS.out _ vv) (fun hHeld => ?_)
      refine wpAnyH_take (i := 0) (oi := { dst := some 17, op := Op.move (Operand.tmp 0), type := 28, pos := "exact.go:657", after := #[], guard := none }) (v := ?_) rfl (by kernel_rfl) (by kernel_rfl) (by kernel_rfl) (fun _ _ _ h => h) (Or.inl ⟨by rfl, ?_⟩) (by assumption) ?_
      rotate_left
      · (intro wY hSw; (try dsimp only at hSw); go_simp; try with_reducible rfl)
      simp only [Act.put, List.setIfInBounds_toArray, List.set_cons_zero, List.set_cons_succ]
      refine wpAnyH_take (i := 1) (oi := { dst := some 18, op := Op.move (Operand.tmp 5), type := 3, pos := "exact.go:657", after := #[], guard := none }) (v := ?_) rfl (by kernel_rfl) (by kernel_rfl) (by kernel_rfl) (fun _ _ _ h => h) (Or.inl ⟨by rfl, ?_⟩) (by assumption) ?_
      rotate_left
      · (intro wY hSw; (try dsimp only at hSw); go_simp; try with_reducible rfl)
      simp only [Act.put, List.setIfInBounds_toArray, List.set_cons_zero, List.set_cons_succ]
      refine wpAnyH_take (i := 2) (oi := { dst := some 19, op := Op.indexAddr 28 (Operand.tmp 17) (Operand.tmp 18), type := 0, pos := "exact.go:657", after := #[{ on := 0, ground := Ground.data }, { on := 1, ground := Ground.data }], guard := none }) (v := ?_) rfl (by kernel_rfl) (by kernel_rfl) (by kernel_rfl) (fun _ _ _ h => h) (Or.inl ⟨by rfl, ?_⟩) (by assumption) ?_
      rotate_left
      · (intro wY hSw; (try dsimp only at hSw); go_simp; try with_reducible rfl)
      simp only [Act.put, List.setIfInBounds_toArray, List.set_cons_zero, List.set_cons_succ]
      refine wpAnyH_take (i := 3) (oi := { dst := some 20, op := Op.load 38 (Operand.tmp 19), type := 38, pos := "exact.go:657", after := #[{ on := 2, ground := Ground.data }], guard := none }) (v := ?_) rfl (by kernel_rfl) (by kernel_rfl) (by kernel_rfl) (fun _ _ _ h => h) (Or.inl ⟨by rfl, ?_⟩) (by assumption) ?_
      rotate_left
      · (intro wY hSw; (try dsimp only at hSw); go_simp; try with_reducible rfl)
      simp only [Act.put, List.setIfInBounds_toArray, List.set_cons_zero, List.set_cons_succ]
      refine wpAnyH_take (i := 4) (oi := { dst := some 21, op := Op.move (Operand.tmp 1), type := 28, pos := "exact.go:657", after := #[], guard := none }) (v := ?_) rfl (by kernel_rfl) (by kernel_rfl) (by kernel_rfl) (fun _ _ _ h => h) (Or.inl ⟨by rfl, ?_⟩) (by assumption) ?_
      rotate_left
      · (intro wY hSw; (try dsimp only at hSw); go_simp; try with_reducible rfl)
      simp only [Act.put, List.setIfInBounds_toArray, List.set_cons_zero, List.set_cons_succ]
      refine wpAnyH_take (i := 5) (oi := { dst := some 22, op := Op.move (Operand.tmp 5), type := 3, pos := "exact.go:657", after := #[], guard := none }) (v := ?_) rfl (by kernel_rfl) (by kernel_rfl) (by kernel_rfl) (fun _ _ _ h => h) (Or.inl ⟨by rfl, ?_⟩) (by assumption) ?_
      rotate_left
      · (intro wY hSw; (try dsimp only at hSw); go_simp; try with_reducible rfl)
      simp only [Act.put, List.setIfInBounds_toArray, List.set_cons_zero, List.set_cons_succ]
      refine wpAnyH_take (i := 6) (oi := { dst := some 23, op := Op.indexAddr 28 (Operand.tmp 21) (Operand.tmp 22), type := 0, pos := "exact.go:657", after := #[{ on := 4, ground := Ground.data }, { on := 5, ground := Ground.data }], guard := none }) (v := ?_) rfl (by kernel_rfl) (by kernel_rfl) (by kernel_rfl) (fun _ _ _ h => h) (Or.inl ⟨by rfl, ?_⟩) (by assumption) ?_
      rotate_left
      · (intro wY hSw; (try dsimp only at hSw); go_simp; try with_reducible rfl)
      simp only [Act.put, List.setIfInBounds_toArray, List.set_cons_zero, List.set_cons_succ]
      refine wpAnyH_take (i := 7) (oi := { dst := some 24, op := Op.load 38 (Operand.tmp 23), type := 38, pos := "exact.go:657", after := #[{ on := 6, ground := Ground.data }], guard := none }) (v := ?_) rfl (by kernel_rfl) (by kernel_rfl) (by kernel_rfl) (fun _ _ _ h => h) (Or.inl ⟨by rfl, ?_⟩) (by assumption) ?_
      rotate_left
      · (intro wY hSw; (try dsimp only at hSw); go_simp; try with_reducible rfl)
      simp only [Act.put, List.setIfInBounds_toArray, List.set_cons_zero, List.set_cons_succ]
      refine wpAnyH_ready (rs := [8]) (by kernel_rfl) (by simp) ?_
      refine AllReadyH.cons (o := { dst := some 25, op := Op.call { callee := Callee.value (Operand.func 47), args := #[Operand.tmp 20, Operand.tmp 24], argTypes := #[38, 38] }, type := 4, pos := "exact.go:657", after := #[{ on := 3, ground := Ground.data }, { on := 7, ground := Ground.data }], guard := none }) rfl (fun K hK => ?_) ?_
      · go_simp
        refine (eqVrow_same x _).mono ?_
        rintro r wz ⟨rfl, hbz⟩
        have vv := gr_trans vv hbz
        go_wp2_with fail
        refine hK.out _ _ (HS.out _ vv) (fun hHeld => ?_)
        clear hK K
        try simp only [Act.put, List.setIfInBounds_toArray, List.set_cons_zero, List.set_cons_succ]
        refine wpAnyH_take (i := 9) (oi := { dst := some 26, op := Op.unOp UnOp.not 4 (Operand.tmp 25), type := 4, pos := "exact.go:657", after := #[{ on := 8, ground := Ground.data }], guard := none }) (v := ?_) rfl (by kernel_rfl) (by kernel_rfl) (by kernel_rfl) (fun _ _ _ h => h) (Or.inl ⟨by rfl, ?_⟩) (by assumption) ?_
        rotate_left
        · (intro wY hSw; (try dsimp only at hSw); go_simp; try with_reducible rfl)
        simp only [Act.put, List.setIfInBounds_toArray, List.set_cons_zero, List.set_cons_succ]
        refine wpAnyH_done (by kernel_rfl) ?_ _
        have b1 := gr_trans HB.out vv
        clear HS hHeld vv
        go_wp2
        go_roundw
        case rel => exact ⟨k + 1, by omega, by go_num, b1⟩
        case measure => simp [intOf]; omega
      exact AllReadyH.nil
    · have hk' : k = n' := by omega
      subst hk'
      go_wp2
      go_ret
      exact ⟨rfl, hb⟩

end Go.Proofs.Ytafonmfgeecopab
