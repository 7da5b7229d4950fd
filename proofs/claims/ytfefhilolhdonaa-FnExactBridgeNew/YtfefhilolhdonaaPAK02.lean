/-
  Packed: VrowHelp FlatCopy RepFlat.
-/
import Derived.Test.YtfefhilolhdonaaPAK01
import Derived.Laws.CopyRow
import Derived.Lib.AppendZeros
import Derived.Lib.Overlaps
namespace Go.Proofs.Ytfefhilolhdonaa
open Go.RowKit

def VR.zero : VR := ⟨0, 0, 0⟩

theorem at3h {w w' : World} {b off n cap : Nat} {l : List VR} (h : GRow vrowF w (some ⟨b, off, none⟩) n cap l) (hb : Below w.heap.size w w') {i : Nat} {x : VR} (hx : l[i]? = some x) :
  w'.cell? ⟨b, off + i * 3, none⟩ = some (.int .i64 x.i) ∧ w'.cell? ⟨b, off + i * 3 + 1, none⟩ = some (.int .i64 x.m) ∧ w'.cell? ⟨b, off + i * 3 + 2, none⟩ = some (.int .i64 x.b) := by
 have hi : i < n := by
  have := (List.getElem?_eq_some_iff.1 hx).1
  have := h.size
  omega
 obtain ⟨y, b', off', hy, e, c⟩ := vrow_at (h.below hb) i hi
 cases e
 rw [hx] at hy
 cases hy
 exact c

theorem vrow_put {w : World} {base g n cap : Nat} {pre post : List VR} {x y : VR} (h : w.ownsRow base 71 3 (.slice (some ⟨g, 0, none⟩) n cap) n (vrowF.all (pre ++ x :: post))) :
  (((w.setCell ⟨g, pre.length * 3, none⟩ (.int .i64 y.i)).setCell ⟨g, pre.length * 3 + 1, none⟩ (.int .i64 y.m)).setCell ⟨g, pre.length * 3 + 2, none⟩ (.int .i64 y.b)).ownsRow base 71 3 (.slice (some ⟨g, 0, none⟩) n cap) n (vrowF.all (pre ++ y :: post)) := by
 have R0 := flat_stored (F := vrowF) (x' := ⟨y.i, x.m, x.b⟩) h 0 (.int .i64 y.i) (by decide) rfl
 have R1 := flat_stored (F := vrowF) (x' := ⟨y.i, y.m, x.b⟩) R0 1 (.int .i64 y.m) (by decide) rfl
 exact flat_stored (F := vrowF) (x' := y) R1 2 (.int .i64 y.b) (by decide) rfl

theorem grown_set3 {w : World} {g : Nat} (j0 j1 j2 : Nat) (u0 u1 u2 : Value) : w.grownBy (((w.setCell ⟨g, j0, none⟩ u0).setCell ⟨g, j1, none⟩ u1).setCell ⟨g, j2, none⟩ u2) (some g) :=
 grownTr (grownTr (grown_set _ _) (grown_set _ _)) (grown_set _ _)

theorem vrow_cells {w : World} {base g n cap : Nat} {T : TypeId} {l : List VR} (h : w.ownsRow base T 3 (.slice (some ⟨g, 0, none⟩) n cap) n (vrowF.all l)) {i : Nat} {x : VR} (hx : l[i]? = some x) :
  (w.cell? ⟨g, i * 3, none⟩ = some (.int .i64 x.i) ∧ w.cell? ⟨g, i * 3 + 1, none⟩ = some (.int .i64 x.m) ∧ w.cell? ⟨g, i * 3 + 2, none⟩ = some (.int .i64 x.b)) ∧
  (w.frozen? ⟨g, i * 3, none⟩ = false ∧ w.frozen? ⟨g, i * 3 + 1, none⟩ = false ∧ w.frozen? ⟨g, i * 3 + 2, none⟩ = false) := by
 have c0 := flat_cells (F := vrowF) h hx (j := 0) (v := .int .i64 x.i) rfl
 have c1 := flat_cells (F := vrowF) h hx (j := 1) (v := .int .i64 x.m) rfl
 have c2 := flat_cells (F := vrowF) h hx (j := 2) (v := .int .i64 x.b) rfl
 exact ⟨⟨c0.1, c1.1, c2.1⟩, c0.2, c1.2, c2.2⟩

set_option maxRecDepth 100000 in
set_option maxHeartbeats 400000 in
theorem eqVrow_same (e : VR) (w : World) :
  Calls Try.prog 75 #[.agg #[.int .i64 e.i, .int .i64 e.m, .int .i64 e.b], .agg #[.int .i64 e.i, .int .i64 e.m, .int .i64 e.b]] w fun r w' => r = .returned (.bool true) ∧ Below w.heap.size w w' := by
 go_enter Try.func75, Try.ntmps75
 go_wp2
 go_ret
 exact ⟨rfl, below_two _ _ _⟩

def markR (k : Int) : VR := ⟨k, k + 1, k + 1 + 1⟩
def markRs (k : Int) (n : Nat) : List VR := (List.range n).map fun (i : Nat) => markR (k + 3 * i)

theorem markRs_length (k : Int) (n : Nat) : (markRs k n).length = n := by simp [markRs]
theorem markRs_succ (k : Int) (j : Nat) : markRs k (j + 1) = markRs k j ++ [markR (k + 3 * j)] := by simp [markRs, List.range_succ]
theorem markRs_at (k : Int) (n j : Nat) (h : j < n) : (markRs k n)[j]? = some (markR (k + 3 * j)) := by simp [markRs, List.getElem?_map, List.getElem?_range h]

set_option maxRecDepth 100000 in
set_option maxHeartbeats 2000000 in
theorem markVrows_at (base g n cap : Nat) (l : List VR) (k : Int) (w : World) (hown : w.ownsRow base 71 3 (.slice (some ⟨g, 0, none⟩) n cap) n (vrowF.all l)) (hn : n ≤ 16777216) (hk0 : 0 ≤ k) (hk1 : k ≤ 1099511627776) :
  Calls Try.prog 49 #[.slice (some ⟨g, 0, none⟩) n cap, .int .i64 k] w fun r w' => r = .returned (.int .i64 (k + 3 * n)) ∧ w'.ownsRow base 71 3 (.slice (some ⟨g, 0, none⟩) n cap) n (vrowF.all (markRs k n)) ∧ w.grownBy w' (some g) := by
 have hl : l.length = n := (grow_own (F := vrowF) hown).size
 go_enter Try.func49, Try.ntmps49
 go_wp2
 go_loopw [1, 5] (fun m i wr => ∃ j : Nat, j ≤ n ∧ i = .int .i64 j ∧ m = .int .i64 (k + 3 * j) ∧ wr.ownsRow base 71 3 (.slice (some ⟨g, 0, none⟩) n cap) n (vrowF.all (markRs k j ++ l.drop j)) ∧ w.grownBy wr (some g)) (fun _ i _ => n - (intOf i).toNat)
 case atStart => exact ⟨0, Nat.zero_le _, rfl, by simp, by simpa [markRs] using hown, World.grownBy.refl _ _⟩
 case round =>
  obtain ⟨j, hj, rfl, rfl, how, hg⟩ := hrel
  by_cases hlt : j < n
  ·obtain ⟨x, hx⟩ : ∃ x, l[j]? = some x := ⟨l[j]'(by omega), List.getElem?_eq_getElem (by omega)⟩
   have hdr : l.drop j = x :: l.drop (j + 1) := by
    obtain ⟨h, rfl⟩ := List.getElem?_eq_some_iff.1 hx
    exact List.drop_eq_getElem_cons h
   rw [hdr] at how
   have hlj := markRs_length k j
   have hz : (markRs k j ++ x :: l.drop (j + 1))[j]? = some x := by rw [List.getElem?_append_right (by omega), hlj, Nat.sub_self]; rfl
   obtain ⟨⟨t0, t1, t2⟩, f0, f1, f2⟩ := vrow_cells how hz
   have o3 := vrow_put (y := markR (k + 3 * j)) how
   rw [hlj] at o3
   have HO3 := hide o3
   have HG := hide (grownTr hg (grown_set3 (w := wr) (g := g) (j * 3) (j * 3 + 1) (j * 3 + 2) (.int .i64 (markR (k + 3 * j)).i) (.int .i64 (markR (k + 3 * j)).m) (.int .i64 (markR (k + 3 * j)).b)))
   have HM := hide (markRs_succ k j)
   have hm : 0 ≤ k + 3 * (j : Int) ∧ k + 3 * (j : Int) ≤ 2199023255552 := by omega
   clear how hg hown o3 hz hdr
   generalize hK : k + 3 * (j : Int) = K at *
   go_wp2
   go_roundw
   case rel => exact ⟨j + 1, by omega, by go_num, by simp; omega, by rw [HM.out, List.append_assoc]; exact HO3.out, HG.out⟩
   case measure => simp [intOf]; omega
  ·have hj' : j = n := by omega
   subst hj'
   rw [List.drop_eq_nil_of_le (by omega), List.append_nil] at how
   have HO := hide how
   clear how hown
   go_wp2
   go_ret
   exact ⟨rfl, HO.out, hg⟩

set_option maxRecDepth 100000 in
set_option maxHeartbeats 400000 in
theorem markVrows_nil (k : Int) (c : Nat) (w : World) :
  Calls Try.prog 49 #[.slice none 0 c, .int .i64 k] w fun r w' => r = .returned (.int .i64 k) ∧ w' = w := by
 go_enter Try.func49, Try.ntmps49
 go_wp2
 go_loop [1, 5] (fun m i => m = .int .i64 k ∧ i = .int .i64 0) (fun _ _ => 0)
 case atStart => exact ⟨rfl, rfl⟩
 case round =>
  obtain ⟨rfl, rfl⟩ := hrel
  go_wp2
  go_ret
  exact ⟨rfl, rfl⟩

theorem markVrows_grown (base : Nat) (ao : Option Addr) (n cap : Nat) (l : List VR) (k : Int) (w : World) (hown : w.ownsRow base 71 3 (.slice ao n cap) n (vrowF.all l)) (hn : n ≤ 16777216) (hk0 : 0 ≤ k) (hk1 : k ≤ 1099511627776) :
  Calls Try.prog 49 #[.slice ao n cap, .int .i64 k] w fun r w' => r = .returned (.int .i64 (k + 3 * n)) ∧ w'.ownsRow base 71 3 (.slice ao n cap) n (vrowF.all (markRs k n)) ∧ w.grownBy w' (Value.slice ao n cap).ownBlock := by
 rcases hown.2 with ⟨e, h0⟩ | ⟨g, cap', cur, e, -⟩
 ·cases e
  refine (markVrows_nil k 0 w).mono ?_
  rintro r w' ⟨rfl, rfl⟩
  exact ⟨by simp, by simpa [markRs, Flat.all] using World.ownsRow_nil w' base 71 3, World.grownBy.refl _ _⟩
 ·cases e
  exact markVrows_at base g n cap l k w hown hn hk0 hk1

set_option maxRecDepth 100000 in
set_option maxHeartbeats 2000000 in
theorem heldVrows_any (ao : Option Addr) (n cap : Nat) (k : Int) (w : World) (h1 : GRow vrowF w ao n cap (markRs k n)) (hn : n ≤ 16777216) (hk0 : 0 ≤ k) (hk1 : k ≤ 1099511627776) :
  Calls Try.prog 51 #[.slice ao n cap, .int .i64 k] w fun r w' => r = .returned (.int .i64 (k + 3 * n)) ∧ Below w.heap.size w w' := by
 go_enter Try.func51, Try.ntmps51
 go_wp2
 go_loopw [1, 5] (fun m i wr => ∃ j : Nat, j ≤ n ∧ i = .int .i64 j ∧ m = .int .i64 (k + 3 * j) ∧ Below w.heap.size w wr) (fun _ i _ => n - (intOf i).toNat)
 case atStart => exact ⟨0, Nat.zero_le _, rfl, by simp, Below.refl _ _⟩
 case round =>
  obtain ⟨j, hj, rfl, rfl, hb⟩ := hrel
  by_cases hlt : j < n
  ·obtain ⟨x, b, off, hx, rfl, c0, c1, c2⟩ := vrow_at (h1.below hb) j hlt
   rw [markRs_at k n j hlt] at hx
   cases hx
   have hm : 0 ≤ k + 3 * (j : Int) ∧ k + 3 * (j : Int) ≤ 2199023255552 := by omega
   unfold markR at c0 c1 c2
   generalize hK : k + 3 * (j : Int) = K at *
   go_wp2
   go_roundw
   case rel => exact ⟨j + 1, by omega, by go_num, by simp; omega, hb⟩
   case measure => simp [intOf]; omega
  ·have hj' : j = n := by omega
   subst hj'
   go_wp2
   go_ret
   exact ⟨rfl, hb⟩

set_option maxRecDepth 100000 in
set_option maxHeartbeats 2000000 in
theorem eqVrows_same (ao : Option Addr) (n c : Nat) (ao' : Option Addr) (n' c' : Nat) (l : List VR) (w : World) (hl : GRow vrowF w ao n c l) (hl' : GRow vrowF w ao' n' c' l) :
  Calls Try.prog 47 #[.slice ao n c, .slice ao' n' c'] w fun r w' => r = .returned (.bool true) ∧ Below w.heap.size w w' := by
 have hs := hl.size
 have hs' := hl'.size
 have htop := Nat.le_trans hl.le hl.top
 unfold maxLen at htop
 have hnn : n' = n := by omega
 subst hnn
 go_enter Try.func47, Try.ntmps47
 go_wp2
 go_loopw [5] (fun i wr => ∃ k : Nat, k ≤ n' ∧ i = .int .i64 k ∧ Below w.heap.size w wr) (fun i _ => n' - (intOf i).toNat)
 case atStart => exact ⟨0, Nat.zero_le _, rfl, Below.refl _ _⟩
 case round =>
  obtain ⟨k, hk, rfl, hb⟩ := hrel
  by_cases hlt : k < n'
  ·obtain ⟨x, b, off, hx, rfl, a0, a1, a2⟩ := vrow_at (hl.below hb) k hlt
   obtain ⟨y, b', off', hy, rfl, e0, e1, e2⟩ := vrow_at (hl'.below hb) k hlt
   rw [hx] at hy
   cases hy
   have HS : Hid (∀ W, Below wr.heap.size wr W → (W.cell? ⟨b, off + k * 3, none⟩ = some (.int .i64 x.i) ∧ W.cell? ⟨b, off + k * 3 + 1, none⟩ = some (.int .i64 x.m) ∧ W.cell? ⟨b, off + k * 3 + 2, none⟩ = some (.int .i64 x.b)) ∧ (W.cell? ⟨b', off' + k * 3, none⟩ = some (.int .i64 x.i) ∧ W.cell? ⟨b', off' + k * 3 + 1, none⟩ = some (.int .i64 x.m) ∧ W.cell? ⟨b', off' + k * 3 + 2, none⟩ = some (.int .i64 x.b))) := hide (fun W h => ⟨at3h (hl.below hb) h hx, at3h (hl'.below hb) h hx⟩)
   have vv : Below wr.heap.size wr wr.drew := gr_drew (Below.refl _ _)
   have i1 : (0 : Int) ≤ (k : Int) := by omega
   have i2 : (k : Int) < (n' : Int) := by omega
   have HB := hide hb
   clear hb a0 a1 a2 e0 e1 e2 hx
   go_wp2_with fail
   refine wp_region_held_drew (S := (fun W => (W.cell? ⟨b, off + k * 3, none⟩ = some (.int .i64 x.i) ∧ W.cell? ⟨b, off + k * 3 + 1, none⟩ = some (.int .i64 x.m) ∧ W.cell? ⟨b, off + k * 3 + 2, none⟩ = some (.int .i64 x.b)) ∧ (W.cell? ⟨b', off' + k * 3, none⟩ = some (.int .i64 x.i) ∧ W.cell? ⟨b', off' + k * 3 + 1, none⟩ = some (.int .i64 x.m) ∧ W.cell? ⟨b', off' + k * 3 + 2, none⟩ = some (.int .i64 x.b)))) (by kernel_rfl) (HS.out _ vv) (fun hHeld => ?_)
   refine wpAnyH_take (i := 0) (oi := ⟨some 17, .move (.tmp 0), 24, "exact.go:657", #[], none⟩) (v := ?_) rfl (by kernel_rfl) (by kernel_rfl) (by kernel_rfl) (fun _ _ _ h => h) (Or.inl ⟨by rfl, ?_⟩) (by assumption) ?_
   rotate_left
   ·(intro wY hSw; (try dsimp only at hSw); go_simp; try with_reducible rfl)
   simp only [Act.put, lA, lB, lC]
   refine wpAnyH_take (i := 1) (oi := ⟨some 18, .move (.tmp 5), 3, "exact.go:657", #[], none⟩) (v := ?_) rfl (by kernel_rfl) (by kernel_rfl) (by kernel_rfl) (fun _ _ _ h => h) (Or.inl ⟨by rfl, ?_⟩) (by assumption) ?_
   rotate_left
   ·(intro wY hSw; (try dsimp only at hSw); go_simp; try with_reducible rfl)
   simp only [Act.put, lA, lB, lC]
   refine wpAnyH_take (i := 2) (oi := ⟨some 19, .indexAddr 24 (.tmp 17) (.tmp 18), 0, "exact.go:657", #[⟨0, .data⟩, ⟨1, .data⟩], none⟩) (v := ?_) rfl (by kernel_rfl) (by kernel_rfl) (by kernel_rfl) (fun _ _ _ h => h) (Or.inl ⟨by rfl, ?_⟩) (by assumption) ?_
   rotate_left
   ·(intro wY hSw; (try dsimp only at hSw); go_simp; try with_reducible rfl)
   simp only [Act.put, lA, lB, lC]
   refine wpAnyH_take (i := 3) (oi := ⟨some 20, .load 71 (.tmp 19), 71, "exact.go:657", #[⟨2, .data⟩], none⟩) (v := ?_) rfl (by kernel_rfl) (by kernel_rfl) (by kernel_rfl) (fun _ _ _ h => h) (Or.inl ⟨by rfl, ?_⟩) (by assumption) ?_
   rotate_left
   ·(intro wY hSw; (try dsimp only at hSw); go_simp; try with_reducible rfl)
   simp only [Act.put, lA, lB, lC]
   refine wpAnyH_take (i := 4) (oi := ⟨some 21, .move (.tmp 1), 24, "exact.go:657", #[], none⟩) (v := ?_) rfl (by kernel_rfl) (by kernel_rfl) (by kernel_rfl) (fun _ _ _ h => h) (Or.inl ⟨by rfl, ?_⟩) (by assumption) ?_
   rotate_left
   ·(intro wY hSw; (try dsimp only at hSw); go_simp; try with_reducible rfl)
   simp only [Act.put, lA, lB, lC]
   refine wpAnyH_take (i := 5) (oi := ⟨some 22, .move (.tmp 5), 3, "exact.go:657", #[], none⟩) (v := ?_) rfl (by kernel_rfl) (by kernel_rfl) (by kernel_rfl) (fun _ _ _ h => h) (Or.inl ⟨by rfl, ?_⟩) (by assumption) ?_
   rotate_left
   ·(intro wY hSw; (try dsimp only at hSw); go_simp; try with_reducible rfl)
   simp only [Act.put, lA, lB, lC]
   refine wpAnyH_take (i := 6) (oi := ⟨some 23, .indexAddr 24 (.tmp 21) (.tmp 22), 0, "exact.go:657", #[⟨4, .data⟩, ⟨5, .data⟩], none⟩) (v := ?_) rfl (by kernel_rfl) (by kernel_rfl) (by kernel_rfl) (fun _ _ _ h => h) (Or.inl ⟨by rfl, ?_⟩) (by assumption) ?_
   rotate_left
   ·(intro wY hSw; (try dsimp only at hSw); go_simp; try with_reducible rfl)
   simp only [Act.put, lA, lB, lC]
   refine wpAnyH_take (i := 7) (oi := ⟨some 24, .load 71 (.tmp 23), 71, "exact.go:657", #[⟨6, .data⟩], none⟩) (v := ?_) rfl (by kernel_rfl) (by kernel_rfl) (by kernel_rfl) (fun _ _ _ h => h) (Or.inl ⟨by rfl, ?_⟩) (by assumption) ?_
   rotate_left
   ·(intro wY hSw; (try dsimp only at hSw); go_simp; try with_reducible rfl)
   simp only [Act.put, lA, lB, lC]
   refine wpAnyH_ready (rs := [8]) (by kernel_rfl) (by simp) ?_
   refine AllReadyH.cons (o := ⟨some 25, .call ⟨.value (.func 75), #[.tmp 20, .tmp 24], #[71, 71]⟩, 4, "exact.go:657", #[⟨3, .data⟩, ⟨7, .data⟩], none⟩) rfl (fun K hK => ?_) ?_
   ·go_simp
    refine (eqVrow_same x _).mono ?_
    rintro r wz ⟨rfl, hbz⟩
    have vv := gr_trans vv hbz
    go_wp2_with fail
    refine hK.out _ _ (HS.out _ vv) (fun hHeld => ?_)
    clear hK K
    try simp only [Act.put, lA, lB, lC]
    refine wpAnyH_take (i := 9) (oi := ⟨some 26, .unOp .not 4 (.tmp 25), 4, "exact.go:657", #[⟨8, .data⟩], none⟩) (v := ?_) rfl (by kernel_rfl) (by kernel_rfl) (by kernel_rfl) (fun _ _ _ h => h) (Or.inl ⟨by rfl, ?_⟩) (by assumption) ?_
    rotate_left
    ·(intro wY hSw; (try dsimp only at hSw); go_simp; try with_reducible rfl)
    simp only [Act.put, lA, lB, lC]
    refine wpAnyH_done (by kernel_rfl) ?_ _
    have b1 := gr_trans HB.out vv
    clear HS hHeld vv
    go_wp2
    go_roundw
    case rel => exact ⟨k + 1, by omega, by go_num, b1⟩
    case measure => simp [intOf]; omega
   exact AllReadyH.nil
  ·have hk' : k = n' := by omega
   subst hk'
   go_wp2
   go_ret
   exact ⟨rfl, hb⟩

theorem run_copy_flat {P : Program} (w : World) (dT sT ty elem : TypeId) (g o dLen dCap : Nat) (a : Addr) (sLen sCap : Nat) (cur : Array Value) (t : TypeId) (cs : List Value) (K : Nat)
  (hu : P.underlying dT = some (.slice elem)) (hs : (P.info? elem).map (·.size) = some K)
  (hg : w.heap[g]? = some (.cells cur t (0, 0))) (hn : cs.length = Nat.min sLen dLen * K)
  (hsrc : ∀ j v, cs[j]? = some v → w.cell? (a.add j) = some v) (hfit : o + cs.length ≤ cur.size) (h1 : ∀ v ∈ cs, v.oneCell' = true) :
  (Builtin.copy_ #[dT, sT] ty #[.slice (some ⟨g, o, none⟩) dLen dCap, .slice (some a) sLen sCap]).run P w =
   .ok (goInt (Nat.min sLen dLen)) (w.setRow g (cur.toList.take o ++ cs ++ cur.toList.drop (o + cs.length)).toArray) := by
 have hl := run_loadCells_list (P := P) w a cs hsrc
 have hst := run_storeCells_at P g o t cs 0 cur w hg (by simpa using hfit) h1
 cases hq : P.info? elem with
 | none => simp [hq] at hs
 | some i =>
  have hi : i.size = K := by simpa [hq] using hs
  simp [Builtin.copy_, run_underlying hu, Builtin.lenOf, Builtin.firstCells, sizeOf, typeInfo, hq, hi, ← hn, hl, hst]

theorem wp_copy_eq {P : Program} (w : World) {o : Oper} {a : Act} {K : Act → World → Prop} {Q : Exit → Act → World → Prop} (d s : Operand) (t t' : TypeId)
  (ho : o.op = .call { callee := .builtin .copy, args := #[d, s], argTypes := #[t, t'] }) (v u : Value) (hd : a.eval d = v) (hs : a.eval s = u) {v' : Value} {w' : World}
  (hr : (Builtin.copy_ #[t, t'] o.type #[v, u]).run P w = .ok v' w') (h : K (a.put o.dst v') w') : o.wp P a w K Q := by
 unfold Oper.wp execOp
 simp only [ho, resolve, invoke, builtin, Sem.run_bind, Sem.run_pure, Result.andThen_ok, List.map_toArray, List.map_cons, List.map_nil, hd, hs, hr]
 exact h

theorem wpList_copy_eq {P : Program} (w : World) {ops : Array Oper} {rest : List Oper} {o : Oper} {a : Act} {Q : Exit → Act → World → Prop} (hgd : o.guard = none) (d s : Operand) (t t' : TypeId)
  (ho : o.op = .call { callee := .builtin .copy, args := #[d, s], argTypes := #[t, t'] }) (v u : Value) (hd : a.eval d = v) (hs : a.eval s = u) {v' : Value} {w' : World}
  (hr : (Builtin.copy_ #[t, t'] o.type #[v, u]).run P w = .ok v' w') (h : wpList P ops Q rest (a.put o.dst v') w') : wpList P ops Q (o :: rest) a w :=
 wpList_plain hgd fun _ hK => wp_copy_eq w d s t t' ho v u hd hs hr (hK _ _ h)

theorem step_copy_eq {P : Program} {ops : Array Oper} {o : Oper} {a : Act} {w : World} {K : Act → World → Prop} {Q : Exit → Act → World → Prop} {E : Prop}
  (hg : o.guard = none) (d x : Operand) (dT sT : TypeId) (hop : o.op = Op.call { callee := Callee.builtin Builtin.copy, args := #[d, x], argTypes := #[dT, sT] })
  (v u : Value) (hd : a.eval d = v) (hx : a.eval x = u) {v' : Value} {w' : World} (hr : (Builtin.copy_ #[dT, sT] o.type #[v, u]).run P w = .ok v' w') (hK : K (a.put o.dst v') w') :
  if Region.wanted o (yielded ops a.tmps) = true then Oper.wp P o a w K Q else E := by
 have hw : Region.wanted o (yielded ops a.tmps) = true := by simp [Region.wanted, hg]
 rw [if_pos hw]
 unfold Oper.wp
 simp [execOp, hop, resolve, invoke, builtin, hd, hx, hr, Result.andThen]
 exact hK

section
open Go.RowKit

variable {α : Type}

def repTo (x z : α) (p k : Nat) : List α := List.replicate k x ++ List.replicate (p - k) z

theorem rep_copy (F : Flat α) {P : Program} {tS T : TypeId} (hu : P.underlying tS = some (.slice T)) (hsz : (P.info? T).map (·.size) = some F.k) {x z : α} {w : World} {base g p k m : Nat} (h : w.ownsRow base T F.k (.slice (some ⟨g, 0, none⟩) p p) p (F.all (repTo x z p k))) (hk : k + m ≤ p) {a : Addr} {dl sl : Nat} (hmin : Nat.min sl dl = m) (hsrc : ∀ j v, (F.all (List.replicate m x))[j]? = some v → w.cell? (a.add j) = some v) :
  ∃ w', (∀ ty dc sc, (Builtin.copy_ #[tS, tS] ty #[.slice (some ⟨g, k * F.k, none⟩) dl dc, .slice (some a) sl sc]).run P w = .ok (goInt m) w') ∧ w'.ownsRow base T F.k (.slice (some ⟨g, 0, none⟩) p p) p (F.all (repTo x z p (k + m))) ∧ w.grownBy w' (some g) := by
 obtain ⟨hlen, ⟨hv, h0⟩ | ⟨g', cap', cur, hv, hg, hh, h1, h2, h3, h4⟩⟩ := h
 ·cases hv
 ·cases hv
  have hcl : (F.all (List.replicate m x)).length = m * F.k := by rw [F.all_length, List.length_replicate]
  have hcl0 : (F.all (List.replicate k x)).length = k * F.k := by rw [F.all_length, List.length_replicate]
  have hle : k * F.k + m * F.k ≤ p * F.k := by rw [← Nat.add_mul]; exact Nat.mul_le_mul_right _ hk
  have hfit : k * F.k + (F.all (List.replicate m x)).length ≤ cur.size := by rw [hcl, h3]; exact hle
  have hcur : cur.toList = F.all (List.replicate k x) ++ (F.all (List.replicate m z) ++ F.all (List.replicate (p - (k + m)) z)) := by
   have e : cur.toList = F.all (repTo x z p k) := by rw [← h4, List.take_of_length_le (by simp [h3])]
   rw [e]
   unfold repTo
   rw [F.all_append, ← F.all_append (List.replicate m z), List.replicate_append_replicate, show m + (p - (k + m)) = p - k by omega]
  have hclz : (F.all (List.replicate m z)).length = m * F.k := by rw [F.all_length, List.length_replicate]
  have hnew : cur.toList.take (k * F.k) ++ F.all (List.replicate m x) ++ cur.toList.drop (k * F.k + (F.all (List.replicate m x)).length) = F.all (repTo x z p (k + m)) := by
   rw [hcl, hcur, List.take_append_of_le_length (by omega), List.take_of_length_le (by omega)]
   rw [← List.append_assoc, List.drop_append, List.drop_eq_nil_of_le (by rw [List.length_append, hcl0, hclz]; omega), List.nil_append, List.length_append, hcl0, hclz, Nat.sub_self, List.drop_zero]
   unfold repTo
   rw [← List.replicate_append_replicate, F.all_append, F.all_append]
  refine ⟨w.setRow g (cur.toList.take (k * F.k) ++ F.all (List.replicate m x) ++ cur.toList.drop (k * F.k + (F.all (List.replicate m x)).length)).toArray, fun ty dc sc => ?_, ⟨?_, .inr ⟨g, p, _, rfl, hg, setRow_heap w g cur _ T _ hh, Nat.le_refl _, h2, ?_, ?_⟩⟩, ?_⟩
  ·have := run_copy_flat (P := P) w tS tS ty T g (k * F.k) dl dc a sl sc cur T (F.all (List.replicate m x)) F.k hu hsz hh (by rw [hcl, hmin]) hsrc hfit (F.all_oneCell _)
   rw [hmin] at this
   exact this
  ·rw [F.all_length]
   unfold repTo
   simp
   rw [show k + m + (p - (k + m)) = p by omega]
  ·rw [hnew]
   simp only [List.size_toArray]
   rw [F.all_length]
   unfold repTo
   simp
   rw [show k + m + (p - (k + m)) = p by omega]
  ·rw [hnew]
   simp only
   rw [List.take_of_length_le]
   rw [F.all_length]
   unfold repTo
   simp
   exact Nat.mul_le_mul_right _ (by omega)
  ·refine ⟨rfl, rfl, rfl, ?_, ?_⟩
   ·simp [World.setRow]
   ·intro i hi hkg
    rw [setRow_other _ _ _ _ (fun e => hkg (by rw [e]))]

end

end Go.Proofs.Ytfefhilolhdonaa
