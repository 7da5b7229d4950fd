/-
  Packed: VrowHelp PtLaws BrLaws PtBest.
-/
import Derived.Test.YtfefhilolhdonaaGreatPLK01
import Derived.Test.YtfefhilolhdonaaGreatPLK02
import Derived.Deep.CutRange
namespace Go.Proofs.YtfefhilolhdonaaGreat
open Go.RowKit

set_option maxRecDepth 100000 in
set_option maxHeartbeats 400000 in
theorem toVrow_made (e : VR) (w : World) :
  Calls Tryz.prog 172 #[.agg #[.int .i64 e.i, .int .i64 e.m, .int .i64 e.b]] w fun r w' => r = .returned (.agg #[.int .i64 e.i, .int .i64 e.m, .int .i64 e.b]) ∧ Below w.heap.size w w' := by
 go_enter Tryz.func172, Tryz.ntmps172
 go_wp2
 exact bodyPost_ret (v := .agg #[.int .i64 e.i, .int .i64 e.m, .int .i64 e.b]) (by simp [results, Tryz.results172, go_sem, *]) rfl ⟨rfl, below_three _ _ _ _⟩

theorem vrowInfoH : (Tryz.prog.info? 95).map (fun i => (i.zero, i.size, i.bytes)) = some (some (.agg #[.int .i64 0, .int .i64 0, .int .i64 0]), 3, 24) := by kernel_rfl

def VR.zero : VR := ⟨0, 0, 0⟩

theorem at3h {w w' : World} {b off n cap : Nat} {l : List VR} (h : GRow vrowF w (some ⟨b, off, none⟩) n cap l) (hb : Below w.heap.size w w') {i : Nat} {x : VR} (hx : l[i]? = some x) :
  w'.cell? ⟨b, off + i * 3, none⟩ = some (.int .i64 x.i) ∧ w'.cell? ⟨b, off + i * 3 + 1, none⟩ = some (.int .i64 x.m) ∧ w'.cell? ⟨b, off + i * 3 + 2, none⟩ = some (.int .i64 x.b) := by
 have hi : i < n := by
  have := (List.getElem?_eq_some_iff.1 hx).1
  have := h.size
  omega
 obtain ⟨y, b', off', hy, e, c⟩ := vrow_at (h.below hb) i hi
 cases e
 rw [hx] at hy
 cases hy
 exact c

theorem vrow_put {w : World} {base g n cap : Nat} {pre post : List VR} {x y : VR} (h : w.ownsRow base 95 3 (.slice (some ⟨g, 0, none⟩) n cap) n (vrowF.all (pre ++ x :: post))) :
  (((w.setCell ⟨g, pre.length * 3, none⟩ (.int .i64 y.i)).setCell ⟨g, pre.length * 3 + 1, none⟩ (.int .i64 y.m)).setCell ⟨g, pre.length * 3 + 2, none⟩ (.int .i64 y.b)).ownsRow base 95 3 (.slice (some ⟨g, 0, none⟩) n cap) n (vrowF.all (pre ++ y :: post)) := by
 have R0 := flat_stored (F := vrowF) (x' := ⟨y.i, x.m, x.b⟩) h 0 (.int .i64 y.i) (by decide) rfl
 have R1 := flat_stored (F := vrowF) (x' := ⟨y.i, y.m, x.b⟩) R0 1 (.int .i64 y.m) (by decide) rfl
 exact flat_stored (F := vrowF) (x' := y) R1 2 (.int .i64 y.b) (by decide) rfl

theorem grown_set3 {w : World} {g : Nat} (j0 j1 j2 : Nat) (u0 u1 u2 : Value) : w.grownBy (((w.setCell ⟨g, j0, none⟩ u0).setCell ⟨g, j1, none⟩ u1).setCell ⟨g, j2, none⟩ u2) (some g) :=
 grownTr (grownTr (grown_set _ _) (grown_set _ _)) (grown_set _ _)

theorem vrow_cells {w : World} {base g n cap : Nat} {T : TypeId} {l : List VR} (h : w.ownsRow base T 3 (.slice (some ⟨g, 0, none⟩) n cap) n (vrowF.all l)) {i : Nat} {x : VR} (hx : l[i]? = some x) :
  (w.cell? ⟨g, i * 3, none⟩ = some (.int .i64 x.i) ∧ w.cell? ⟨g, i * 3 + 1, none⟩ = some (.int .i64 x.m) ∧ w.cell? ⟨g, i * 3 + 2, none⟩ = some (.int .i64 x.b)) ∧
  (w.frozen? ⟨g, i * 3, none⟩ = false ∧ w.frozen? ⟨g, i * 3 + 1, none⟩ = false ∧ w.frozen? ⟨g, i * 3 + 2, none⟩ = false) := by
 have c0 := flat_cells (F := vrowF) h hx (j := 0) (v := .int .i64 x.i) rfl
 have c1 := flat_cells (F := vrowF) h hx (j := 1) (v := .int .i64 x.m) rfl
 have c2 := flat_cells (F := vrowF) h hx (j := 2) (v := .int .i64 x.b) rfl
 exact ⟨⟨c0.1, c1.1, c2.1⟩, c0.2, c1.2, c2.2⟩

set_option maxRecDepth 100000 in
set_option maxHeartbeats 2000000 in
theorem toVrows_made (ao : Option Addr) (n c : Nat) (l : List VR) (w : World) (hl : GRow vrowF w ao n c l) (hs : n ≤ 1048576) :
  Calls Tryz.prog 141 #[.slice ao n c] w fun r w' => ∃ ao' cap, r = .returned (.slice ao' n cap) ∧ w'.ownsRow w.heap.size 95 3 (.slice ao' n cap) n (vrowF.all l) ∧ GRow vrowF w' ao' n cap l ∧ Below w.heap.size w w' := by
 obtain ⟨i0, hi, hz0, hz1, hz2⟩ := finfo_parts vrowInfoH
 have s1 := hl.size
 go_enter Tryz.func141, Tryz.ntmps141
 go_wp2_with (at_make; refine wpList_make_full _ rfl _ _ 26 rfl w.heap.size 95 i0 (.agg #[.int .i64 0, .int .i64 0, .int .i64 0]) 3 Tryz.underlying26 hi hz0 hz1 .i64 .i64 _ _ n rfl rfl rfl rfl ?c1 ?c2 ?c3 ?_)
 case c1 => rw [hz2]; omega
 case c2 => unfold maxLen; omega
 case c3 => exact Nat.le_refl _
 intro w1 hown hgrow
 have hb1 : Below w.heap.size w w1 := (Below.refl _ _).grown hgrow (Nat.le_refl _) (by intro k hk; cases hk)
 have hown1 : w1.ownsRow w.heap.size 95 3 (.slice (some ⟨w.heap.size, 0, none⟩) n n) n (vrowF.all (l.take 0 ++ List.replicate (n - 0) VR.zero)) := by
  rw [List.take_zero, List.nil_append, Nat.sub_zero, ← flat_made]; exact hown
 clear hown hgrow hi hz0 hz1 hz2
 go_wp2
 go_loopw [4] (fun i wr => ∃ k : Nat, k ≤ n ∧ i = .int .i64 k ∧ wr.ownsRow w.heap.size 95 3 (.slice (some ⟨w.heap.size, 0, none⟩) n n) n (vrowF.all (l.take k ++ List.replicate (n - k) VR.zero)) ∧ Below w.heap.size w wr) (fun i _ => n - (intOf i).toNat)
 case atStart => exact ⟨0, Nat.zero_le _, rfl, hown1, hb1⟩
 case round =>
  obtain ⟨k, hk, rfl, ho, hb⟩ := hrel
  clear hown1 hb1
  by_cases hlt : k < n
  ·obtain ⟨x, b, off, hx, rfl, a0, a1, a2⟩ := vrow_at (hl.below hb) k hlt
   have hrep : List.replicate (n - k) VR.zero = VR.zero :: List.replicate (n - (k + 1)) VR.zero := by rw [← List.replicate_succ]; congr 1; omega
   have hlk : (l.take k).length = k := by rw [List.length_take]; omega
   rw [hrep] at ho
   have htk : l.take (k + 1) = l.take k ++ [x] := by rw [List.take_add_one, hx]; rfl
   have HTK := hide htk
   have HB := hide hb
   have HO := hide ho
   have HX := hide hx
   clear hb ho htk hx
   go_wp2_with fail
   refine (toVrow_made x _).mono ?_
   rintro r w2 ⟨rfl, hb2⟩
   have ho2 := gown_below HO.out hb2
   have hz : (l.take k ++ VR.zero :: List.replicate (n - (k + 1)) VR.zero)[k]? = some VR.zero := by rw [List.getElem?_append_right (by omega), hlk, Nat.sub_self]; rfl
   obtain ⟨⟨t0, t1, t2⟩, f0, f1, f2⟩ := vrow_cells ho2 hz
   have o3 := vrow_put (y := x) ho2
   rw [hlk] at o3
   have HO3 := hide o3
   have hb3 := gr_trans HB.out hb2
   have HB3 := hide (hb3.grown (grown_set3 (w := w2) (g := w.heap.size) (k * 3) (k * 3 + 1) (k * 3 + 2) (.int .i64 x.i) (.int .i64 x.m) (.int .i64 x.b)) hb3.size (by intro j e; cases e; exact Nat.le_refl _))
   clear ho2 hb2 hb3 o3 hz a0 a1 a2
   go_wp2
   go_roundw
   case rel => exact ⟨k + 1, by omega, by go_num, by rw [HTK.out, List.append_assoc]; exact HO3.out, HB3.out⟩
   case measure => simp [intOf]; omega
  ·have hkn : k = n := by omega
   subst hkn
   rw [Nat.sub_self, List.take_of_length_le (by omega), List.replicate_zero, List.append_nil] at ho
   have HO := hide ho
   have HR := hide (grow_own ho)
   have HB := hide hb
   clear ho hb
   go_wp2
   go_ret
   exact ⟨_, _, rfl, HO.out, HR.out, HB.out⟩

set_option maxRecDepth 100000 in
set_option maxHeartbeats 400000 in
theorem eqVrow_same (e : VR) (w : World) :
  Calls Tryz.prog 174 #[.agg #[.int .i64 e.i, .int .i64 e.m, .int .i64 e.b], .agg #[.int .i64 e.i, .int .i64 e.m, .int .i64 e.b]] w fun r w' => r = .returned (.bool true) ∧ Below w.heap.size w w' := by
 go_enter Tryz.func174, Tryz.ntmps174
 go_wp2
 go_ret
 exact ⟨rfl, below_two _ _ _⟩

set_option maxRecDepth 100000 in
set_option maxHeartbeats 400000 in
theorem szVrows_any (ao : Option Addr) (n c : Nat) (left : Int) (w : World) (hl : n ≤ maxLen) (h0 : 0 ≤ left) (h1 : left ≤ 1048576) :
  Calls Tryz.prog 137 #[.slice ao n c, .int .i64 left] w fun r w' => r = .returned (.int .i64 (if (n : Int) ≤ left then left - n else -1)) ∧ w' = w := by
 unfold maxLen at hl
 go_enter Tryz.func137, Tryz.ntmps137
 go_wp2
 all_goals go_ret
 all_goals exact ⟨rfl, rfl⟩

set_option maxRecDepth 100000 in
set_option maxHeartbeats 400000 in
theorem szInts9_any (ao : Option Addr) (n c : Nat) (left : Int) (w : World) (hl : n ≤ maxLen) (h0 : 0 ≤ left) (h1 : left ≤ 1048576) :
  Calls Tryz.prog 138 #[.slice ao n c, .int .i64 left] w fun r w' => r = .returned (.int .i64 (if (n : Int) ≤ left then left - n else -1)) ∧ w' = w := by
 unfold maxLen at hl
 go_enter Tryz.func138, Tryz.ntmps138
 go_wp2
 all_goals go_ret
 all_goals exact ⟨rfl, rfl⟩

def markR (k : Int) : VR := ⟨k, k + 1, k + 1 + 1⟩
def markRs (k : Int) (n : Nat) : List VR := (List.range n).map fun (i : Nat) => markR (k + 3 * i)

theorem markRs_length (k : Int) (n : Nat) : (markRs k n).length = n := by simp [markRs]
theorem markRs_succ (k : Int) (j : Nat) : markRs k (j + 1) = markRs k j ++ [markR (k + 3 * j)] := by simp [markRs, List.range_succ]
theorem markRs_at (k : Int) (n j : Nat) (h : j < n) : (markRs k n)[j]? = some (markR (k + 3 * j)) := by simp [markRs, List.getElem?_map, List.getElem?_range h]

set_option maxRecDepth 100000 in
set_option maxHeartbeats 2000000 in
theorem markVrows_at (base g n cap : Nat) (l : List VR) (k : Int) (w : World) (hown : w.ownsRow base 95 3 (.slice (some ⟨g, 0, none⟩) n cap) n (vrowF.all l)) (hn : n ≤ 16777216) (hk0 : 0 ≤ k) (hk1 : k ≤ 1099511627776) :
  Calls Tryz.prog 147 #[.slice (some ⟨g, 0, none⟩) n cap, .int .i64 k] w fun r w' => r = .returned (.int .i64 (k + 3 * n)) ∧ w'.ownsRow base 95 3 (.slice (some ⟨g, 0, none⟩) n cap) n (vrowF.all (markRs k n)) ∧ w.grownBy w' (some g) := by
 have hl : l.length = n := (grow_own (F := vrowF) hown).size
 go_enter Tryz.func147, Tryz.ntmps147
 go_wp2
 go_loopw [1, 5] (fun m i wr => ∃ j : Nat, j ≤ n ∧ i = .int .i64 j ∧ m = .int .i64 (k + 3 * j) ∧ wr.ownsRow base 95 3 (.slice (some ⟨g, 0, none⟩) n cap) n (vrowF.all (markRs k j ++ l.drop j)) ∧ w.grownBy wr (some g)) (fun _ i _ => n - (intOf i).toNat)
 case atStart => exact ⟨0, Nat.zero_le _, rfl, by simp, by simpa [markRs] using hown, World.grownBy.refl _ _⟩
 case round =>
  obtain ⟨j, hj, rfl, rfl, how, hg⟩ := hrel
  by_cases hlt : j < n
  ·obtain ⟨x, hx⟩ : ∃ x, l[j]? = some x := ⟨l[j]'(by omega), List.getElem?_eq_getElem (by omega)⟩
   have hdr : l.drop j = x :: l.drop (j + 1) := by
    obtain ⟨h, rfl⟩ := List.getElem?_eq_some_iff.1 hx
    exact List.drop_eq_getElem_cons h
   rw [hdr] at how
   have hlj := markRs_length k j
   have hz : (markRs k j ++ x :: l.drop (j + 1))[j]? = some x := by rw [List.getElem?_append_right (by omega), hlj, Nat.sub_self]; rfl
   obtain ⟨⟨t0, t1, t2⟩, f0, f1, f2⟩ := vrow_cells how hz
   have o3 := vrow_put (y := markR (k + 3 * j)) how
   rw [hlj] at o3
   have HO3 := hide o3
   have HG := hide (grownTr hg (grown_set3 (w := wr) (g := g) (j * 3) (j * 3 + 1) (j * 3 + 2) (.int .i64 (markR (k + 3 * j)).i) (.int .i64 (markR (k + 3 * j)).m) (.int .i64 (markR (k + 3 * j)).b)))
   have HM := hide (markRs_succ k j)
   have hm : 0 ≤ k + 3 * (j : Int) ∧ k + 3 * (j : Int) ≤ 2199023255552 := by omega
   clear how hg hown o3 hz hdr
   generalize hK : k + 3 * (j : Int) = K at *
   go_wp2
   go_roundw
   case rel => exact ⟨j + 1, by omega, by go_num, by simp; omega, by rw [HM.out, List.append_assoc]; exact HO3.out, HG.out⟩
   case measure => simp [intOf]; omega
  ·have hj' : j = n := by omega
   subst hj'
   rw [List.drop_eq_nil_of_le (by omega), List.append_nil] at how
   have HO := hide how
   clear how hown
   go_wp2
   go_ret
   exact ⟨rfl, HO.out, hg⟩

set_option maxRecDepth 100000 in
set_option maxHeartbeats 400000 in
theorem markVrows_nil (k : Int) (c : Nat) (w : World) :
  Calls Tryz.prog 147 #[.slice none 0 c, .int .i64 k] w fun r w' => r = .returned (.int .i64 k) ∧ w' = w := by
 go_enter Tryz.func147, Tryz.ntmps147
 go_wp2
 go_loop [1, 5] (fun m i => m = .int .i64 k ∧ i = .int .i64 0) (fun _ _ => 0)
 case atStart => exact ⟨rfl, rfl⟩
 case round =>
  obtain ⟨rfl, rfl⟩ := hrel
  go_wp2
  go_ret
  exact ⟨rfl, rfl⟩

theorem markVrows_grown (base : Nat) (ao : Option Addr) (n cap : Nat) (l : List VR) (k : Int) (w : World) (hown : w.ownsRow base 95 3 (.slice ao n cap) n (vrowF.all l)) (hn : n ≤ 16777216) (hk0 : 0 ≤ k) (hk1 : k ≤ 1099511627776) :
  Calls Tryz.prog 147 #[.slice ao n cap, .int .i64 k] w fun r w' => r = .returned (.int .i64 (k + 3 * n)) ∧ w'.ownsRow base 95 3 (.slice ao n cap) n (vrowF.all (markRs k n)) ∧ w.grownBy w' (Value.slice ao n cap).ownBlock := by
 rcases hown.2 with ⟨e, h0⟩ | ⟨g, cap', cur, e, -⟩
 ·cases e
  refine (markVrows_nil k 0 w).mono ?_
  rintro r w' ⟨rfl, rfl⟩
  exact ⟨by simp, by simpa [markRs, Flat.all] using World.ownsRow_nil w' base 95 3, World.grownBy.refl _ _⟩
 ·cases e
  exact markVrows_at base g n cap l k w hown hn hk0 hk1

set_option maxRecDepth 100000 in
set_option maxHeartbeats 2000000 in
theorem heldVrows_any (ao : Option Addr) (n cap : Nat) (k : Int) (w : World) (h1 : GRow vrowF w ao n cap (markRs k n)) (hn : n ≤ 16777216) (hk0 : 0 ≤ k) (hk1 : k ≤ 1099511627776) :
  Calls Tryz.prog 149 #[.slice ao n cap, .int .i64 k] w fun r w' => r = .returned (.int .i64 (k + 3 * n)) ∧ Below w.heap.size w w' := by
 go_enter Tryz.func149, Tryz.ntmps149
 go_wp2
 go_loopw [1, 5] (fun m i wr => ∃ j : Nat, j ≤ n ∧ i = .int .i64 j ∧ m = .int .i64 (k + 3 * j) ∧ Below w.heap.size w wr) (fun _ i _ => n - (intOf i).toNat)
 case atStart => exact ⟨0, Nat.zero_le _, rfl, by simp, Below.refl _ _⟩
 case round =>
  obtain ⟨j, hj, rfl, rfl, hb⟩ := hrel
  by_cases hlt : j < n
  ·obtain ⟨x, b, off, hx, rfl, c0, c1, c2⟩ := vrow_at (h1.below hb) j hlt
   rw [markRs_at k n j hlt] at hx
   cases hx
   have hm : 0 ≤ k + 3 * (j : Int) ∧ k + 3 * (j : Int) ≤ 2199023255552 := by omega
   unfold markR at c0 c1 c2
   generalize hK : k + 3 * (j : Int) = K at *
   go_wp2
   go_roundw
   case rel => exact ⟨j + 1, by omega, by go_num, by simp; omega, hb⟩
   case measure => simp [intOf]; omega
  ·have hj' : j = n := by omega
   subst hj'
   go_wp2
   go_ret
   exact ⟨rfl, hb⟩

set_option maxRecDepth 100000 in
set_option maxHeartbeats 2000000 in
theorem eqVrows_same (ao : Option Addr) (n c : Nat) (ao' : Option Addr) (n' c' : Nat) (l : List VR) (w : World) (hl : GRow vrowF w ao n c l) (hl' : GRow vrowF w ao' n' c' l) :
  Calls Tryz.prog 145 #[.slice ao n c, .slice ao' n' c'] w fun r w' => r = .returned (.bool true) ∧ Below w.heap.size w w' := by
 have hs := hl.size
 have hs' := hl'.size
 have htop := Nat.le_trans hl.le hl.top
 unfold maxLen at htop
 have hnn : n' = n := by omega
 subst hnn
 go_enter Tryz.func145, Tryz.ntmps145
 go_wp2
 go_loopw [5] (fun i wr => ∃ k : Nat, k ≤ n' ∧ i = .int .i64 k ∧ Below w.heap.size w wr) (fun i _ => n' - (intOf i).toNat)
 case atStart => exact ⟨0, Nat.zero_le _, rfl, Below.refl _ _⟩
 case round =>
  obtain ⟨k, hk, rfl, hb⟩ := hrel
  by_cases hlt : k < n'
  ·obtain ⟨x, b, off, hx, rfl, a0, a1, a2⟩ := vrow_at (hl.below hb) k hlt
   obtain ⟨y, b', off', hy, rfl, e0, e1, e2⟩ := vrow_at (hl'.below hb) k hlt
   rw [hx] at hy
   cases hy
   have HS : Hid (∀ W, Below wr.heap.size wr W → (W.cell? ⟨b, off + k * 3, none⟩ = some (.int .i64 x.i) ∧ W.cell? ⟨b, off + k * 3 + 1, none⟩ = some (.int .i64 x.m) ∧ W.cell? ⟨b, off + k * 3 + 2, none⟩ = some (.int .i64 x.b)) ∧ (W.cell? ⟨b', off' + k * 3, none⟩ = some (.int .i64 x.i) ∧ W.cell? ⟨b', off' + k * 3 + 1, none⟩ = some (.int .i64 x.m) ∧ W.cell? ⟨b', off' + k * 3 + 2, none⟩ = some (.int .i64 x.b))) := hide (fun W h => ⟨at3h (hl.below hb) h hx, at3h (hl'.below hb) h hx⟩)
   have vv : Below wr.heap.size wr wr.drew := gr_drew (Below.refl _ _)
   have i1 : (0 : Int) ≤ (k : Int) := by omega
   have i2 : (k : Int) < (n' : Int) := by omega
   have HB := hide hb
   clear hb a0 a1 a2 e0 e1 e2 hx
   go_wp2_with fail
   refine wp_region_held_drew (S := (fun W => (W.cell? ⟨b, off + k * 3, none⟩ = some (.int .i64 x.i) ∧ W.cell? ⟨b, off + k * 3 + 1, none⟩ = some (.int .i64 x.m) ∧ W.cell? ⟨b, off + k * 3 + 2, none⟩ = some (.int .i64 x.b)) ∧ (W.cell? ⟨b', off' + k * 3, none⟩ = some (.int .i64 x.i) ∧ W.cell? ⟨b', off' + k * 3 + 1, none⟩ = some (.int .i64 x.m) ∧ W.cell? ⟨b', off' + k * 3 + 2, none⟩ = some (.int .i64 x.b)))) (by kernel_rfl) (HS.out _ vv) (fun hHeld => ?_)
   refine wpAnyH_take (i := 0) (oi := ⟨some 17, .move (.tmp 0), 26, "exact.go:657", #[], none⟩) (v := ?_) rfl (by kernel_rfl) (by kernel_rfl) (by kernel_rfl) (fun _ _ _ h => h) (Or.inl ⟨by rfl, ?_⟩) (by assumption) ?_
   rotate_left
   ·(intro wY hSw; (try dsimp only at hSw); go_simp; try with_reducible rfl)
   simp only [Act.put, lA, lB, lC]
   refine wpAnyH_take (i := 1) (oi := ⟨some 18, .move (.tmp 5), 3, "exact.go:657", #[], none⟩) (v := ?_) rfl (by kernel_rfl) (by kernel_rfl) (by kernel_rfl) (fun _ _ _ h => h) (Or.inl ⟨by rfl, ?_⟩) (by assumption) ?_
   rotate_left
   ·(intro wY hSw; (try dsimp only at hSw); go_simp; try with_reducible rfl)
   simp only [Act.put, lA, lB, lC]
   refine wpAnyH_take (i := 2) (oi := ⟨some 19, .indexAddr 26 (.tmp 17) (.tmp 18), 0, "exact.go:657", #[⟨0, .data⟩, ⟨1, .data⟩], none⟩) (v := ?_) rfl (by kernel_rfl) (by kernel_rfl) (by kernel_rfl) (fun _ _ _ h => h) (Or.inl ⟨by rfl, ?_⟩) (by assumption) ?_
   rotate_left
   ·(intro wY hSw; (try dsimp only at hSw); go_simp; try with_reducible rfl)
   simp only [Act.put, lA, lB, lC]
   refine wpAnyH_take (i := 3) (oi := ⟨some 20, .load 95 (.tmp 19), 95, "exact.go:657", #[⟨2, .data⟩], none⟩) (v := ?_) rfl (by kernel_rfl) (by kernel_rfl) (by kernel_rfl) (fun _ _ _ h => h) (Or.inl ⟨by rfl, ?_⟩) (by assumption) ?_
   rotate_left
   ·(intro wY hSw; (try dsimp only at hSw); go_simp; try with_reducible rfl)
   simp only [Act.put, lA, lB, lC]
   refine wpAnyH_take (i := 4) (oi := ⟨some 21, .move (.tmp 1), 26, "exact.go:657", #[], none⟩) (v := ?_) rfl (by kernel_rfl) (by kernel_rfl) (by kernel_rfl) (fun _ _ _ h => h) (Or.inl ⟨by rfl, ?_⟩) (by assumption) ?_
   rotate_left
   ·(intro wY hSw; (try dsimp only at hSw); go_simp; try with_reducible rfl)
   simp only [Act.put, lA, lB, lC]
   refine wpAnyH_take (i := 5) (oi := ⟨some 22, .move (.tmp 5), 3, "exact.go:657", #[], none⟩) (v := ?_) rfl (by kernel_rfl) (by kernel_rfl) (by kernel_rfl) (fun _ _ _ h => h) (Or.inl ⟨by rfl, ?_⟩) (by assumption) ?_
   rotate_left
   ·(intro wY hSw; (try dsimp only at hSw); go_simp; try with_reducible rfl)
   simp only [Act.put, lA, lB, lC]
   refine wpAnyH_take (i := 6) (oi := ⟨some 23, .indexAddr 26 (.tmp 21) (.tmp 22), 0, "exact.go:657", #[⟨4, .data⟩, ⟨5, .data⟩], none⟩) (v := ?_) rfl (by kernel_rfl) (by kernel_rfl) (by kernel_rfl) (fun _ _ _ h => h) (Or.inl ⟨by rfl, ?_⟩) (by assumption) ?_
   rotate_left
   ·(intro wY hSw; (try dsimp only at hSw); go_simp; try with_reducible rfl)
   simp only [Act.put, lA, lB, lC]
   refine wpAnyH_take (i := 7) (oi := ⟨some 24, .load 95 (.tmp 23), 95, "exact.go:657", #[⟨6, .data⟩], none⟩) (v := ?_) rfl (by kernel_rfl) (by kernel_rfl) (by kernel_rfl) (fun _ _ _ h => h) (Or.inl ⟨by rfl, ?_⟩) (by assumption) ?_
   rotate_left
   ·(intro wY hSw; (try dsimp only at hSw); go_simp; try with_reducible rfl)
   simp only [Act.put, lA, lB, lC]
   refine wpAnyH_ready (rs := [8]) (by kernel_rfl) (by simp) ?_
   refine AllReadyH.cons (o := ⟨some 25, .call ⟨.value (.func 174), #[.tmp 20, .tmp 24], #[95, 95]⟩, 4, "exact.go:657", #[⟨3, .data⟩, ⟨7, .data⟩], none⟩) rfl (fun K hK => ?_) ?_
   ·go_simp
    refine (eqVrow_same x _).mono ?_
    rintro r wz ⟨rfl, hbz⟩
    have vv := gr_trans vv hbz
    go_wp2_with fail
    refine hK.out _ _ (HS.out _ vv) (fun hHeld => ?_)
    clear hK K
    try simp only [Act.put, lA, lB, lC]
    refine wpAnyH_take (i := 9) (oi := ⟨some 26, .unOp .not 4 (.tmp 25), 4, "exact.go:657", #[⟨8, .data⟩], none⟩) (v := ?_) rfl (by kernel_rfl) (by kernel_rfl) (by kernel_rfl) (fun _ _ _ h => h) (Or.inl ⟨by rfl, ?_⟩) (by assumption) ?_
    rotate_left
    ·(intro wY hSw; (try dsimp only at hSw); go_simp; try with_reducible rfl)
    simp only [Act.put, lA, lB, lC]
    refine wpAnyH_done (by kernel_rfl) ?_ _
    have b1 := gr_trans HB.out vv
    clear HS hHeld vv
    go_wp2
    go_roundw
    case rel => exact ⟨k + 1, by omega, by go_num, b1⟩
    case measure => simp [intOf]; omega
   exact AllReadyH.nil
  ·have hk' : k = n' := by omega
   subst hk'
   go_wp2
   go_ret
   exact ⟨rfl, hb⟩

theorem role_one {id : Int} {l : List PT} (port : Int) : 1 ≤ roleOf id l port ∧ roleOf id l port ≤ 4 := by
 unfold roleOf
 split
 ·split
  ·unfold roleAt
   repeat' split
   all_goals omega
  ·omega
 ·omega

def sendsB (f : Nat → Bool) : Nat → Int
 | 0 => 0
 | k + 1 => if f k = true then bits .or .i64 (sendsB f k) (2 ^ k) else sendsB f k

theorem sends_is (id : Int) (l : List PT) : ∀ k, sendsTo id l k = sendsB (fun i => decide (roleOf id l (i : Int) ≤ 2)) k
 | 0 => rfl
 | k + 1 => by
  rw [sendsTo, sendsB, sends_is id l k]
  simp

theorem sendsB_cut (f g : Nat → Bool) : ∀ k, (∀ i, i < k → f i = g i) → sendsB f k = sendsB g k
 | 0, _ => rfl
 | k + 1, h => by
  rw [sendsB, sendsB, sendsB_cut f g k (fun i hi => h i (by omega)), h k (by omega)]

def six (b0 b1 b2 b3 b4 b5 : Bool) : Nat → Bool
 | 0 => b0
 | 1 => b1
 | 2 => b2
 | 3 => b3
 | 4 => b4
 | _ => b5

def oneMore (n : Int) : Int := if n ≥ 1000000 then n else n + 1

def flushTo (bits : Int) (l : List FE) : Nat → List FE
 | 0 => l
 | k + 1 => if bitOf bits (k : Int) = true then flushTo bits l k else flushF (flushTo bits l k) (k : Int)

def turned (b : BR) : BR := { b with vers := oneMore b.vers, f := flushTo (sendsOf b.id b.ports) b.f b.ports.length }

def thereB (b : BR) (port : Int) : Bool := bridgeOk b && (decide (0 ≤ port) && decide (port ≤ (b.ports.length : Int) - 1))

def hearB (b : BR) (port : Int) (v : VD) : BR :=
 if thereB b port = true then
  match b.ports[port.toNat]? with
  | some x => if (x.up && okVd v) = true then turned { b with ports := b.ports.set port.toNat ⟨x.up, x.k, true, v⟩ } else b
  | none => b
 else b

def linkB (b : BR) (port : Int) (up : Bool) : BR :=
 if thereB b port = true then
  match b.ports[port.toNat]? with
  | some x => turned { b with ports := b.ports.set port.toNat ⟨up, x.k, false, ⟨0, 0, 0, 0, 0⟩⟩ }
  | none => b
 else b

theorem in1m_iff (x : Int) : in1m x = true ↔ 0 ≤ x ∧ x ≤ 1000000 := by
 unfold in1m
 simp

theorem flushTo_sub (bits : Int) (l : List FE) : ∀ k, (flushTo bits l k).Sublist l
 | 0 => List.Sublist.refl _
 | k + 1 => by
  rw [flushTo]
  split
  ·exact flushTo_sub bits l k
  ·exact List.Sublist.trans List.filter_sublist (flushTo_sub bits l k)

theorem bridgeOk_parts {b : BR} (h : bridgeOk b = true) : b.ports.all ptOk = true ∧ in3 b.id 1 99 = true ∧ (b.name.size : Int) ≤ 10 ∧ in3 (b.ports.length : Int) 1 6 = true ∧ fdbOk b.f = true ∧ vtabOk b.v (b.ports.length : Int) = true ∧ in1m b.ticks = true ∧ in1m b.parse = true ∧ in1m b.word = true ∧ in1m b.drops = true ∧ in1m b.vers = true := by
 unfold bridgeOk countsOk at h
 simp only [Bool.and_eq_true, decide_eq_true_eq] at h
 obtain ⟨h1, h2, h3, h4, h5, h6, h7, h8, h9, h10, h11⟩ := h
 exact ⟨h1, h2, h3, h4, h5, h6, h7, h8, h9, h10, h11⟩

theorem there_ok {b : BR} {port : Int} (h : thereB b port = true) : bridgeOk b = true := by
 unfold thereB at h
 simp only [Bool.and_eq_true] at h
 exact h.1

theorem box5_set {w : World} {g : Nat} {c0 c1 c2 c3 c4 : Value} {T : TypeId} (h : w.heap[g]? = some (.cells #[c0, c1, c2, c3, c4] T)) (u0 u1 u2 u3 u4 : Value) : (((((w.setCell ⟨g, 0, none⟩ u0).setCell ⟨g, 1, none⟩ u1).setCell ⟨g, 2, none⟩ u2).setCell ⟨g, 3, none⟩ u3).setCell ⟨g, 4, none⟩ u4).heap[g]? = some (.cells #[u0, u1, u2, u3, u4] T) :=
 set_block5 (j := 4) (set_block5 (j := 3) (set_block5 (j := 2) (set_block5 (j := 1) (set_block5 (j := 0) h u0) u1) u2) u3) u4

theorem kept_set5 {w : World} {i g : Nat} {o : Obj} (h : w.heap[i]? = some o) (hne : i ≠ g) (u0 u1 u2 u3 u4 : Value) : (((((w.setCell ⟨g, 0, none⟩ u0).setCell ⟨g, 1, none⟩ u1).setCell ⟨g, 2, none⟩ u2).setCell ⟨g, 3, none⟩ u3).setCell ⟨g, 4, none⟩ u4).heap[i]? = some o :=
 kept_set (kept_set (kept_set (kept_set (kept_set h hne) hne) hne) hne) hne

structure BvSt (w W : World) (v f : VD) : Prop where
 res : W.heap[w.heap.size]? = some (.cells #[.int .i64 0, .int .i64 0, .int .i64 0, .int .i64 0, .int .i64 0] 35)
 best : W.heap[w.heap.size + 1]? = some (.cells #[.int .i64 v.r, .int .i64 v.c, .int .i64 v.h, .int .i64 v.b, .int .i64 v.p] 35)
 frm : W.heap[w.heap.size + 1 + 1]? = some (.cells #[.int .i64 f.r, .int .i64 f.c, .int .i64 f.h, .int .i64 f.b, .int .i64 f.p] 35)
 below : Below w.heap.size w W

theorem BvSt.later {w W W' : World} {v f : VD} (h : BvSt w W v f) (hb : Below W.heap.size W W') : BvSt w W' v f :=
 ⟨kept_block h.res hb, kept_block h.best hb, kept_block h.frm hb, gr_trans h.below hb⟩

theorem BvSt.setBest {w W : World} {v f : VD} (h : BvSt w W v f) (u : VD) : BvSt w (((((W.setCell ⟨w.heap.size + 1, 0, none⟩ (.int .i64 u.r)).setCell ⟨w.heap.size + 1, 1, none⟩ (.int .i64 u.c)).setCell ⟨w.heap.size + 1, 2, none⟩ (.int .i64 u.h)).setCell ⟨w.heap.size + 1, 3, none⟩ (.int .i64 u.b)).setCell ⟨w.heap.size + 1, 4, none⟩ (.int .i64 u.p)) u f :=
 ⟨kept_set5 h.res (by omega) _ _ _ _ _, box5_set h.best _ _ _ _ _, kept_set5 h.frm (by omega) _ _ _ _ _, below_set5 h.below (by omega) _ _ _ _ _⟩

theorem BvSt.setFrom {w W : World} {v f : VD} (h : BvSt w W v f) (u : VD) : BvSt w (((((W.setCell ⟨w.heap.size + 1 + 1, 0, none⟩ (.int .i64 u.r)).setCell ⟨w.heap.size + 1 + 1, 1, none⟩ (.int .i64 u.c)).setCell ⟨w.heap.size + 1 + 1, 2, none⟩ (.int .i64 u.h)).setCell ⟨w.heap.size + 1 + 1, 3, none⟩ (.int .i64 u.b)).setCell ⟨w.heap.size + 1 + 1, 4, none⟩ (.int .i64 u.p)) v u :=
 ⟨kept_set5 h.res (by omega) _ _ _ _ _, kept_set5 h.best (by omega) _ _ _ _ _, box5_set h.frm _ _ _ _ _, below_set5 h.below (by omega) _ _ _ _ _⟩

set_option maxRecDepth 100000 in
set_option maxHeartbeats 4000000 in
theorem specBestVec_any (id : Int) (a : Option Addr) (n c : Nat) (l : List PT) (w : World) (h : GRow ptF w a n c l) :
  Calls Tryz.prog 180 #[.int .i64 id, .slice a n c] w fun e w' => e = .returned (.tuple #[.agg #[.int .i64 (bestV id (bestOf id l)).r, .int .i64 (bestV id (bestOf id l)).c, .int .i64 (bestV id (bestOf id l)).h, .int .i64 (bestV id (bestOf id l)).b, .int .i64 (bestV id (bestOf id l)).p], .int .i64 (bestP (bestOf id l))]) ∧ Below w.heap.size w w' := by
 have hle := h.le
 have htop := h.top
 unfold maxLen at htop
 have hsz := hide h.size
 go_enter Tryz.func180, Tryz.ntmps180
 go_wp2_with fail
 generalize hw3 : ((w.alloc (Obj.cells #[.int .i64 0, .int .i64 0, .int .i64 0, .int .i64 0, .int .i64 0] 35)).alloc (Obj.cells #[.int .i64 id, .int .i64 0, .int .i64 0, .int .i64 id, .int .i64 0] 35)).alloc (Obj.cells #[.int .i64 0, .int .i64 0, .int .i64 0, .int .i64 0, .int .i64 0] 35) = w3
 have st3 : BvSt w w3 (bestV id none) (fromV none) := by
  subst hw3
  obtain ⟨k0, k1, k2⟩ := kept_three (Below.refl _ (((w.alloc (Obj.cells #[.int .i64 0, .int .i64 0, .int .i64 0, .int .i64 0, .int .i64 0] 35)).alloc (Obj.cells #[.int .i64 id, .int .i64 0, .int .i64 0, .int .i64 id, .int .i64 0] 35)).alloc (Obj.cells #[.int .i64 0, .int .i64 0, .int .i64 0, .int .i64 0, .int .i64 0] 35)))
  exact ⟨k0, k1, k2, below_three _ _ _ _⟩
 clear hw3
 go_loopw [8, 9] (fun p i wr => ∃ (k : Nat) (s : Option (VD × Nat)), k ≤ n ∧ i = .int .i64 k ∧ p = .int .i64 (bestP s) ∧ bestTo id l k = s ∧ BvSt w wr (bestV id s) (fromV s)) (fun _ i _ => n - (intOf i).toNat)
 case atStart => exact ⟨0, none, Nat.zero_le _, rfl, rfl, rfl, st3⟩
 case round =>
  obtain ⟨k, s, hk, rfl, rfl, hs, st⟩ := hrel
  obtain ⟨bv, hbv⟩ : ∃ y, y = bestV id s := ⟨_, rfl⟩
  obtain ⟨fv, hfv⟩ : ∃ y, y = fromV s := ⟨_, rfl⟩
  have BACK : Hid (∀ W, BvSt w W bv fv → BvSt w W (bestV id s) (fromV s)) := hide (by subst hbv hfv; exact fun W h => h)
  rw [← hbv, ← hfv] at st
  have HBV := hide hbv
  have HFV := hide hfv
  clear hbv hfv
  by_cases hlt : k < n
  ·obtain ⟨x, b, off, hx, rfl, c0, c1, c2, c3, c4, c5, c6, c7⟩ := pt_at (h.below st.below) k hlt
   have hnx := bestTo_next (id := id) hx
   rw [hs] at hnx
   have i1 : (0 : Int) ≤ (k : Int) := by omega
   have i2 : (k : Int) < (n : Int) := by omega
   have NX := hide hnx
   clear hs hnx hx
   cases hu : x.up
   ·rw [hu] at c0
    have HE := hide (NX.out.trans (bestStep_no (by unfold offers; rw [hu]; rfl)))
    clear hu c1 c2 c3 c4 c5 c6 c7
    go_wp2
    go_roundw
    case rel => exact ⟨k + 1, s, by omega, by go_num, rfl, HE.out, BACK.out _ st⟩
    case measure => simp [intOf]; omega
   cases hh : x.has
   ·rw [hu] at c0
    rw [hh] at c2
    have HE := hide (NX.out.trans (bestStep_no (by unfold offers; rw [hu, hh]; rfl)))
    clear hu hh c1 c3 c4 c5 c6 c7
    go_wp2
    go_roundw
    case rel => exact ⟨k + 1, s, by omega, by go_num, rfl, HE.out, BACK.out _ st⟩
    case measure => simp [intOf]; omega
   rw [hu] at c0
   rw [hh] at c2
   have HUH : Hid (x.up = true ∧ x.has = true) := hide ⟨hu, hh⟩
   have HSS : Hid (∀ W', Below wr.heap.size wr W' → W'.cell? ⟨b, off + k * 8 + 1, none⟩ = some (.int .i64 x.k) ∧ W'.cell? ⟨b, off + k * 8 + 3, none⟩ = some (.int .i64 x.v.r) ∧ W'.cell? ⟨b, off + k * 8 + 4, none⟩ = some (.int .i64 x.v.c) ∧ W'.cell? ⟨b, off + k * 8 + 5, none⟩ = some (.int .i64 x.v.h) ∧ W'.cell? ⟨b, off + k * 8 + 6, none⟩ = some (.int .i64 x.v.b) ∧ W'.cell? ⟨b, off + k * 8 + 7, none⟩ = some (.int .i64 x.v.p)) := hide (fun W' hb => ⟨(hb.cell (block_lt c1)).trans c1, (hb.cell (block_lt c3)).trans c3, (hb.cell (block_lt c4)).trans c4, (hb.cell (block_lt c5)).trans c5, (hb.cell (block_lt c6)).trans c6, (hb.cell (block_lt c7)).trans c7⟩)
   obtain ⟨q, hq⟩ : ∃ q, stepOk x.v.r x.v.c x.v.h x.v.b x.v.p x.k = q := ⟨_, rfl⟩
   obtain ⟨u, hu'⟩ : ∃ u, u = (if q = true then stepV x.v x.k else x.v) := ⟨_, rfl⟩
   have HST := hide hq
   have HQ : Hid ((if q = true then Value.agg #[.int .i64 x.v.r, .int .i64 (x.v.c + x.k), .int .i64 (x.v.h + 1), .int .i64 x.v.b, .int .i64 x.v.p] else Value.agg #[.int .i64 x.v.r, .int .i64 x.v.c, .int .i64 x.v.h, .int .i64 x.v.b, .int .i64 x.v.p]) = .agg #[.int .i64 u.r, .int .i64 u.c, .int .i64 u.h, .int .i64 u.b, .int .i64 u.p]) := hide (by subst hu'; cases q <;> rfl)
   have HU := hide hu'
   have ST := hide st
   clear hq hu' hu hh c1 c3 c4 c5 c6 c7
   go_upto_region 8 with fail
   clear c0 c2
   go_cut [10, 11] from 16 to 75 (fun s10 s11 wx => ∃ g : Nat, s10 = .pointer (some ⟨g, 0, none⟩) ∧ s11 = .bool q ∧ wr.heap.size ≤ g ∧ wx.heap[g]? = some (.cells #[.int .i64 u.r, .int .i64 u.c, .int .i64 u.h, .int .i64 u.b, .int .i64 u.p] 35) ∧ Below wr.heap.size wr wx)
   case first =>
    have vv : Below wr.heap.size wr wr.drew := gr_drew (Below.refl _ _)
    go_wp2_with fail
    refine wp_region_held_drew (S := (fun W => W.cell? ⟨b, off + k * 8 + 1, none⟩ = some (.int .i64 x.k) ∧ W.cell? ⟨b, off + k * 8 + 3, none⟩ = some (.int .i64 x.v.r) ∧ W.cell? ⟨b, off + k * 8 + 4, none⟩ = some (.int .i64 x.v.c) ∧ W.cell? ⟨b, off + k * 8 + 5, none⟩ = some (.int .i64 x.v.h) ∧ W.cell? ⟨b, off + k * 8 + 6, none⟩ = some (.int .i64 x.v.b) ∧ W.cell? ⟨b, off + k * 8 + 7, none⟩ = some (.int .i64 x.v.p))) (by kernel_rfl) (HSS.out _ vv) (fun hHeld => ?_)
    refine wpAnyH_take (i := 0) (oi := ⟨some 37, .move (.tmp 1), 24, "l10_role.go:23", #[], none⟩) (v := ?_) rfl (by kernel_rfl) (by kernel_rfl) (by kernel_rfl) (fun _ _ _ h => h) (Or.inl ⟨by rfl, ?_⟩) (by assumption) ?_
    rotate_left
    ·(intro wY hSw; (try dsimp only at hSw); go_simp; try with_reducible rfl)
    simp only [Act.put, lA, lB, lC]
    refine wpAnyH_take (i := 1) (oi := ⟨some 38, .move (.tmp 9), 3, "l10_role.go:23", #[], none⟩) (v := ?_) rfl (by kernel_rfl) (by kernel_rfl) (by kernel_rfl) (fun _ _ _ h => h) (Or.inl ⟨by rfl, ?_⟩) (by assumption) ?_
    rotate_left
    ·(intro wY hSw; (try dsimp only at hSw); go_simp; try with_reducible rfl)
    simp only [Act.put, lA, lB, lC]
    refine wpAnyH_take (i := 2) (oi := ⟨some 39, .indexAddr 24 (.tmp 37) (.tmp 38), 0, "l10_role.go:23", #[⟨0, .data⟩, ⟨1, .data⟩], none⟩) (v := ?_) rfl (by kernel_rfl) (by kernel_rfl) (by kernel_rfl) (fun _ _ _ h => h) (Or.inl ⟨by rfl, ?_⟩) (by assumption) ?_
    rotate_left
    ·(intro wY hSw; (try dsimp only at hSw); go_simp; try with_reducible rfl)
    simp only [Act.put, lA, lB, lC]
    refine wpAnyH_take (i := 3) (oi := ⟨some 40, .fieldAddr 44 (.tmp 39) 3, 0, "l10_role.go:23", #[⟨2, .data⟩], none⟩) (v := ?_) rfl (by kernel_rfl) (by kernel_rfl) (by kernel_rfl) (fun _ _ _ h => h) (Or.inl ⟨by rfl, ?_⟩) (by assumption) ?_
    rotate_left
    ·(intro wY hSw; (try dsimp only at hSw); go_simp; try with_reducible rfl)
    simp only [Act.put, lA, lB, lC]
    refine wpAnyH_take (i := 4) (oi := ⟨some 41, .load 35 (.tmp 40), 35, "l10_role.go:23", #[⟨3, .data⟩], none⟩) (v := ?_) rfl (by kernel_rfl) (by kernel_rfl) (by kernel_rfl) (fun _ _ _ h => h) (Or.inl ⟨by rfl, ?_⟩) (by assumption) ?_
    rotate_left
    ·(intro wY hSw; (try dsimp only at hSw); go_simp; try with_reducible rfl)
    simp only [Act.put, lA, lB, lC]
    refine wpAnyH_take (i := 5) (oi := ⟨some 42, .move (.tmp 1), 24, "l10_role.go:23", #[], none⟩) (v := ?_) rfl (by kernel_rfl) (by kernel_rfl) (by kernel_rfl) (fun _ _ _ h => h) (Or.inl ⟨by rfl, ?_⟩) (by assumption) ?_
    rotate_left
    ·(intro wY hSw; (try dsimp only at hSw); go_simp; try with_reducible rfl)
    simp only [Act.put, lA, lB, lC]
    refine wpAnyH_take (i := 6) (oi := ⟨some 43, .move (.tmp 9), 3, "l10_role.go:23", #[], none⟩) (v := ?_) rfl (by kernel_rfl) (by kernel_rfl) (by kernel_rfl) (fun _ _ _ h => h) (Or.inl ⟨by rfl, ?_⟩) (by assumption) ?_
    rotate_left
    ·(intro wY hSw; (try dsimp only at hSw); go_simp; try with_reducible rfl)
    simp only [Act.put, lA, lB, lC]
    refine wpAnyH_take (i := 7) (oi := ⟨some 44, .indexAddr 24 (.tmp 42) (.tmp 43), 0, "l10_role.go:23", #[⟨5, .data⟩, ⟨6, .data⟩], none⟩) (v := ?_) rfl (by kernel_rfl) (by kernel_rfl) (by kernel_rfl) (fun _ _ _ h => h) (Or.inl ⟨by rfl, ?_⟩) (by assumption) ?_
    rotate_left
    ·(intro wY hSw; (try dsimp only at hSw); go_simp; try with_reducible rfl)
    simp only [Act.put, lA, lB, lC]
    refine wpAnyH_take (i := 8) (oi := ⟨some 45, .fieldAddr 44 (.tmp 44) 1, 0, "l10_role.go:23", #[⟨7, .data⟩], none⟩) (v := ?_) rfl (by kernel_rfl) (by kernel_rfl) (by kernel_rfl) (fun _ _ _ h => h) (Or.inl ⟨by rfl, ?_⟩) (by assumption) ?_
    rotate_left
    ·(intro wY hSw; (try dsimp only at hSw); go_simp; try with_reducible rfl)
    simp only [Act.put, lA, lB, lC]
    refine wpAnyH_take (i := 9) (oi := ⟨some 46, .load 3 (.tmp 45), 3, "l10_role.go:23", #[⟨8, .data⟩], none⟩) (v := ?_) rfl (by kernel_rfl) (by kernel_rfl) (by kernel_rfl) (fun _ _ _ h => h) (Or.inl ⟨by rfl, ?_⟩) (by assumption) ?_
    rotate_left
    ·(intro wY hSw; (try dsimp only at hSw); go_simp; try with_reducible rfl)
    simp only [Act.put, lA, lB, lC]
    refine wpAnyH_ready (rs := [10, 14]) (by kernel_rfl) (by simp) ?_
    refine AllReadyH.cons (o := ⟨some 47, .call ⟨.value (.func 183), #[.tmp 41, .tmp 46], #[35, 3]⟩, 187, "l10_role.go:23", #[⟨4, .data⟩, ⟨9, .data⟩], none⟩) rfl (fun K hK => ?_) ?_
    ·go_simp
     refine (specStepVec_any x.v.r x.v.c x.v.h x.v.b x.v.p x.k _).mono ?_
     rintro e wx ⟨rfl, hbx⟩
     rw [HST.out, HQ.out]
     try have kB := kept_block kB hbx
     have vv := gr_trans vv hbx
     clear hbx
     go_wp2_with fail
     refine hK.out _ _ (HSS.out _ vv) (fun hHeld => ?_)
     clear hK K
     try simp only [Act.put, lA, lB, lC]
     refine wpAnyH_take (i := 11) (oi := ⟨some 36, .move (.tmp 47), 187, "l10_role.go:23", #[⟨10, .data⟩], none⟩) (v := ?_) rfl (by kernel_rfl) (by kernel_rfl) (by kernel_rfl) (fun _ _ _ h => h) (Or.inl ⟨by rfl, ?_⟩) (by assumption) ?_
     rotate_left
     ·(intro wY hSw; (try dsimp only at hSw); go_simp; try with_reducible rfl)
     simp only [Act.put, lA, lB, lC]
     refine wpAnyH_take (i := 12) (oi := ⟨some 48, .extract (.tmp 36) 0, 35, "l10_role.go:23", #[⟨11, .data⟩], none⟩) (v := ?_) rfl (by kernel_rfl) (by kernel_rfl) (by kernel_rfl) (fun _ _ _ h => h) (Or.inl ⟨by rfl, ?_⟩) (by assumption) ?_
     rotate_left
     ·(intro wY hSw; (try dsimp only at hSw); go_simp; try with_reducible rfl)
     simp only [Act.put, lA, lB, lC]
     refine wpAnyH_take (i := 13) (oi := ⟨some 49, .extract (.tmp 36) 1, 4, "l10_role.go:23", #[⟨11, .data⟩, { on := 15, ground := Ground.gcOnly Departure.lateStores }], none⟩) (v := ?_) rfl (by kernel_rfl) (by kernel_rfl) (by kernel_rfl) (fun _ _ _ h => h) (Or.inl ⟨by rfl, ?_⟩) (by assumption) ?_
     rotate_left
     ·(intro wY hSw; (try dsimp only at hSw); go_simp; try with_reducible rfl)
     simp only [Act.put, lA, lB, lC]
     refine wpAnyH_ready (rs := [14]) (by kernel_rfl) (by simp) ?_
     refine AllReadyH.cons (o := ⟨some 10, .alloc 35, 0, "l10_role.go:23", #[], none⟩) rfl (fun K hK => ?_) ?_
     ·go_simp
      first
      | refine made_new (K := K _) (fun wx kB hbx => ?_)
      | refine made_drew (K := K _) (fun wx kB hbx => ?_)
      have gB := vv.size
      have vv := gr_trans vv hbx
      clear hbx
      refine hK.out _ _ (HSS.out _ vv) (fun hHeld => ?_)
      clear hK K
      try simp only [Act.put, lA, lB, lC]
      refine wpAnyH_ready (rs := [15]) (by kernel_rfl) (by simp) ?_
      refine AllReadyH.cons (o := ⟨none, .store 35 (.tmp 10) (.tmp 48), 0, "l10_role.go:23", #[⟨14, .data⟩, ⟨12, .data⟩, ⟨10, .chain⟩, ⟨0, .phase⟩, ⟨1, .phase⟩, ⟨2, .phase⟩, ⟨3, .phase⟩, ⟨4, .phase⟩, ⟨5, .phase⟩, ⟨6, .phase⟩, ⟨7, .phase⟩, ⟨8, .phase⟩, ⟨9, .phase⟩, ⟨10, .phase⟩, ⟨11, .phase⟩, ⟨12, .phase⟩, { on := 13, ground := Ground.textOnly Departure.lateStores }, ⟨14, .phase⟩], none⟩) rfl (fun K hK => ?_) ?_
      ·obtain ⟨⟨b0, b1, b2, b3, b4⟩, f0, f1, f2, f3, f4⟩ := cells5 kB
       go_simp
       have vv := below_set5 vv gB (.int .i64 u.r) (.int .i64 u.c) (.int .i64 u.h) (.int .i64 u.b) (.int .i64 u.p)
       have kB := box5_set kB (.int .i64 u.r) (.int .i64 u.c) (.int .i64 u.h) (.int .i64 u.b) (.int .i64 u.p)
       clear b0 b1 b2 b3 b4 f0 f1 f2 f3 f4
       refine hK.out _ _ (HSS.out _ vv) (fun hHeld => ?_)
       clear hK K
       try simp only [Act.put, lA, lB, lC]
       refine wpAnyH_take (i := 16) (oi := ⟨some 11, .assign (.tmp 49), 4, "l10_role.go:23", #[⟨13, .data⟩, ⟨15, .chain⟩, ⟨0, .phase⟩, ⟨1, .phase⟩, ⟨2, .phase⟩, ⟨3, .phase⟩, ⟨4, .phase⟩, ⟨5, .phase⟩, ⟨6, .phase⟩, ⟨7, .phase⟩, ⟨8, .phase⟩, ⟨9, .phase⟩, ⟨10, .phase⟩, ⟨11, .phase⟩, ⟨12, .phase⟩, ⟨13, .phase⟩, ⟨14, .phase⟩, ⟨15, .phase⟩], none⟩) (v := ?_) rfl (by kernel_rfl) (by kernel_rfl) (by kernel_rfl) (fun _ _ _ h => h) (Or.inl ⟨by rfl, ?_⟩) (by assumption) ?_
       rotate_left
       ·(intro wY hSw; (try dsimp only at hSw); go_simp; try with_reducible rfl)
       simp only [Act.put, lA, lB, lC]
       refine wpAnyH_done (by kernel_rfl) ?_ _
       clear hHeld
       go_wp2_with fail
       go_meet
       exact ⟨_, rfl, rfl, gB, kB, vv⟩
      exact AllReadyH.nil
     exact AllReadyH.nil
    refine AllReadyH.cons (o := ⟨some 10, .alloc 35, 0, "l10_role.go:23", #[], none⟩) rfl (fun K hK => ?_) ?_
    ·go_simp
     first
     | refine made_new (K := K _) (fun wx kB hbx => ?_)
     | refine made_drew (K := K _) (fun wx kB hbx => ?_)
     have gB := vv.size
     have vv := gr_trans vv hbx
     clear hbx
     refine hK.out _ _ (HSS.out _ vv) (fun hHeld => ?_)
     clear hK K
     try simp only [Act.put, lA, lB, lC]
     refine wpAnyH_ready (rs := [10]) (by kernel_rfl) (by simp) ?_
     refine AllReadyH.cons (o := ⟨some 47, .call ⟨.value (.func 183), #[.tmp 41, .tmp 46], #[35, 3]⟩, 187, "l10_role.go:23", #[⟨4, .data⟩, ⟨9, .data⟩], none⟩) rfl (fun K hK => ?_) ?_
     ·go_simp
      refine (specStepVec_any x.v.r x.v.c x.v.h x.v.b x.v.p x.k _).mono ?_
      rintro e wx ⟨rfl, hbx⟩
      rw [HST.out, HQ.out]
      try have kB := kept_block kB hbx
      have vv := gr_trans vv hbx
      clear hbx
      go_wp2_with fail
      refine hK.out _ _ (HSS.out _ vv) (fun hHeld => ?_)
      clear hK K
      try simp only [Act.put, lA, lB, lC]
      refine wpAnyH_take (i := 11) (oi := ⟨some 36, .move (.tmp 47), 187, "l10_role.go:23", #[⟨10, .data⟩], none⟩) (v := ?_) rfl (by kernel_rfl) (by kernel_rfl) (by kernel_rfl) (fun _ _ _ h => h) (Or.inl ⟨by rfl, ?_⟩) (by assumption) ?_
      rotate_left
      ·(intro wY hSw; (try dsimp only at hSw); go_simp; try with_reducible rfl)
      simp only [Act.put, lA, lB, lC]
      refine wpAnyH_take (i := 12) (oi := ⟨some 48, .extract (.tmp 36) 0, 35, "l10_role.go:23", #[⟨11, .data⟩], none⟩) (v := ?_) rfl (by kernel_rfl) (by kernel_rfl) (by kernel_rfl) (fun _ _ _ h => h) (Or.inl ⟨by rfl, ?_⟩) (by assumption) ?_
      rotate_left
      ·(intro wY hSw; (try dsimp only at hSw); go_simp; try with_reducible rfl)
      simp only [Act.put, lA, lB, lC]
      refine wpAnyH_take (i := 13) (oi := ⟨some 49, .extract (.tmp 36) 1, 4, "l10_role.go:23", #[⟨11, .data⟩, { on := 15, ground := Ground.gcOnly Departure.lateStores }], none⟩) (v := ?_) rfl (by kernel_rfl) (by kernel_rfl) (by kernel_rfl) (fun _ _ _ h => h) (Or.inl ⟨by rfl, ?_⟩) (by assumption) ?_
      rotate_left
      ·(intro wY hSw; (try dsimp only at hSw); go_simp; try with_reducible rfl)
      simp only [Act.put, lA, lB, lC]
      refine wpAnyH_ready (rs := [15]) (by kernel_rfl) (by simp) ?_
      refine AllReadyH.cons (o := ⟨none, .store 35 (.tmp 10) (.tmp 48), 0, "l10_role.go:23", #[⟨14, .data⟩, ⟨12, .data⟩, ⟨10, .chain⟩, ⟨0, .phase⟩, ⟨1, .phase⟩, ⟨2, .phase⟩, ⟨3, .phase⟩, ⟨4, .phase⟩, ⟨5, .phase⟩, ⟨6, .phase⟩, ⟨7, .phase⟩, ⟨8, .phase⟩, ⟨9, .phase⟩, ⟨10, .phase⟩, ⟨11, .phase⟩, ⟨12, .phase⟩, { on := 13, ground := Ground.textOnly Departure.lateStores }, ⟨14, .phase⟩], none⟩) rfl (fun K hK => ?_) ?_
      ·obtain ⟨⟨b0, b1, b2, b3, b4⟩, f0, f1, f2, f3, f4⟩ := cells5 kB
       go_simp
       have vv := below_set5 vv gB (.int .i64 u.r) (.int .i64 u.c) (.int .i64 u.h) (.int .i64 u.b) (.int .i64 u.p)
       have kB := box5_set kB (.int .i64 u.r) (.int .i64 u.c) (.int .i64 u.h) (.int .i64 u.b) (.int .i64 u.p)
       clear b0 b1 b2 b3 b4 f0 f1 f2 f3 f4
       refine hK.out _ _ (HSS.out _ vv) (fun hHeld => ?_)
       clear hK K
       try simp only [Act.put, lA, lB, lC]
       refine wpAnyH_take (i := 16) (oi := ⟨some 11, .assign (.tmp 49), 4, "l10_role.go:23", #[⟨13, .data⟩, ⟨15, .chain⟩, ⟨0, .phase⟩, ⟨1, .phase⟩, ⟨2, .phase⟩, ⟨3, .phase⟩, ⟨4, .phase⟩, ⟨5, .phase⟩, ⟨6, .phase⟩, ⟨7, .phase⟩, ⟨8, .phase⟩, ⟨9, .phase⟩, ⟨10, .phase⟩, ⟨11, .phase⟩, ⟨12, .phase⟩, ⟨13, .phase⟩, ⟨14, .phase⟩, ⟨15, .phase⟩], none⟩) (v := ?_) rfl (by kernel_rfl) (by kernel_rfl) (by kernel_rfl) (fun _ _ _ h => h) (Or.inl ⟨by rfl, ?_⟩) (by assumption) ?_
       rotate_left
       ·(intro wY hSw; (try dsimp only at hSw); go_simp; try with_reducible rfl)
       simp only [Act.put, lA, lB, lC]
       refine wpAnyH_done (by kernel_rfl) ?_ _
       clear hHeld
       go_wp2_with fail
       go_meet
       exact ⟨_, rfl, rfl, gB, kB, vv⟩
      exact AllReadyH.nil
     exact AllReadyH.nil
    exact AllReadyH.nil
   case rest =>
    obtain ⟨g, rfl, rfl, hg, kX, hb⟩ := hcut
    obtain ⟨wS, hwS⟩ : ∃ x, x = wc := ⟨_, rfl⟩
    subst hwS
    have st := ST.out.later hb
    have hz := ST.out.frm
    have hlt2 := (Array.getElem?_eq_some_iff.1 hz).1
    have ne1 : ¬ g = w.heap.size + 1 + 1 := by omega
    have ne2 : ¬ w.heap.size + 1 + 1 = g := by omega
    have ne3 : ¬ g = w.heap.size + 1 := by omega
    have ne4 : ¬ w.heap.size + 1 = g := by omega
    obtain ⟨⟨x0, x1, x2, x3, x4⟩, -⟩ := cells5 kX
    have KX := hide kX
    clear hb hz hlt2 hg kX
    cases q
    ·have HE := hide (NX.out.trans (bestStep_no (by unfold offers stepsV; rw [HST.out]; simp)))
     go_wp2
     go_roundw
     case rel => exact ⟨k + 1, s, by omega, by go_num, rfl, HE.out, BACK.out _ st⟩
     case measure => simp [intOf]; omega
    have hur : u.r = x.v.r := by rw [HU.out]; rfl
    cases hlr : decide (u.r < id)
    ·have HE := hide (NX.out.trans (bestStep_no (by unfold offers; rw [← hur, hlr]; simp)))
     have hlr : ¬ u.r < id := by simpa using hlr
     clear hur
     go_wp2
     go_roundw
     case rel => exact ⟨k + 1, s, by omega, by go_num, rfl, HE.out, BACK.out _ st⟩
     case measure => simp [intOf]; omega
    have ho : offers id x = true := by unfold offers stepsV; rw [HUH.out.1, HUH.out.2, HST.out, ← hur, hlr]; rfl
    have hlr : u.r < id := by simpa using hlr
    have huu : stepV x.v x.k = u := HU.out.symm
    have HO := hide ho
    have HUU := hide huu
    clear hur ho huu
    clear ne3 ne4
    cases s with
    | none =>
     have HE : Hid (bestTo id l (k + 1) = some (u, k)) := hide (by rw [NX.out]; unfold bestStep; rw [if_pos HO.out, HUU.out])
     rw [show bestP none = -1 from rfl]
     have SL := hide st
     obtain ⟨⟨z0, z1, z2, z3, z4⟩, v0, v1, v2, v3, v4⟩ := cells5 st.frm
     clear st
     go_upto_region 11 with fail
     generalize hwf : ((((wS.setCell ⟨w.heap.size + 1 + 1, 0, none⟩ (.int .i64 u.r)).setCell ⟨w.heap.size + 1 + 1, 1, none⟩ (.int .i64 u.c)).setCell ⟨w.heap.size + 1 + 1, 2, none⟩ (.int .i64 u.h)).setCell ⟨w.heap.size + 1 + 1, 3, none⟩ (.int .i64 u.b)).setCell ⟨w.heap.size + 1 + 1, 4, none⟩ (.int .i64 u.p) = wf
     have stf : BvSt w wf bv u := by rw [← hwf]; exact SL.out.setFrom u
     have kf : wf.heap[g]? = some (.cells #[.int .i64 u.r, .int .i64 u.c, .int .i64 u.h, .int .i64 u.b, .int .i64 u.p] 35) := by rw [← hwf]; exact kept_set5 KX.out (by omega) _ _ _ _ _
     clear hwf x0 x1 x2 x3 x4 v0 v1 v2 v3 v4 z0 z1 z2 z3 z4
     obtain ⟨⟨x0, x1, x2, x3, x4⟩, -⟩ := cells5 kf
     obtain ⟨⟨n0, n1, n2, n3, n4⟩, m0, m1, m2, m3, m4⟩ := cells5 stf.best
     have HSET : Hid (BvSt w _ ⟨u.r, u.c, u.h, id, 0⟩ u) := hide (stf.setBest ⟨u.r, u.c, u.h, id, 0⟩)
     clear stf kf
     go_wp2
     go_roundw
     case rel => exact ⟨k + 1, some (u, k), by omega, by go_num, rfl, HE.out, HSET.out⟩
     case measure => simp [intOf]; omega
    | some fj =>
     obtain ⟨f, j⟩ := fj
     rw [show bestP (some (f, j)) = (j : Int) from rfl]
     have hneg : ¬ ((j : Int) < 0) := by omega
     have hff : fv = f := HFV.out
     subst hff
     obtain ⟨⟨z0, z1, z2, z3, z4⟩, -⟩ := cells5 st.frm
     cases hl : lessV u fv
     ·have HE : Hid (bestTo id l (k + 1) = some (fv, j)) := hide (by rw [NX.out]; unfold bestStep; rw [if_pos HO.out, HUU.out]; simp only; rw [if_neg (by rw [hl]; decide)])
      have HL : Hid (lessVc u.r u.c u.b u.p fv.r fv.c fv.b fv.p = false) := hide hl
      clear hl
      go_wp2_with fail
      refine (specLessVec_any u.r u.c u.h u.b u.p fv.r fv.c fv.h fv.b fv.p _).mono ?_
      rintro e wl ⟨rfl, hbl⟩
      rw [HL.out]
      have SL := hide (st.later hbl)
      clear hbl st z0 z1 z2 z3 z4 x0 x1 x2 x3 x4
      go_wp2
      go_roundw
      case rel => exact ⟨k + 1, some (fv, j), by omega, by go_num, rfl, HE.out, BACK.out _ SL.out⟩
      case measure => simp [intOf]; omega
     ·have HE : Hid (bestTo id l (k + 1) = some (u, k)) := hide (by rw [NX.out]; unfold bestStep; rw [if_pos HO.out, HUU.out]; simp only; rw [if_pos hl])
      have HL : Hid (lessVc u.r u.c u.b u.p fv.r fv.c fv.b fv.p = true) := hide hl
      clear hl
      go_wp2_with fail
      refine (specLessVec_any u.r u.c u.h u.b u.p fv.r fv.c fv.h fv.b fv.p _).mono ?_
      rintro e wl ⟨rfl, hbl⟩
      rw [HL.out]
      have SL := hide (st.later hbl)
      have KX := hide (kept_block KX.out hbl)
      clear hbl st z0 z1 z2 z3 z4 x0 x1 x2 x3 x4
      obtain ⟨⟨x0, x1, x2, x3, x4⟩, -⟩ := cells5 KX.out
      obtain ⟨⟨z0, z1, z2, z3, z4⟩, v0, v1, v2, v3, v4⟩ := cells5 SL.out.frm
      go_upto_region 11 with fail
      generalize hwf : ((((wl.setCell ⟨w.heap.size + 1 + 1, 0, none⟩ (.int .i64 u.r)).setCell ⟨w.heap.size + 1 + 1, 1, none⟩ (.int .i64 u.c)).setCell ⟨w.heap.size + 1 + 1, 2, none⟩ (.int .i64 u.h)).setCell ⟨w.heap.size + 1 + 1, 3, none⟩ (.int .i64 u.b)).setCell ⟨w.heap.size + 1 + 1, 4, none⟩ (.int .i64 u.p) = wf
      have stf : BvSt w wf bv u := by rw [← hwf]; exact SL.out.setFrom u
      have kf : wf.heap[g]? = some (.cells #[.int .i64 u.r, .int .i64 u.c, .int .i64 u.h, .int .i64 u.b, .int .i64 u.p] 35) := by rw [← hwf]; exact kept_set5 KX.out (by omega) _ _ _ _ _
      clear hwf x0 x1 x2 x3 x4 v0 v1 v2 v3 v4 z0 z1 z2 z3 z4
      obtain ⟨⟨x0, x1, x2, x3, x4⟩, -⟩ := cells5 kf
      obtain ⟨⟨n0, n1, n2, n3, n4⟩, m0, m1, m2, m3, m4⟩ := cells5 stf.best
      have HSET : Hid (BvSt w _ ⟨u.r, u.c, u.h, id, 0⟩ u) := hide (stf.setBest ⟨u.r, u.c, u.h, id, 0⟩)
      clear stf kf
      go_wp2
      go_roundw
      case rel => exact ⟨k + 1, some (u, k), by omega, by go_num, rfl, HE.out, HSET.out⟩
      case measure => simp [intOf]; omega
  ·have hkn : k = n := by omega
   subst hkn
   have HB : Hid (bestOf id l = s) := hide (by unfold bestOf; rw [hsz.out]; exact hs)
   obtain ⟨⟨x0, x1, x2, x3, x4⟩, y0, y1, y2, y3, y4⟩ := cells5 st.best
   obtain ⟨⟨r0, r1, r2, r3, r4⟩, z0, z1, z2, z3, z4⟩ := cells5 st.res
   have ne : ¬ w.heap.size = w.heap.size + 1 := by omega
   have hb := below_set5 st.below (Nat.le_refl w.heap.size) (.int .i64 bv.r) (.int .i64 bv.c) (.int .i64 bv.h) (.int .i64 bv.b) (.int .i64 bv.p)
   clear hs st
   go_wp2
   exact bodyPost_ret (v := .tuple #[.agg #[.int .i64 bv.r, .int .i64 bv.c, .int .i64 bv.h, .int .i64 bv.b, .int .i64 bv.p], .int .i64 (bestP s)]) (by simp [results, Tryz.results180, go_sem, *]) rfl ⟨(by rw [HB.out, ← HBV.out]), hb⟩

end Go.Proofs.YtfefhilolhdonaaGreat
