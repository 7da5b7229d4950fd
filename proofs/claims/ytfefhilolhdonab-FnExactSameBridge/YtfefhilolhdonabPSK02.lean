/-
  Packed: VrowHelp SameStr OidSame.
-/
import Derived.Test.YtfefhilolhdonabPSK01
namespace Go.Proofs.Ytfefhilolhdonab
open Go.RowKit

set_option maxRecDepth 100000 in
set_option maxHeartbeats 400000 in
theorem toVrow_made (e : VR) (w : World) :
  Calls Try.prog 35 #[.agg #[.int .i64 e.i, .int .i64 e.m, .int .i64 e.b]] w fun r w' => r = .returned (.agg #[.int .i64 e.i, .int .i64 e.m, .int .i64 e.b]) ∧ Below w.heap.size w w' := by
 go_enter Try.func35, Try.ntmps35
 go_wp2
 exact bodyPost_ret (v := .agg #[.int .i64 e.i, .int .i64 e.m, .int .i64 e.b]) (by simp [results, Try.results35, go_sem, *]) rfl ⟨rfl, below_three _ _ _ _⟩

theorem vrowInfoH : (Try.prog.info? 52).map (fun i => (i.zero, i.size, i.bytes)) = some (some (.agg #[.int .i64 0, .int .i64 0, .int .i64 0]), 3, 24) := by kernel_rfl

def VR.zero : VR := ⟨0, 0, 0⟩

theorem at3h {w w' : World} {b off n cap : Nat} {l : List VR} (h : GRow vrowF w (some ⟨b, off, none⟩) n cap l) (hb : Below w.heap.size w w') {i : Nat} {x : VR} (hx : l[i]? = some x) :
  w'.cell? ⟨b, off + i * 3, none⟩ = some (.int .i64 x.i) ∧ w'.cell? ⟨b, off + i * 3 + 1, none⟩ = some (.int .i64 x.m) ∧ w'.cell? ⟨b, off + i * 3 + 2, none⟩ = some (.int .i64 x.b) := by
 have hi : i < n := by
  have := (List.getElem?_eq_some_iff.1 hx).1
  have := h.size
  omega
 obtain ⟨y, b', off', hy, e, c⟩ := vrow_at (h.below hb) i hi
 cases e
 rw [hx] at hy
 cases hy
 exact c

theorem vrow_put {w : World} {base g n cap : Nat} {pre post : List VR} {x y : VR} (h : w.ownsRow base 52 3 (.slice (some ⟨g, 0, none⟩) n cap) n (vrowF.all (pre ++ x :: post))) :
  (((w.setCell ⟨g, pre.length * 3, none⟩ (.int .i64 y.i)).setCell ⟨g, pre.length * 3 + 1, none⟩ (.int .i64 y.m)).setCell ⟨g, pre.length * 3 + 2, none⟩ (.int .i64 y.b)).ownsRow base 52 3 (.slice (some ⟨g, 0, none⟩) n cap) n (vrowF.all (pre ++ y :: post)) := by
 have R0 := flat_stored (F := vrowF) (x' := ⟨y.i, x.m, x.b⟩) h 0 (.int .i64 y.i) (by decide) rfl
 have R1 := flat_stored (F := vrowF) (x' := ⟨y.i, y.m, x.b⟩) R0 1 (.int .i64 y.m) (by decide) rfl
 exact flat_stored (F := vrowF) (x' := y) R1 2 (.int .i64 y.b) (by decide) rfl

theorem grown_set3 {w : World} {g : Nat} (j0 j1 j2 : Nat) (u0 u1 u2 : Value) : w.grownBy (((w.setCell ⟨g, j0, none⟩ u0).setCell ⟨g, j1, none⟩ u1).setCell ⟨g, j2, none⟩ u2) (some g) :=
 grownTr (grownTr (grown_set _ _) (grown_set _ _)) (grown_set _ _)

theorem vrow_cells {w : World} {base g n cap : Nat} {T : TypeId} {l : List VR} (h : w.ownsRow base T 3 (.slice (some ⟨g, 0, none⟩) n cap) n (vrowF.all l)) {i : Nat} {x : VR} (hx : l[i]? = some x) :
  (w.cell? ⟨g, i * 3, none⟩ = some (.int .i64 x.i) ∧ w.cell? ⟨g, i * 3 + 1, none⟩ = some (.int .i64 x.m) ∧ w.cell? ⟨g, i * 3 + 2, none⟩ = some (.int .i64 x.b)) ∧
  (w.frozen? ⟨g, i * 3, none⟩ = false ∧ w.frozen? ⟨g, i * 3 + 1, none⟩ = false ∧ w.frozen? ⟨g, i * 3 + 2, none⟩ = false) := by
 have c0 := flat_cells (F := vrowF) h hx (j := 0) (v := .int .i64 x.i) rfl
 have c1 := flat_cells (F := vrowF) h hx (j := 1) (v := .int .i64 x.m) rfl
 have c2 := flat_cells (F := vrowF) h hx (j := 2) (v := .int .i64 x.b) rfl
 exact ⟨⟨c0.1, c1.1, c2.1⟩, c0.2, c1.2, c2.2⟩

set_option maxRecDepth 100000 in
set_option maxHeartbeats 2000000 in
theorem toVrows_made (ao : Option Addr) (n c : Nat) (l : List VR) (w : World) (hl : GRow vrowF w ao n c l) (hs : n ≤ 1048576) :
  Calls Try.prog 28 #[.slice ao n c] w fun r w' => ∃ ao' cap, r = .returned (.slice ao' n cap) ∧ w'.ownsRow w.heap.size 52 3 (.slice ao' n cap) n (vrowF.all l) ∧ GRow vrowF w' ao' n cap l ∧ Below w.heap.size w w' := by
 obtain ⟨i0, hi, hz0, hz1, hz2⟩ := finfo_parts vrowInfoH
 have s1 := hl.size
 go_enter Try.func28, Try.ntmps28
 go_wp2_with (at_make; refine wpList_make_full _ rfl _ _ 34 rfl w.heap.size 52 i0 (.agg #[.int .i64 0, .int .i64 0, .int .i64 0]) 3 Try.underlying34 hi hz0 hz1 .i64 .i64 _ _ n rfl rfl rfl rfl ?c1 ?c2 ?c3 ?_)
 case c1 => rw [hz2]; omega
 case c2 => unfold maxLen; omega
 case c3 => exact Nat.le_refl _
 intro w1 hown hgrow
 have hb1 : Below w.heap.size w w1 := (Below.refl _ _).grown hgrow (Nat.le_refl _) (by intro k hk; cases hk)
 have hown1 : w1.ownsRow w.heap.size 52 3 (.slice (some ⟨w.heap.size, 0, none⟩) n n) n (vrowF.all (l.take 0 ++ List.replicate (n - 0) VR.zero)) := by
  rw [List.take_zero, List.nil_append, Nat.sub_zero, ← flat_made]; exact hown
 clear hown hgrow hi hz0 hz1 hz2
 go_wp2
 go_loopw [4] (fun i wr => ∃ k : Nat, k ≤ n ∧ i = .int .i64 k ∧ wr.ownsRow w.heap.size 52 3 (.slice (some ⟨w.heap.size, 0, none⟩) n n) n (vrowF.all (l.take k ++ List.replicate (n - k) VR.zero)) ∧ Below w.heap.size w wr) (fun i _ => n - (intOf i).toNat)
 case atStart => exact ⟨0, Nat.zero_le _, rfl, hown1, hb1⟩
 case round =>
  obtain ⟨k, hk, rfl, ho, hb⟩ := hrel
  clear hown1 hb1
  by_cases hlt : k < n
  ·obtain ⟨x, b, off, hx, rfl, a0, a1, a2⟩ := vrow_at (hl.below hb) k hlt
   have hrep : List.replicate (n - k) VR.zero = VR.zero :: List.replicate (n - (k + 1)) VR.zero := by rw [← List.replicate_succ]; congr 1; omega
   have hlk : (l.take k).length = k := by rw [List.length_take]; omega
   rw [hrep] at ho
   have htk : l.take (k + 1) = l.take k ++ [x] := by rw [List.take_add_one, hx]; rfl
   have HTK := hide htk
   have HB := hide hb
   have HO := hide ho
   have HX := hide hx
   clear hb ho htk hx
   go_wp2_with fail
   refine (toVrow_made x _).mono ?_
   rintro r w2 ⟨rfl, hb2⟩
   have ho2 := gown_below HO.out hb2
   have hz : (l.take k ++ VR.zero :: List.replicate (n - (k + 1)) VR.zero)[k]? = some VR.zero := by rw [List.getElem?_append_right (by omega), hlk, Nat.sub_self]; rfl
   obtain ⟨⟨t0, t1, t2⟩, f0, f1, f2⟩ := vrow_cells ho2 hz
   have o3 := vrow_put (y := x) ho2
   rw [hlk] at o3
   have HO3 := hide o3
   have hb3 := gr_trans HB.out hb2
   have HB3 := hide (hb3.grown (grown_set3 (w := w2) (g := w.heap.size) (k * 3) (k * 3 + 1) (k * 3 + 2) (.int .i64 x.i) (.int .i64 x.m) (.int .i64 x.b)) hb3.size (by intro j e; cases e; exact Nat.le_refl _))
   clear ho2 hb2 hb3 o3 hz a0 a1 a2
   go_wp2
   go_roundw
   case rel => exact ⟨k + 1, by omega, by go_num, by rw [HTK.out, List.append_assoc]; exact HO3.out, HB3.out⟩
   case measure => simp [intOf]; omega
  ·have hkn : k = n := by omega
   subst hkn
   rw [Nat.sub_self, List.take_of_length_le (by omega), List.replicate_zero, List.append_nil] at ho
   have HO := hide ho
   have HR := hide (grow_own ho)
   have HB := hide hb
   clear ho hb
   go_wp2
   go_ret
   exact ⟨_, _, rfl, HO.out, HR.out, HB.out⟩

set_option maxRecDepth 100000 in
set_option maxHeartbeats 400000 in
theorem eqVrow_same (e : VR) (w : World) :
  Calls Try.prog 37 #[.agg #[.int .i64 e.i, .int .i64 e.m, .int .i64 e.b], .agg #[.int .i64 e.i, .int .i64 e.m, .int .i64 e.b]] w fun r w' => r = .returned (.bool true) ∧ Below w.heap.size w w' := by
 go_enter Try.func37, Try.ntmps37
 go_wp2
 go_ret
 exact ⟨rfl, below_two _ _ _⟩

set_option maxRecDepth 100000 in
set_option maxHeartbeats 400000 in
theorem szVrows_any (ao : Option Addr) (n c : Nat) (left : Int) (w : World) (hl : n ≤ maxLen) (h0 : 0 ≤ left) (h1 : left ≤ 1048576) :
  Calls Try.prog 24 #[.slice ao n c, .int .i64 left] w fun r w' => r = .returned (.int .i64 (if (n : Int) ≤ left then left - n else -1)) ∧ w' = w := by
 unfold maxLen at hl
 go_enter Try.func24, Try.ntmps24
 go_wp2
 all_goals go_ret
 all_goals exact ⟨rfl, rfl⟩

set_option maxRecDepth 100000 in
set_option maxHeartbeats 400000 in
theorem szInts9_any (ao : Option Addr) (n c : Nat) (left : Int) (w : World) (hl : n ≤ maxLen) (h0 : 0 ≤ left) (h1 : left ≤ 1048576) :
  Calls Try.prog 25 #[.slice ao n c, .int .i64 left] w fun r w' => r = .returned (.int .i64 (if (n : Int) ≤ left then left - n else -1)) ∧ w' = w := by
 unfold maxLen at hl
 go_enter Try.func25, Try.ntmps25
 go_wp2
 all_goals go_ret
 all_goals exact ⟨rfl, rfl⟩

set_option maxRecDepth 100000 in
set_option maxHeartbeats 2000000 in
theorem eqVrows_same (ao : Option Addr) (n c : Nat) (ao' : Option Addr) (n' c' : Nat) (l : List VR) (w : World) (hl : GRow vrowF w ao n c l) (hl' : GRow vrowF w ao' n' c' l) :
  Calls Try.prog 32 #[.slice ao n c, .slice ao' n' c'] w fun r w' => r = .returned (.bool true) ∧ Below w.heap.size w w' := by
 have hs := hl.size
 have hs' := hl'.size
 have htop := Nat.le_trans hl.le hl.top
 unfold maxLen at htop
 have hnn : n' = n := by omega
 subst hnn
 go_enter Try.func32, Try.ntmps32
 go_wp2
 go_loopw [5] (fun i wr => ∃ k : Nat, k ≤ n' ∧ i = .int .i64 k ∧ Below w.heap.size w wr) (fun i _ => n' - (intOf i).toNat)
 case atStart => exact ⟨0, Nat.zero_le _, rfl, Below.refl _ _⟩
 case round =>
  obtain ⟨k, hk, rfl, hb⟩ := hrel
  by_cases hlt : k < n'
  ·obtain ⟨x, b, off, hx, rfl, a0, a1, a2⟩ := vrow_at (hl.below hb) k hlt
   obtain ⟨y, b', off', hy, rfl, e0, e1, e2⟩ := vrow_at (hl'.below hb) k hlt
   rw [hx] at hy
   cases hy
   have HS : Hid (∀ W, Below wr.heap.size wr W → (W.cell? ⟨b, off + k * 3, none⟩ = some (.int .i64 x.i) ∧ W.cell? ⟨b, off + k * 3 + 1, none⟩ = some (.int .i64 x.m) ∧ W.cell? ⟨b, off + k * 3 + 2, none⟩ = some (.int .i64 x.b)) ∧ (W.cell? ⟨b', off' + k * 3, none⟩ = some (.int .i64 x.i) ∧ W.cell? ⟨b', off' + k * 3 + 1, none⟩ = some (.int .i64 x.m) ∧ W.cell? ⟨b', off' + k * 3 + 2, none⟩ = some (.int .i64 x.b))) := hide (fun W h => ⟨at3h (hl.below hb) h hx, at3h (hl'.below hb) h hx⟩)
   have vv : Below wr.heap.size wr wr.drew := gr_drew (Below.refl _ _)
   have i1 : (0 : Int) ≤ (k : Int) := by omega
   have i2 : (k : Int) < (n' : Int) := by omega
   have HB := hide hb
   clear hb a0 a1 a2 e0 e1 e2 hx
   go_wp2_with fail
   refine wp_region_held_drew (S := (fun W => (W.cell? ⟨b, off + k * 3, none⟩ = some (.int .i64 x.i) ∧ W.cell? ⟨b, off + k * 3 + 1, none⟩ = some (.int .i64 x.m) ∧ W.cell? ⟨b, off + k * 3 + 2, none⟩ = some (.int .i64 x.b)) ∧ (W.cell? ⟨b', off' + k * 3, none⟩ = some (.int .i64 x.i) ∧ W.cell? ⟨b', off' + k * 3 + 1, none⟩ = some (.int .i64 x.m) ∧ W.cell? ⟨b', off' + k * 3 + 2, none⟩ = some (.int .i64 x.b)))) (by kernel_rfl) (HS.out _ vv) (fun hHeld => ?_)
   refine wpAnyH_take (i := 0) (oi := ⟨some 17, .move (.tmp 0), 34, "exact.go:657", #[], none⟩) (v := ?_) rfl (by kernel_rfl) (by kernel_rfl) (by kernel_rfl) (fun _ _ _ h => h) (Or.inl ⟨by rfl, ?_⟩) (by assumption) ?_
   rotate_left
   ·(intro wY hSw; (try dsimp only at hSw); go_simp; try with_reducible rfl)
   simp only [Act.put, lA, lB, lC]
   refine wpAnyH_take (i := 1) (oi := ⟨some 18, .move (.tmp 5), 3, "exact.go:657", #[], none⟩) (v := ?_) rfl (by kernel_rfl) (by kernel_rfl) (by kernel_rfl) (fun _ _ _ h => h) (Or.inl ⟨by rfl, ?_⟩) (by assumption) ?_
   rotate_left
   ·(intro wY hSw; (try dsimp only at hSw); go_simp; try with_reducible rfl)
   simp only [Act.put, lA, lB, lC]
   refine wpAnyH_take (i := 2) (oi := ⟨some 19, .indexAddr 34 (.tmp 17) (.tmp 18), 0, "exact.go:657", #[⟨0, .data⟩, ⟨1, .data⟩], none⟩) (v := ?_) rfl (by kernel_rfl) (by kernel_rfl) (by kernel_rfl) (fun _ _ _ h => h) (Or.inl ⟨by rfl, ?_⟩) (by assumption) ?_
   rotate_left
   ·(intro wY hSw; (try dsimp only at hSw); go_simp; try with_reducible rfl)
   simp only [Act.put, lA, lB, lC]
   refine wpAnyH_take (i := 3) (oi := ⟨some 20, .load 52 (.tmp 19), 52, "exact.go:657", #[⟨2, .data⟩], none⟩) (v := ?_) rfl (by kernel_rfl) (by kernel_rfl) (by kernel_rfl) (fun _ _ _ h => h) (Or.inl ⟨by rfl, ?_⟩) (by assumption) ?_
   rotate_left
   ·(intro wY hSw; (try dsimp only at hSw); go_simp; try with_reducible rfl)
   simp only [Act.put, lA, lB, lC]
   refine wpAnyH_take (i := 4) (oi := ⟨some 21, .move (.tmp 1), 34, "exact.go:657", #[], none⟩) (v := ?_) rfl (by kernel_rfl) (by kernel_rfl) (by kernel_rfl) (fun _ _ _ h => h) (Or.inl ⟨by rfl, ?_⟩) (by assumption) ?_
   rotate_left
   ·(intro wY hSw; (try dsimp only at hSw); go_simp; try with_reducible rfl)
   simp only [Act.put, lA, lB, lC]
   refine wpAnyH_take (i := 5) (oi := ⟨some 22, .move (.tmp 5), 3, "exact.go:657", #[], none⟩) (v := ?_) rfl (by kernel_rfl) (by kernel_rfl) (by kernel_rfl) (fun _ _ _ h => h) (Or.inl ⟨by rfl, ?_⟩) (by assumption) ?_
   rotate_left
   ·(intro wY hSw; (try dsimp only at hSw); go_simp; try with_reducible rfl)
   simp only [Act.put, lA, lB, lC]
   refine wpAnyH_take (i := 6) (oi := ⟨some 23, .indexAddr 34 (.tmp 21) (.tmp 22), 0, "exact.go:657", #[⟨4, .data⟩, ⟨5, .data⟩], none⟩) (v := ?_) rfl (by kernel_rfl) (by kernel_rfl) (by kernel_rfl) (fun _ _ _ h => h) (Or.inl ⟨by rfl, ?_⟩) (by assumption) ?_
   rotate_left
   ·(intro wY hSw; (try dsimp only at hSw); go_simp; try with_reducible rfl)
   simp only [Act.put, lA, lB, lC]
   refine wpAnyH_take (i := 7) (oi := ⟨some 24, .load 52 (.tmp 23), 52, "exact.go:657", #[⟨6, .data⟩], none⟩) (v := ?_) rfl (by kernel_rfl) (by kernel_rfl) (by kernel_rfl) (fun _ _ _ h => h) (Or.inl ⟨by rfl, ?_⟩) (by assumption) ?_
   rotate_left
   ·(intro wY hSw; (try dsimp only at hSw); go_simp; try with_reducible rfl)
   simp only [Act.put, lA, lB, lC]
   refine wpAnyH_ready (rs := [8]) (by kernel_rfl) (by simp) ?_
   refine AllReadyH.cons (o := ⟨some 25, .call ⟨.value (.func 37), #[.tmp 20, .tmp 24], #[52, 52]⟩, 4, "exact.go:657", #[⟨3, .data⟩, ⟨7, .data⟩], none⟩) rfl (fun K hK => ?_) ?_
   ·go_simp
    refine (eqVrow_same x _).mono ?_
    rintro r wz ⟨rfl, hbz⟩
    have vv := gr_trans vv hbz
    go_wp2_with fail
    refine hK.out _ _ (HS.out _ vv) (fun hHeld => ?_)
    clear hK K
    try simp only [Act.put, lA, lB, lC]
    refine wpAnyH_take (i := 9) (oi := ⟨some 26, .unOp .not 4 (.tmp 25), 4, "exact.go:657", #[⟨8, .data⟩], none⟩) (v := ?_) rfl (by kernel_rfl) (by kernel_rfl) (by kernel_rfl) (fun _ _ _ h => h) (Or.inl ⟨by rfl, ?_⟩) (by assumption) ?_
    rotate_left
    ·(intro wY hSw; (try dsimp only at hSw); go_simp; try with_reducible rfl)
    simp only [Act.put, lA, lB, lC]
    refine wpAnyH_done (by kernel_rfl) ?_ _
    have b1 := gr_trans HB.out vv
    clear HS hHeld vv
    go_wp2
    go_roundw
    case rel => exact ⟨k + 1, by omega, by go_num, b1⟩
    case measure => simp [intOf]; omega
   exact AllReadyH.nil
  ·have hk' : k = n' := by omega
   subst hk'
   go_wp2
   go_ret
   exact ⟨rfl, hb⟩

def sameVd (x y : VD) : Bool := (x.r == y.r) && ((x.c == y.c) && ((x.h == y.h) && ((x.b == y.b) && (x.p == y.p))))
def samePt (x y : PT) : Bool := (x.up == y.up) && ((x.k == y.k) && ((x.has == y.has) && sameVd x.v y.v))
def sameFe (x y : FE) : Bool := (x.t == y.t) && ((x.m == y.m) && ((x.p == y.p) && ((x.a == y.a) && (x.s == y.s))))
def sameVr (x y : VR) : Bool := (x.i == y.i) && ((x.m == y.m) && (x.b == y.b))

theorem samePt_iff (x y : PT) : samePt x y = true ↔ x = y := by
 obtain ⟨u, k, h, ⟨r, c, hh, b, p⟩⟩ := x
 obtain ⟨u', k', h', ⟨r', c', hh', b', p'⟩⟩ := y
 simp [samePt, sameVd]

theorem sameFe_iff (x y : FE) : sameFe x y = true ↔ x = y := by
 obtain ⟨t, m, p, a, s⟩ := x
 obtain ⟨t', m', p', a', s'⟩ := y
 simp [sameFe]

theorem sameVr_iff (x y : VR) : sameVr x y = true ↔ x = y := by
 obtain ⟨i, m, b⟩ := x
 obtain ⟨i', m', b'⟩ := y
 simp [sameVr]

theorem fent_neq2 (x y : FE) (w : World) : (binOp .neq 50 (.agg #[.int .i64 x.t, .int .i64 x.m, .int .i64 x.p, .int .i64 x.a, .bool x.s]) (.agg #[.int .i64 y.t, .int .i64 y.m, .int .i64 y.p, .int .i64 y.a, .bool y.s])).run Try.prog w = .ok (.bool (!sameFe x y)) w := by
 have u3 := Try.underlying3
 have a3 := Try.isAgg3
 have z3 := Try.sizeOf3
 have u4 := Try.underlying4
 have a4 := Try.isAgg4
 have z4 := Try.sizeOf4
 have hS : Try.prog.underlying 50 = some (.struct (Try.prog.fieldsOf 50)) := by kernel_rfl
 have hp : Try.prog.stoodInHeld 50 = false := by kernel_rfl
 rw [run_neq_struct, show (10000 : Nat) = 9999 + 1 from rfl, run_equalIn_agg w 9999 50 _ _ hS hp]
 simp only [Program.fieldsOf, Try.underlying50]
 unfold sameFe
 go_simp
 by_cases h1 : x.t = y.t <;> by_cases h2 : x.m = y.m <;> by_cases h3 : x.p = y.p <;> by_cases h4 : x.a = y.a <;> by_cases h5 : x.s = y.s <;> simp [h1, h2, h3, h4, h5]

theorem vrow_neq2 (x y : VR) (w : World) : (binOp .neq 52 (.agg #[.int .i64 x.i, .int .i64 x.m, .int .i64 x.b]) (.agg #[.int .i64 y.i, .int .i64 y.m, .int .i64 y.b])).run Try.prog w = .ok (.bool (!sameVr x y)) w := by
 have u3 := Try.underlying3
 have a3 := Try.isAgg3
 have z3 := Try.sizeOf3
 have hS : Try.prog.underlying 52 = some (.struct (Try.prog.fieldsOf 52)) := by kernel_rfl
 have hp : Try.prog.stoodInHeld 52 = false := by kernel_rfl
 rw [run_neq_struct, show (10000 : Nat) = 9999 + 1 from rfl, run_equalIn_agg w 9999 52 _ _ hS hp]
 simp only [Program.fieldsOf, Try.underlying52]
 unfold sameVr
 go_simp
 by_cases h1 : x.i = y.i <;> by_cases h2 : x.m = y.m <;> by_cases h3 : x.b = y.b <;> simp [h1, h2, h3]

theorem pt_neq2 (x y : PT) (w : World) : (binOp .neq 48 (.agg #[.bool x.up, .int .i64 x.k, .bool x.has, .int .i64 x.v.r, .int .i64 x.v.c, .int .i64 x.v.h, .int .i64 x.v.b, .int .i64 x.v.p]) (.agg #[.bool y.up, .int .i64 y.k, .bool y.has, .int .i64 y.v.r, .int .i64 y.v.c, .int .i64 y.v.h, .int .i64 y.v.b, .int .i64 y.v.p])).run Try.prog w = .ok (.bool (!samePt x y)) w := by
 have u3 := Try.underlying3
 have a3 := Try.isAgg3
 have z3 := Try.sizeOf3
 have u4 := Try.underlying4
 have a4 := Try.isAgg4
 have z4 := Try.sizeOf4
 have u5 := Try.underlying46
 have a5 := Try.isAgg46
 have z5 := Try.sizeOf46
 have hS : Try.prog.underlying 48 = some (.struct (Try.prog.fieldsOf 48)) := by kernel_rfl
 have hp : Try.prog.stoodInHeld 48 = false := by kernel_rfl
 have hS5 : Try.prog.underlying 46 = some (.struct (Try.prog.fieldsOf 46)) := by kernel_rfl
 have hp5 : Try.prog.stoodInHeld 46 = false := by kernel_rfl
 have hE : ∀ W, (Op.equalIn 9999 46 (.agg #[.int .i64 x.v.r, .int .i64 x.v.c, .int .i64 x.v.h, .int .i64 x.v.b, .int .i64 x.v.p]) (.agg #[.int .i64 y.v.r, .int .i64 y.v.c, .int .i64 y.v.h, .int .i64 y.v.b, .int .i64 y.v.p])).run Try.prog W = .ok (sameVd x.v y.v) W := by
  intro W
  rw [show (9999 : Nat) = 9998 + 1 from rfl, run_equalIn_agg W 9998 46 _ _ hS5 hp5]
  simp only [Program.fieldsOf, Try.underlying46]
  unfold sameVd
  clear hS hp hS5 hp5 u4 a4 z4 u5 a5 z5
  go_simp
  by_cases h1 : x.v.r = y.v.r <;> by_cases h2 : x.v.c = y.v.c <;> by_cases h3 : x.v.h = y.v.h <;> by_cases h4 : x.v.b = y.v.b <;> by_cases h5 : x.v.p = y.v.p <;> simp [h1, h2, h3, h4, h5]
 rw [run_neq_struct, show (10000 : Nat) = 9999 + 1 from rfl, run_equalIn_agg w 9999 48 _ _ hS hp]
 simp only [Program.fieldsOf, Try.underlying48]
 unfold samePt
 generalize hV : sameVd x.v y.v = V at *
 clear hS hp hS5 hp5 hV
 go_simp
 by_cases h1 : x.up = y.up <;> by_cases h2 : x.k = y.k <;> by_cases h3 : x.has = y.has <;> cases V <;> simp [h1, h2, h3]

set_option maxRecDepth 100000 in
theorem five_eql (a b c d e a' b' c' d' e' : Int) (w : World) : (binOp .eql 59 (.agg #[.int .i64 a, .int .i64 b, .int .i64 c, .int .i64 d, .int .i64 e]) (.agg #[.int .i64 a', .int .i64 b', .int .i64 c', .int .i64 d', .int .i64 e'])).run Try.prog w = .ok (.bool ((a == a') && ((b == b') && ((c == c') && ((d == d') && (e == e')))))) w := by
 have u3 := Try.underlying3
 have a3 := Try.isAgg3
 have z3 := Try.sizeOf3
 obtain ⟨i0, hi, -, -, -⟩ := finfo_parts (k := 1) Try.infoI64
 have hc : Try.prog.cellsOf 3 = 1 := by kernel_rfl
 rw [run_eql_struct, show (10000 : Nat) = 9999 + 1 from rfl, run_equalIn_array w 9999 _ _ Try.underlying59 hi, hc]
 simp only [show List.range 5 = [0, 1, 2, 3, 4] from rfl, Op.eqItems]
 go_simp
 by_cases h1 : a = a' <;> by_cases h2 : b = b' <;> by_cases h3 : c = c' <;> by_cases h4 : d = d' <;> by_cases h5 : e = e' <;> simp [h1, h2, h3, h4, h5]

set_option maxRecDepth 100000 in
set_option maxHeartbeats 400000 in
theorem specSame_any (a1 : Option Addr) (l1 c1 : Nat) (z1 : List Int) (a2 : Option Addr) (l2 c2 : Nat) (z2 : List Int) (w : World) (h1 : IRow w a1 l1 c1 z1) (h2 : IRow w a2 l2 c2 z2) :
  Calls Try.prog 12 #[.slice a1 l1 c1, .slice a2 l2 c2] w fun e w' => e = .returned (.bool (decide (z1 = z2))) ∧ ∃ n, w' = w.drewN n := by
 have m1 := h1.top; have m2 := h2.top; have s1 := h1.size; have s2 := h2.size; have e1 := h1.le; have e2 := h2.le
 unfold maxLen at m1 m2
 by_cases hl : l1 = l2
 ·subst hl
  by_cases h0 : l1 = 0
  ·subst h0
   have hz : z1 = z2 := by rw [List.eq_nil_of_length_eq_zero s1, List.eq_nil_of_length_eq_zero s2]
   go_enter Try.func12, Try.ntmps12
   go_wp2
   go_loop [5] (fun i => i = .int .i64 0) (fun _ => 0)
   case atStart => rfl
   case round =>
    subst hrel
    go_wp2
    go_ret
    exact ⟨by simp, 0, rfl⟩
  ·rcases h1.cell with h | ⟨b1, o1, rfl, g1⟩
   ·exact absurd h h0
   rcases h2.cell with h | ⟨b2, o2, rfl, g2⟩
   ·exact absurd h h0
   clear h1 h2
   have G1 : Hid (∀ i, i < l1 → w.cell? ⟨b1, o1 + i, none⟩ = some (.int .i64 (z1.getD i 0))) := g1
   have G2 : Hid (∀ i, i < l1 → w.cell? ⟨b2, o2 + i, none⟩ = some (.int .i64 (z2.getD i 0))) := g2
   clear g1 g2
   go_enter Try.func12, Try.ntmps12
   go_wp2
   go_loopw [5] (fun i wr => ∃ k : Nat, k ≤ l1 ∧ i = .int .i64 k ∧ z1.take k = z2.take k ∧ ∃ n, wr = w.drewN n) (fun i _ => l1 - (intOf i).toNat)
   case atStart => exact ⟨0, Nat.zero_le _, rfl, rfl, 0, rfl⟩
   case round =>
    obtain ⟨k, hk, rfl, ht, n, rfl⟩ := hrel
    have HT : Hid (z1.take k = z2.take k) := ht
    clear ht
    by_cases hlt : k < l1
    ·have c1 := G1.out k hlt
     have c2 := G2.out k hlt
     generalize hx : z1.getD k 0 = x at c1
     generalize hy : z2.getD k 0 = y at c2
     have HX : Hid (z1.getD k 0 = x) := hx
     have HY : Hid (z2.getD k 0 = y) := hy
     clear hx hy
     by_cases hq : x = y
     ·subst hq
      go_wp2
      go_quiet (fail)
      go_wp2
      go_roundw
      case rel => exact ⟨k + 1, by omega, by go_num, by rw [take_succ_getD _ _ (by omega), take_succ_getD _ _ (by omega), HT.out, HX.out, HY.out], _, rfl⟩
      case measure => simp [intOf]; omega
     ·have hne : (x != y) = true := by simp [hq]
      go_wp2
      go_quiet (fail)
      go_wp2
      go_ret
      exact ⟨ret_bool (decide_eq_false (ne_at k (by rw [HX.out, HY.out]; exact hq))).symm, _, World.drewN_drewN _ _ _⟩
    ·go_wp2
     go_ret
     have hk' : k = l1 := by omega
     exact ⟨ret_bool (decide_eq_true (eq_of_takes (by omega) (by rw [s1, ← hk']; exact HT.out))).symm, _, rfl⟩
 ·have hne : ((l1 : Int) != (l2 : Int)) = true := by simp; omega
  have hz : ¬ z1 = z2 := by intro e; rw [e] at s1; omega
  go_enter Try.func12, Try.ntmps12
  go_wp2
  go_ret
  exact ⟨ret_bool (decide_eq_false hz).symm, 0, rfl⟩

set_option maxRecDepth 100000 in
set_option maxHeartbeats 400000 in
theorem equal_any (a1 : Option Addr) (l1 c1 : Nat) (z1 : List Int) (a2 : Option Addr) (l2 c2 : Nat) (z2 : List Int) (w : World) (h1 : IRow w a1 l1 c1 z1) (h2 : IRow w a2 l2 c2 z2) :
  Calls Try.prog 19 #[.slice a1 l1 c1, .slice a2 l2 c2] w fun e w' => e = .returned (.bool (decide (z1 = z2))) ∧ ∃ n, w' = w.drewN n := by
 have m1 := h1.top; have m2 := h2.top; have s1 := h1.size; have s2 := h2.size; have e1 := h1.le; have e2 := h2.le
 unfold maxLen at m1 m2
 by_cases hl : l1 = l2
 ·subst hl
  by_cases h0 : l1 = 0
  ·subst h0
   have hz : z1 = z2 := by rw [List.eq_nil_of_length_eq_zero s1, List.eq_nil_of_length_eq_zero s2]
   go_enter Try.func19, Try.ntmps19
   go_wp2
   go_loop [13] (fun i => i = .int .i64 0) (fun _ => 0)
   case atStart => rfl
   case round =>
    subst hrel
    go_wp2
    go_ret
    exact ⟨by simp, 0, rfl⟩
  ·rcases h1.cell with h | ⟨b1, o1, rfl, g1⟩
   ·exact absurd h h0
   rcases h2.cell with h | ⟨b2, o2, rfl, g2⟩
   ·exact absurd h h0
   clear h1 h2
   have G1 : Hid (∀ i, i < l1 → w.cell? ⟨b1, o1 + i, none⟩ = some (.int .i64 (z1.getD i 0))) := g1
   have G2 : Hid (∀ i, i < l1 → w.cell? ⟨b2, o2 + i, none⟩ = some (.int .i64 (z2.getD i 0))) := g2
   clear g1 g2
   go_enter Try.func19, Try.ntmps19
   go_wp2
   go_loopw [13] (fun i wr => ∃ k : Nat, k ≤ l1 ∧ i = .int .i64 k ∧ z1.take k = z2.take k ∧ ∃ n, wr = w.drewN n) (fun i _ => l1 - (intOf i).toNat)
   case atStart => exact ⟨0, Nat.zero_le _, rfl, rfl, 0, rfl⟩
   case round =>
    obtain ⟨k, hk, rfl, ht, n, rfl⟩ := hrel
    have HT : Hid (z1.take k = z2.take k) := ht
    clear ht
    by_cases hlt : k < l1
    ·have c1 := G1.out k hlt
     have c2 := G2.out k hlt
     generalize hx : z1.getD k 0 = x at c1
     generalize hy : z2.getD k 0 = y at c2
     have HX : Hid (z1.getD k 0 = x) := hx
     have HY : Hid (z2.getD k 0 = y) := hy
     clear hx hy
     by_cases hq : x = y
     ·subst hq
      go_wp2
      go_quiet (fail)
      go_wp2
      go_roundw
      case rel => exact ⟨k + 1, by omega, by go_num, by rw [take_succ_getD _ _ (by omega), take_succ_getD _ _ (by omega), HT.out, HX.out, HY.out], _, rfl⟩
      case measure => simp [intOf]; omega
     ·have hne : (x != y) = true := by simp [hq]
      go_wp2
      go_quiet (fail)
      go_wp2
      go_ret
      exact ⟨ret_bool (decide_eq_false (ne_at k (by rw [HX.out, HY.out]; exact hq))).symm, _, World.drewN_drewN _ _ _⟩
    ·go_wp2
     go_ret
     have hk' : k = l1 := by omega
     exact ⟨ret_bool (decide_eq_true (eq_of_takes (by omega) (by rw [s1, ← hk']; exact HT.out))).symm, _, rfl⟩
 ·have hne : ((l1 : Int) != (l2 : Int)) = true := by simp; omega
  have hz : ¬ z1 = z2 := by intro e; rw [e] at s1; omega
  go_enter Try.func19, Try.ntmps19
  go_wp2
  go_ret
  exact ⟨ret_bool (decide_eq_false hz).symm, 0, rfl⟩

end Go.Proofs.Ytfefhilolhdonab
