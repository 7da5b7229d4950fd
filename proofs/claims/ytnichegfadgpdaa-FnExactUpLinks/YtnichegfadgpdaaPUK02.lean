/-
  Packed: NetFlat VlanBits VtabOpen PtOpen BrOpen NetOpen PtOkS PtApp.
-/
import Derived.Test.YtnichegfadgpdaaPUKW
import Derived.Test.YtnichegfadgpdaaPUK01
import Derived.Deep.RegionHeld3
import Derived.WalkKit
import Derived.ProofKit
import Derived.OpenShut
import Derived.ShutString
import Derived.ChangeOld
import Derived.Below
import Derived.Lib.SmallJoins
import Derived.Deep.CutRange
namespace Go.Proofs.Ytnichegfadgpdaa
open Go.RowKit

set_option maxRecDepth 100000 in
set_option maxHeartbeats 400000 in
theorem toLink_made (x : LK) (w : World) :
  Calls Try.prog 37 #[.agg #[.int .i64 x.a, .int .i64 x.p, .int .i64 x.b, .int .i64 x.q]] w fun r w' => r = .returned (.agg #[.int .i64 x.a, .int .i64 x.p, .int .i64 x.b, .int .i64 x.q]) ∧ Below w.heap.size w w' := by
 go_enter Try.func37, Try.ntmps37
 go_wp2
 exact bodyPost_ret (v := .agg #[.int .i64 x.a, .int .i64 x.p, .int .i64 x.b, .int .i64 x.q]) (by simp [results, Try.results37, go_sem, *]) rfl ⟨rfl, below_three _ _ _ _⟩

set_option maxRecDepth 100000 in
set_option maxHeartbeats 400000 in
theorem eqLink_same (x : LK) (w : World) :
  Calls Try.prog 43 #[.agg #[.int .i64 x.a, .int .i64 x.p, .int .i64 x.b, .int .i64 x.q], .agg #[.int .i64 x.a, .int .i64 x.p, .int .i64 x.b, .int .i64 x.q]] w fun r w' => r = .returned (.bool true) ∧ Below w.heap.size w w' := by
 go_enter Try.func43, Try.ntmps43
 go_wp2
 go_ret
 exact ⟨rfl, below_two _ _ _⟩

theorem link_later {w w' : World} {b off n cap : Nat} {l : List LK} (h : GRow linkF w (some ⟨b, off, none⟩) n cap l) (hb : Below w.heap.size w w') {i : Nat} {x : LK} (hx : l[i]? = some x) :
  w'.cell? ⟨b, off + i * 4, none⟩ = some (.int .i64 x.a) ∧ w'.cell? ⟨b, off + i * 4 + 1, none⟩ = some (.int .i64 x.p) ∧ w'.cell? ⟨b, off + i * 4 + 2, none⟩ = some (.int .i64 x.b) ∧ w'.cell? ⟨b, off + i * 4 + 3, none⟩ = some (.int .i64 x.q) := by
 have hi : i < n := by
  have := (List.getElem?_eq_some_iff.1 hx).1
  have := h.size
  omega
 obtain ⟨y, b', off', hy, e, c⟩ := link_at (h.below hb) i hi
 cases e
 rw [hx] at hy
 cases hy
 exact c

theorem link_put {w : World} {base g n cap : Nat} {pre post : List LK} {x y : LK} (h : w.ownsRow base 75 4 (.slice (some ⟨g, 0, none⟩) n cap) n (linkF.all (pre ++ x :: post))) :
  ((((w.setCell ⟨g, pre.length * 4, none⟩ (.int .i64 y.a)).setCell ⟨g, pre.length * 4 + 1, none⟩ (.int .i64 y.p)).setCell ⟨g, pre.length * 4 + 2, none⟩ (.int .i64 y.b)).setCell ⟨g, pre.length * 4 + 3, none⟩ (.int .i64 y.q)).ownsRow base 75 4 (.slice (some ⟨g, 0, none⟩) n cap) n (linkF.all (pre ++ y :: post)) := by
 have R0 := flat_stored (F := linkF) (x' := ⟨y.a, x.p, x.b, x.q⟩) h 0 (.int .i64 y.a) (by decide) rfl
 have R1 := flat_stored (F := linkF) (x' := ⟨y.a, y.p, x.b, x.q⟩) R0 1 (.int .i64 y.p) (by decide) rfl
 have R2 := flat_stored (F := linkF) (x' := ⟨y.a, y.p, y.b, x.q⟩) R1 2 (.int .i64 y.b) (by decide) rfl
 exact flat_stored (F := linkF) (x' := y) R2 3 (.int .i64 y.q) (by decide) rfl

theorem link_puts {w : World} {g j : Nat} {y : LK} : w.grownBy ((((w.setCell ⟨g, j, none⟩ (.int .i64 y.a)).setCell ⟨g, j + 1, none⟩ (.int .i64 y.p)).setCell ⟨g, j + 2, none⟩ (.int .i64 y.b)).setCell ⟨g, j + 3, none⟩ (.int .i64 y.q)) (some g) :=
 grownTr (grownTr (grownTr (grown_set _ _) (grown_set _ _)) (grown_set _ _)) (grown_set _ _)

theorem link_cells {w : World} {base g n cap : Nat} {T : TypeId} {l : List LK} (h : w.ownsRow base T 4 (.slice (some ⟨g, 0, none⟩) n cap) n (linkF.all l)) {i : Nat} {x : LK} (hx : l[i]? = some x) :
  (w.cell? ⟨g, i * 4, none⟩ = some (.int .i64 x.a) ∧ w.cell? ⟨g, i * 4 + 1, none⟩ = some (.int .i64 x.p) ∧ w.cell? ⟨g, i * 4 + 2, none⟩ = some (.int .i64 x.b) ∧ w.cell? ⟨g, i * 4 + 3, none⟩ = some (.int .i64 x.q)) ∧
  (w.frozen? ⟨g, i * 4, none⟩ = false ∧ w.frozen? ⟨g, i * 4 + 1, none⟩ = false ∧ w.frozen? ⟨g, i * 4 + 2, none⟩ = false ∧ w.frozen? ⟨g, i * 4 + 3, none⟩ = false) := by
 have c0 := flat_cells (F := linkF) h hx (j := 0) (v := .int .i64 x.a) rfl
 have c1 := flat_cells (F := linkF) h hx (j := 1) (v := .int .i64 x.p) rfl
 have c2 := flat_cells (F := linkF) h hx (j := 2) (v := .int .i64 x.b) rfl
 have c3 := flat_cells (F := linkF) h hx (j := 3) (v := .int .i64 x.q) rfl
 exact ⟨⟨c0.1, c1.1, c2.1, c3.1⟩, c0.2, c1.2, c2.2, c3.2⟩

def LK.zero : LK := ⟨0, 0, 0, 0⟩

theorem linkInfoH : (Try.prog.info? 75).map (fun i => (i.zero, i.size, i.bytes)) = some (some (.agg #[.int .i64 0, .int .i64 0, .int .i64 0, .int .i64 0]), 4, 32) := by kernel_rfl

set_option maxRecDepth 100000 in
set_option maxHeartbeats 4000000 in
theorem toLinks_made (ao : Option Addr) (n c : Nat) (l : List LK) (w : World) (hl : GRow linkF w ao n c l) (hs : n ≤ 1048576) :
  Calls Try.prog 21 #[.slice ao n c] w fun r w' => ∃ ao' cap, r = .returned (.slice ao' n cap) ∧ w'.ownsRow w.heap.size 75 4 (.slice ao' n cap) n (linkF.all l) ∧ Below w.heap.size w w' := by
 obtain ⟨i0, hi, hz0, hz1, hz2⟩ := finfo_parts linkInfoH
 have s1 := hl.size
 go_enter Try.func21, Try.ntmps21
 go_wp2_with (at_make; refine wpList_make_full _ rfl _ _ 31 rfl w.heap.size 75 i0 (.agg #[.int .i64 0, .int .i64 0, .int .i64 0, .int .i64 0]) 4 Try.underlying31 hi hz0 hz1 .i64 .i64 _ _ n rfl rfl rfl rfl ?c1 ?c2 ?c3 ?_)
 case c1 => rw [hz2]; omega
 case c2 => unfold maxLen; omega
 case c3 => exact Nat.le_refl _
 intro w1 hown hgrow
 have hb1 : Below w.heap.size w w1 := (Below.refl _ _).grown hgrow (Nat.le_refl _) (by intro k hk; cases hk)
 have hown1 : w1.ownsRow w.heap.size 75 4 (.slice (some ⟨w.heap.size, 0, none⟩) n n) n (linkF.all (l.take 0 ++ List.replicate (n - 0) LK.zero)) := by
  rw [List.take_zero, List.nil_append, Nat.sub_zero, ← flat_made]; exact hown
 clear hown hgrow hi hz0 hz1 hz2
 go_wp2
 go_loopw [4] (fun i wr => ∃ k : Nat, k ≤ n ∧ i = .int .i64 k ∧ wr.ownsRow w.heap.size 75 4 (.slice (some ⟨w.heap.size, 0, none⟩) n n) n (linkF.all (l.take k ++ List.replicate (n - k) LK.zero)) ∧ Below w.heap.size w wr) (fun i _ => n - (intOf i).toNat)
 case atStart => exact ⟨0, Nat.zero_le _, rfl, hown1, hb1⟩
 case round =>
  obtain ⟨k, hk, rfl, ho, hb⟩ := hrel
  clear hown1 hb1
  by_cases hlt : k < n
  ·obtain ⟨x, b, off, hx, rfl, a0, a1, a2, a3⟩ := link_at (hl.below hb) k hlt
   have hrep : List.replicate (n - k) LK.zero = LK.zero :: List.replicate (n - (k + 1)) LK.zero := by rw [← List.replicate_succ]; congr 1; omega
   have hlk : (l.take k).length = k := by rw [List.length_take]; omega
   rw [hrep] at ho
   have htk : l.take (k + 1) = l.take k ++ [x] := by rw [List.take_add_one, hx]; rfl
   have HTK := hide htk
   have HB := hide hb
   have HO := hide ho
   have HX := hide hx
   clear hb ho htk hx
   go_wp2_with fail
   refine (toLink_made x _).mono ?_
   rintro r w2 ⟨rfl, hb2⟩
   have ho2 := gown_below HO.out hb2
   have hz : (l.take k ++ LK.zero :: List.replicate (n - (k + 1)) LK.zero)[k]? = some LK.zero := by rw [List.getElem?_append_right (by omega), hlk, Nat.sub_self]; rfl
   obtain ⟨⟨t0, t1, t2, t3⟩, f0, f1, f2, f3⟩ := link_cells ho2 hz
   have o3 := link_put (y := x) ho2
   rw [hlk] at o3
   have HO3 := hide o3
   have hb3 := gr_trans HB.out hb2
   have HB3 := hide (hb3.grown (link_puts (w := w2) (g := w.heap.size) (j := k * 4) (y := x)) hb3.size (by intro j e; cases e; exact Nat.le_refl _))
   clear ho2 hb2 hb3 o3 hz a0 a1 a2 a3
   go_wp2
   go_roundw
   case rel => exact ⟨k + 1, by omega, by go_num, by rw [HTK.out, List.append_assoc]; exact HO3.out, HB3.out⟩
   case measure => simp [intOf]; omega
  ·have hkn : k = n := by omega
   subst hkn
   rw [Nat.sub_self, List.take_of_length_le (by omega), List.replicate_zero, List.append_nil] at ho
   have HO := hide ho
   have HB := hide hb
   clear ho hb
   go_wp2
   go_ret
   exact ⟨_, _, rfl, HO.out, HB.out⟩

set_option maxRecDepth 100000 in
set_option maxHeartbeats 400000 in
theorem szLinks_any (ao : Option Addr) (n c : Nat) (left : Int) (w : World) (hl : n ≤ maxLen) (h0 : 0 ≤ left) (h1 : left ≤ 1048576) :
  Calls Try.prog 17 #[.slice ao n c, .int .i64 left] w fun r w' => r = .returned (.int .i64 (if (n : Int) ≤ left then left - n else -1)) ∧ w' = w := by
 unfold maxLen at hl
 go_enter Try.func17, Try.ntmps17
 go_wp2
 all_goals go_ret
 all_goals exact ⟨rfl, rfl⟩

set_option maxRecDepth 100000 in
set_option maxHeartbeats 4000000 in
theorem eqLinks_same (ao : Option Addr) (n c : Nat) (ao' : Option Addr) (n' c' : Nat) (l : List LK) (w : World) (hl : GRow linkF w ao n c l) (hl' : GRow linkF w ao' n' c' l) :
  Calls Try.prog 25 #[.slice ao n c, .slice ao' n' c'] w fun r w' => r = .returned (.bool true) ∧ Below w.heap.size w w' := by
 have hs := hl.size
 have hs' := hl'.size
 have htop := Nat.le_trans hl.le hl.top
 unfold maxLen at htop
 have hnn : n' = n := by omega
 subst hnn
 go_enter Try.func25, Try.ntmps25
 go_wp2
 go_loopw [5] (fun i wr => ∃ k : Nat, k ≤ n' ∧ i = .int .i64 k ∧ Below w.heap.size w wr) (fun i _ => n' - (intOf i).toNat)
 case atStart => exact ⟨0, Nat.zero_le _, rfl, Below.refl _ _⟩
 case round =>
  obtain ⟨k, hk, rfl, hb⟩ := hrel
  by_cases hlt : k < n'
  ·obtain ⟨x, b, off, hx, rfl, -⟩ := link_at (hl.below hb) k hlt
   obtain ⟨y, b', off', hy, rfl, -⟩ := link_at (hl'.below hb) k hlt
   rw [hx] at hy
   cases hy
   have HS : Hid (∀ W, Below wr.heap.size wr W → (W.cell? ⟨b, off + k * 4, none⟩ = some (.int .i64 x.a) ∧ W.cell? ⟨b, off + k * 4 + 1, none⟩ = some (.int .i64 x.p) ∧ W.cell? ⟨b, off + k * 4 + 2, none⟩ = some (.int .i64 x.b) ∧ W.cell? ⟨b, off + k * 4 + 3, none⟩ = some (.int .i64 x.q)) ∧ (W.cell? ⟨b', off' + k * 4, none⟩ = some (.int .i64 x.a) ∧ W.cell? ⟨b', off' + k * 4 + 1, none⟩ = some (.int .i64 x.p) ∧ W.cell? ⟨b', off' + k * 4 + 2, none⟩ = some (.int .i64 x.b) ∧ W.cell? ⟨b', off' + k * 4 + 3, none⟩ = some (.int .i64 x.q))) := hide (fun W h => ⟨link_later (hl.below hb) h hx, link_later (hl'.below hb) h hx⟩)
   have vv : Below wr.heap.size wr wr.drew := gr_drew (Below.refl _ _)
   have i1 : (0 : Int) ≤ (k : Int) := by omega
   have i2 : (k : Int) < (n' : Int) := by omega
   have HB := hide hb
   clear hb hx
   go_wp2_with fail
   refine wp_region_held_drew (S := (fun W => (W.cell? ⟨b, off + k * 4, none⟩ = some (.int .i64 x.a) ∧ W.cell? ⟨b, off + k * 4 + 1, none⟩ = some (.int .i64 x.p) ∧ W.cell? ⟨b, off + k * 4 + 2, none⟩ = some (.int .i64 x.b) ∧ W.cell? ⟨b, off + k * 4 + 3, none⟩ = some (.int .i64 x.q)) ∧ (W.cell? ⟨b', off' + k * 4, none⟩ = some (.int .i64 x.a) ∧ W.cell? ⟨b', off' + k * 4 + 1, none⟩ = some (.int .i64 x.p) ∧ W.cell? ⟨b', off' + k * 4 + 2, none⟩ = some (.int .i64 x.b) ∧ W.cell? ⟨b', off' + k * 4 + 3, none⟩ = some (.int .i64 x.q)))) (by kernel_rfl) (HS.out _ vv) (fun hHeld => ?_)
   refine kK 0 ⟨some 17, .move (.tmp 0), 31, "exact.go:1128", #[], none⟩ ?_
   refine kK 1 ⟨some 18, .move (.tmp 5), 3, "exact.go:1128", #[], none⟩ ?_
   refine kK 2 ⟨some 19, .indexAddr 31 (.tmp 17) (.tmp 18), 0, "exact.go:1128", #[⟨0, .data⟩, ⟨1, .data⟩], none⟩ ?_
   refine kK 3 ⟨some 20, .load 75 (.tmp 19), 75, "exact.go:1128", #[⟨2, .data⟩], none⟩ ?_
   refine kK 4 ⟨some 21, .move (.tmp 1), 31, "exact.go:1128", #[], none⟩ ?_
   refine kK 5 ⟨some 22, .move (.tmp 5), 3, "exact.go:1128", #[], none⟩ ?_
   refine kK 6 ⟨some 23, .indexAddr 31 (.tmp 21) (.tmp 22), 0, "exact.go:1128", #[⟨4, .data⟩, ⟨5, .data⟩], none⟩ ?_
   refine kK 7 ⟨some 24, .load 75 (.tmp 23), 75, "exact.go:1128", #[⟨6, .data⟩], none⟩ ?_
   refine kR 8 ⟨some 25, .call ⟨.value (.func 43), #[.tmp 20, .tmp 24], #[75, 75]⟩, 4, "exact.go:1128", #[⟨3, .data⟩, ⟨7, .data⟩], none⟩ (fun K hK => ?_)
   go_simp
   refine (eqLink_same x _).mono ?_
   rintro r wz ⟨rfl, hbz⟩
   have vv := gr_trans vv hbz
   go_wp2_with fail
   refine hK.out _ _ (HS.out _ vv) (fun hHeld => ?_)
   clear hK K
   try simp only [Act.put, lA, lB, lC]
   refine kK 9 ⟨some 26, .unOp .not 4 (.tmp 25), 4, "exact.go:1128", #[⟨8, .data⟩], none⟩ ?_
   refine wpAnyH_done (by kernel_rfl) ?_ _
   have b1 := gr_trans HB.out vv
   clear HS hHeld vv
   go_wp2
   go_roundw
   case rel => exact ⟨k + 1, by omega, by go_num, b1⟩
   case measure => simp [intOf]; omega
  ·have hk' : k = n' := by omega
   subst hk'
   go_wp2
   go_ret
   exact ⟨rfl, hb⟩

theorem cells7 {w : World} {g : Nat} {T : TypeId} {c0 c1 c2 c3 c4 c5 c6 : Value} (h : w.heap[g]? = some (.cells #[c0, c1, c2, c3, c4, c5, c6] T)) :
  w.cell? ⟨g, 0, none⟩ = some c0 ∧ w.cell? ⟨g, 1, none⟩ = some c1 ∧ w.cell? ⟨g, 2, none⟩ = some c2 ∧ w.cell? ⟨g, 3, none⟩ = some c3 ∧ w.cell? ⟨g, 4, none⟩ = some c4 ∧ w.cell? ⟨g, 5, none⟩ = some c5 ∧ w.cell? ⟨g, 6, none⟩ = some c6 := by
 simp [World.cell?, h]

set_option maxRecDepth 100000 in
set_option maxHeartbeats 2000000 in
theorem toSay_made (x : SY) (w : World) :
  Calls Try.prog 38 #[.agg #[.int .i64 x.l, .bool x.back, .int .i64 x.v.r, .int .i64 x.v.c, .int .i64 x.v.h, .int .i64 x.v.b, .int .i64 x.v.p]] w fun r w' => r = .returned (.agg #[.int .i64 x.l, .bool x.back, .int .i64 x.v.r, .int .i64 x.v.c, .int .i64 x.v.h, .int .i64 x.v.b, .int .i64 x.v.p]) ∧ Below w.heap.size w w' := by
 go_enter Try.func38, Try.ntmps38
 go_wp2_with fail
 refine (toVec_made x.v.r x.v.c x.v.h x.v.b x.v.p _).mono ?_
 rintro e w2 ⟨rfl, hb2⟩
 obtain ⟨-, k1, k2⟩ := kept_three hb2
 have HB0 := hide (gr_trans (below_three w _ _ _) hb2)
 clear hb2
 obtain ⟨d0, d1, d2, d3, d4, d5, d6⟩ := cells7 k2
 obtain ⟨e0, e1, e2, e3, e4, e5, e6⟩ := cells7 k1
 have fr : ∀ j, w2.frozen? ⟨w.heap.size + 1 + 1, j, none⟩ = false := fun j => by simp [World.frozen?, k2]
 have gr : ∀ j, w2.frozen? ⟨w.heap.size + 1, j, none⟩ = false := fun j => by simp [World.frozen?, k1]
 have f2 := fr 2
 have f3 := fr 3
 have f4 := fr 4
 have f5 := fr 5
 have f6 := fr 6
 have g0 := gr 0
 have g1 := gr 1
 have g2 := gr 2
 have g3 := gr 3
 have g4 := gr 4
 have g5 := gr 5
 have g6 := gr 6
 have ne1 : ¬ w.heap.size + 1 = w.heap.size + 1 + 1 := by omega
 have ne2 : ¬ w.heap.size + 1 + 1 = w.heap.size + 1 := by omega
 have HB := hide (below_set (below_set (below_set (below_set (below_set (below_set (below_set (below_set (below_set (below_set (below_set (below_set (HB0.out) (g := w.heap.size + 1 + 1) (by omega) 2 (.int .i64 x.v.r)) (g := w.heap.size + 1 + 1) (by omega) 3 (.int .i64 x.v.c)) (g := w.heap.size + 1 + 1) (by omega) 4 (.int .i64 x.v.h)) (g := w.heap.size + 1 + 1) (by omega) 5 (.int .i64 x.v.b)) (g := w.heap.size + 1 + 1) (by omega) 6 (.int .i64 x.v.p)) (g := w.heap.size + 1) (by omega) 0 (.int .i64 x.l)) (g := w.heap.size + 1) (by omega) 1 (.bool x.back)) (g := w.heap.size + 1) (by omega) 2 (.int .i64 x.v.r)) (g := w.heap.size + 1) (by omega) 3 (.int .i64 x.v.c)) (g := w.heap.size + 1) (by omega) 4 (.int .i64 x.v.h)) (g := w.heap.size + 1) (by omega) 5 (.int .i64 x.v.b)) (g := w.heap.size + 1) (by omega) 6 (.int .i64 x.v.p))
 clear fr gr k1 k2
 go_wp2
 exact bodyPost_ret (v := .agg #[.int .i64 x.l, .bool x.back, .int .i64 x.v.r, .int .i64 x.v.c, .int .i64 x.v.h, .int .i64 x.v.b, .int .i64 x.v.p]) (by simp [results, Try.results38, go_sem, *]) rfl ⟨rfl, HB.out⟩

set_option maxRecDepth 100000 in
set_option maxHeartbeats 2000000 in
theorem eqSay_same (x : SY) (w : World) :
  Calls Try.prog 44 #[.agg #[.int .i64 x.l, .bool x.back, .int .i64 x.v.r, .int .i64 x.v.c, .int .i64 x.v.h, .int .i64 x.v.b, .int .i64 x.v.p], .agg #[.int .i64 x.l, .bool x.back, .int .i64 x.v.r, .int .i64 x.v.c, .int .i64 x.v.h, .int .i64 x.v.b, .int .i64 x.v.p]] w fun r w' => r = .returned (.bool true) ∧ Below w.heap.size w w' := by
 go_enter Try.func44, Try.ntmps44
 go_wp2_with fail
 refine (eqVec_same x.v.r x.v.c x.v.h x.v.b x.v.p _).mono ?_
 rintro e w2 ⟨rfl, hb2⟩
 have HB := hide (gr_trans (below_two _ _ _) hb2)
 clear hb2
 go_wp2
 go_ret
 exact ⟨rfl, HB.out⟩

theorem say_later {w w' : World} {b off n cap : Nat} {l : List SY} (h : GRow sayF w (some ⟨b, off, none⟩) n cap l) (hb : Below w.heap.size w w') {i : Nat} {x : SY} (hx : l[i]? = some x) :
  w'.cell? ⟨b, off + i * 7, none⟩ = some (.int .i64 x.l) ∧ w'.cell? ⟨b, off + i * 7 + 1, none⟩ = some (.bool x.back) ∧ w'.cell? ⟨b, off + i * 7 + 2, none⟩ = some (.int .i64 x.v.r) ∧ w'.cell? ⟨b, off + i * 7 + 3, none⟩ = some (.int .i64 x.v.c) ∧ w'.cell? ⟨b, off + i * 7 + 4, none⟩ = some (.int .i64 x.v.h) ∧ w'.cell? ⟨b, off + i * 7 + 5, none⟩ = some (.int .i64 x.v.b) ∧ w'.cell? ⟨b, off + i * 7 + 6, none⟩ = some (.int .i64 x.v.p) := by
 have hi : i < n := by
  have := (List.getElem?_eq_some_iff.1 hx).1
  have := h.size
  omega
 obtain ⟨y, b', off', hy, e, c⟩ := say_at (h.below hb) i hi
 cases e
 rw [hx] at hy
 cases hy
 exact c

theorem say_put {w : World} {base g n cap : Nat} {pre post : List SY} {x y : SY} (h : w.ownsRow base 83 7 (.slice (some ⟨g, 0, none⟩) n cap) n (sayF.all (pre ++ x :: post))) :
  (((((((w.setCell ⟨g, pre.length * 7, none⟩ (.int .i64 y.l)).setCell ⟨g, pre.length * 7 + 1, none⟩ (.bool y.back)).setCell ⟨g, pre.length * 7 + 2, none⟩ (.int .i64 y.v.r)).setCell ⟨g, pre.length * 7 + 3, none⟩ (.int .i64 y.v.c)).setCell ⟨g, pre.length * 7 + 4, none⟩ (.int .i64 y.v.h)).setCell ⟨g, pre.length * 7 + 5, none⟩ (.int .i64 y.v.b)).setCell ⟨g, pre.length * 7 + 6, none⟩ (.int .i64 y.v.p)).ownsRow base 83 7 (.slice (some ⟨g, 0, none⟩) n cap) n (sayF.all (pre ++ y :: post)) := by
 have R0 := flat_stored (F := sayF) (x' := ⟨y.l, x.back, ⟨x.v.r, x.v.c, x.v.h, x.v.b, x.v.p⟩⟩) h 0 (.int .i64 y.l) (by decide) rfl
 have R1 := flat_stored (F := sayF) (x' := ⟨y.l, y.back, ⟨x.v.r, x.v.c, x.v.h, x.v.b, x.v.p⟩⟩) R0 1 (.bool y.back) (by decide) rfl
 have R2 := flat_stored (F := sayF) (x' := ⟨y.l, y.back, ⟨y.v.r, x.v.c, x.v.h, x.v.b, x.v.p⟩⟩) R1 2 (.int .i64 y.v.r) (by decide) rfl
 have R3 := flat_stored (F := sayF) (x' := ⟨y.l, y.back, ⟨y.v.r, y.v.c, x.v.h, x.v.b, x.v.p⟩⟩) R2 3 (.int .i64 y.v.c) (by decide) rfl
 have R4 := flat_stored (F := sayF) (x' := ⟨y.l, y.back, ⟨y.v.r, y.v.c, y.v.h, x.v.b, x.v.p⟩⟩) R3 4 (.int .i64 y.v.h) (by decide) rfl
 have R5 := flat_stored (F := sayF) (x' := ⟨y.l, y.back, ⟨y.v.r, y.v.c, y.v.h, y.v.b, x.v.p⟩⟩) R4 5 (.int .i64 y.v.b) (by decide) rfl
 exact flat_stored (F := sayF) (x' := y) R5 6 (.int .i64 y.v.p) (by decide) rfl

theorem say_puts {w : World} {g j : Nat} {y : SY} : w.grownBy (((((((w.setCell ⟨g, j, none⟩ (.int .i64 y.l)).setCell ⟨g, j + 1, none⟩ (.bool y.back)).setCell ⟨g, j + 2, none⟩ (.int .i64 y.v.r)).setCell ⟨g, j + 3, none⟩ (.int .i64 y.v.c)).setCell ⟨g, j + 4, none⟩ (.int .i64 y.v.h)).setCell ⟨g, j + 5, none⟩ (.int .i64 y.v.b)).setCell ⟨g, j + 6, none⟩ (.int .i64 y.v.p)) (some g) :=
 grownTr (grownTr (grownTr (grownTr (grownTr (grownTr (grown_set _ _) (grown_set _ _)) (grown_set _ _)) (grown_set _ _)) (grown_set _ _)) (grown_set _ _)) (grown_set _ _)

theorem say_cells {w : World} {base g n cap : Nat} {T : TypeId} {l : List SY} (h : w.ownsRow base T 7 (.slice (some ⟨g, 0, none⟩) n cap) n (sayF.all l)) {i : Nat} {x : SY} (hx : l[i]? = some x) :
  (w.cell? ⟨g, i * 7, none⟩ = some (.int .i64 x.l) ∧ w.cell? ⟨g, i * 7 + 1, none⟩ = some (.bool x.back) ∧ w.cell? ⟨g, i * 7 + 2, none⟩ = some (.int .i64 x.v.r) ∧ w.cell? ⟨g, i * 7 + 3, none⟩ = some (.int .i64 x.v.c) ∧ w.cell? ⟨g, i * 7 + 4, none⟩ = some (.int .i64 x.v.h) ∧ w.cell? ⟨g, i * 7 + 5, none⟩ = some (.int .i64 x.v.b) ∧ w.cell? ⟨g, i * 7 + 6, none⟩ = some (.int .i64 x.v.p)) ∧
  (w.frozen? ⟨g, i * 7, none⟩ = false ∧ w.frozen? ⟨g, i * 7 + 1, none⟩ = false ∧ w.frozen? ⟨g, i * 7 + 2, none⟩ = false ∧ w.frozen? ⟨g, i * 7 + 3, none⟩ = false ∧ w.frozen? ⟨g, i * 7 + 4, none⟩ = false ∧ w.frozen? ⟨g, i * 7 + 5, none⟩ = false ∧ w.frozen? ⟨g, i * 7 + 6, none⟩ = false) := by
 have c0 := flat_cells (F := sayF) h hx (j := 0) (v := .int .i64 x.l) rfl
 have c1 := flat_cells (F := sayF) h hx (j := 1) (v := .bool x.back) rfl
 have c2 := flat_cells (F := sayF) h hx (j := 2) (v := .int .i64 x.v.r) rfl
 have c3 := flat_cells (F := sayF) h hx (j := 3) (v := .int .i64 x.v.c) rfl
 have c4 := flat_cells (F := sayF) h hx (j := 4) (v := .int .i64 x.v.h) rfl
 have c5 := flat_cells (F := sayF) h hx (j := 5) (v := .int .i64 x.v.b) rfl
 have c6 := flat_cells (F := sayF) h hx (j := 6) (v := .int .i64 x.v.p) rfl
 exact ⟨⟨c0.1, c1.1, c2.1, c3.1, c4.1, c5.1, c6.1⟩, c0.2, c1.2, c2.2, c3.2, c4.2, c5.2, c6.2⟩

def SY.zero : SY := ⟨0, false, ⟨0, 0, 0, 0, 0⟩⟩

theorem sayInfoH : (Try.prog.info? 83).map (fun i => (i.zero, i.size, i.bytes)) = some (some (.agg #[.int .i64 0, .bool false, .int .i64 0, .int .i64 0, .int .i64 0, .int .i64 0, .int .i64 0]), 7, 56) := by kernel_rfl

set_option maxRecDepth 100000 in
set_option maxHeartbeats 4000000 in
theorem toSays_made (ao : Option Addr) (n c : Nat) (l : List SY) (w : World) (hl : GRow sayF w ao n c l) (hs : n ≤ 1048576) :
  Calls Try.prog 22 #[.slice ao n c] w fun r w' => ∃ ao' cap, r = .returned (.slice ao' n cap) ∧ w'.ownsRow w.heap.size 83 7 (.slice ao' n cap) n (sayF.all l) ∧ Below w.heap.size w w' := by
 obtain ⟨i0, hi, hz0, hz1, hz2⟩ := finfo_parts sayInfoH
 have s1 := hl.size
 go_enter Try.func22, Try.ntmps22
 go_wp2_with (at_make; refine wpList_make_full _ rfl _ _ 32 rfl w.heap.size 83 i0 (.agg #[.int .i64 0, .bool false, .int .i64 0, .int .i64 0, .int .i64 0, .int .i64 0, .int .i64 0]) 7 Try.underlying32 hi hz0 hz1 .i64 .i64 _ _ n rfl rfl rfl rfl ?c1 ?c2 ?c3 ?_)
 case c1 => rw [hz2]; omega
 case c2 => unfold maxLen; omega
 case c3 => exact Nat.le_refl _
 intro w1 hown hgrow
 have hb1 : Below w.heap.size w w1 := (Below.refl _ _).grown hgrow (Nat.le_refl _) (by intro k hk; cases hk)
 have hown1 : w1.ownsRow w.heap.size 83 7 (.slice (some ⟨w.heap.size, 0, none⟩) n n) n (sayF.all (l.take 0 ++ List.replicate (n - 0) SY.zero)) := by
  rw [List.take_zero, List.nil_append, Nat.sub_zero, ← flat_made]; exact hown
 clear hown hgrow hi hz0 hz1 hz2
 go_wp2
 go_loopw [4] (fun i wr => ∃ k : Nat, k ≤ n ∧ i = .int .i64 k ∧ wr.ownsRow w.heap.size 83 7 (.slice (some ⟨w.heap.size, 0, none⟩) n n) n (sayF.all (l.take k ++ List.replicate (n - k) SY.zero)) ∧ Below w.heap.size w wr) (fun i _ => n - (intOf i).toNat)
 case atStart => exact ⟨0, Nat.zero_le _, rfl, hown1, hb1⟩
 case round =>
  obtain ⟨k, hk, rfl, ho, hb⟩ := hrel
  clear hown1 hb1
  by_cases hlt : k < n
  ·obtain ⟨x, b, off, hx, rfl, a0, a1, a2, a3, a4, a5, a6⟩ := say_at (hl.below hb) k hlt
   have hrep : List.replicate (n - k) SY.zero = SY.zero :: List.replicate (n - (k + 1)) SY.zero := by rw [← List.replicate_succ]; congr 1; omega
   have hlk : (l.take k).length = k := by rw [List.length_take]; omega
   rw [hrep] at ho
   have htk : l.take (k + 1) = l.take k ++ [x] := by rw [List.take_add_one, hx]; rfl
   have HTK := hide htk
   have HB := hide hb
   have HO := hide ho
   have HX := hide hx
   clear hb ho htk hx
   go_wp2_with fail
   refine (toSay_made x _).mono ?_
   rintro r w2 ⟨rfl, hb2⟩
   have ho2 := gown_below HO.out hb2
   have hz : (l.take k ++ SY.zero :: List.replicate (n - (k + 1)) SY.zero)[k]? = some SY.zero := by rw [List.getElem?_append_right (by omega), hlk, Nat.sub_self]; rfl
   obtain ⟨⟨t0, t1, t2, t3, t4, t5, t6⟩, f0, f1, f2, f3, f4, f5, f6⟩ := say_cells ho2 hz
   have o3 := say_put (y := x) ho2
   rw [hlk] at o3
   have HO3 := hide o3
   have hb3 := gr_trans HB.out hb2
   have HB3 := hide (hb3.grown (say_puts (w := w2) (g := w.heap.size) (j := k * 7) (y := x)) hb3.size (by intro j e; cases e; exact Nat.le_refl _))
   clear ho2 hb2 hb3 o3 hz a0 a1 a2 a3 a4 a5 a6
   go_wp2
   go_roundw
   case rel => exact ⟨k + 1, by omega, by go_num, by rw [HTK.out, List.append_assoc]; exact HO3.out, HB3.out⟩
   case measure => simp [intOf]; omega
  ·have hkn : k = n := by omega
   subst hkn
   rw [Nat.sub_self, List.take_of_length_le (by omega), List.replicate_zero, List.append_nil] at ho
   have HO := hide ho
   have HB := hide hb
   clear ho hb
   go_wp2
   go_ret
   exact ⟨_, _, rfl, HO.out, HB.out⟩

set_option maxRecDepth 100000 in
set_option maxHeartbeats 400000 in
theorem szSays_any (ao : Option Addr) (n c : Nat) (left : Int) (w : World) (hl : n ≤ maxLen) (h0 : 0 ≤ left) (h1 : left ≤ 1048576) :
  Calls Try.prog 18 #[.slice ao n c, .int .i64 left] w fun r w' => r = .returned (.int .i64 (if (n : Int) ≤ left then left - n else -1)) ∧ w' = w := by
 unfold maxLen at hl
 go_enter Try.func18, Try.ntmps18
 go_wp2
 all_goals go_ret
 all_goals exact ⟨rfl, rfl⟩

set_option maxRecDepth 100000 in
set_option maxHeartbeats 4000000 in
theorem eqSays_same (ao : Option Addr) (n c : Nat) (ao' : Option Addr) (n' c' : Nat) (l : List SY) (w : World) (hl : GRow sayF w ao n c l) (hl' : GRow sayF w ao' n' c' l) :
  Calls Try.prog 26 #[.slice ao n c, .slice ao' n' c'] w fun r w' => r = .returned (.bool true) ∧ Below w.heap.size w w' := by
 have hs := hl.size
 have hs' := hl'.size
 have htop := Nat.le_trans hl.le hl.top
 unfold maxLen at htop
 have hnn : n' = n := by omega
 subst hnn
 go_enter Try.func26, Try.ntmps26
 go_wp2
 go_loopw [5] (fun i wr => ∃ k : Nat, k ≤ n' ∧ i = .int .i64 k ∧ Below w.heap.size w wr) (fun i _ => n' - (intOf i).toNat)
 case atStart => exact ⟨0, Nat.zero_le _, rfl, Below.refl _ _⟩
 case round =>
  obtain ⟨k, hk, rfl, hb⟩ := hrel
  by_cases hlt : k < n'
  ·obtain ⟨x, b, off, hx, rfl, -⟩ := say_at (hl.below hb) k hlt
   obtain ⟨y, b', off', hy, rfl, -⟩ := say_at (hl'.below hb) k hlt
   rw [hx] at hy
   cases hy
   have HS : Hid (∀ W, Below wr.heap.size wr W → (W.cell? ⟨b, off + k * 7, none⟩ = some (.int .i64 x.l) ∧ W.cell? ⟨b, off + k * 7 + 1, none⟩ = some (.bool x.back) ∧ W.cell? ⟨b, off + k * 7 + 2, none⟩ = some (.int .i64 x.v.r) ∧ W.cell? ⟨b, off + k * 7 + 3, none⟩ = some (.int .i64 x.v.c) ∧ W.cell? ⟨b, off + k * 7 + 4, none⟩ = some (.int .i64 x.v.h) ∧ W.cell? ⟨b, off + k * 7 + 5, none⟩ = some (.int .i64 x.v.b) ∧ W.cell? ⟨b, off + k * 7 + 6, none⟩ = some (.int .i64 x.v.p)) ∧ (W.cell? ⟨b', off' + k * 7, none⟩ = some (.int .i64 x.l) ∧ W.cell? ⟨b', off' + k * 7 + 1, none⟩ = some (.bool x.back) ∧ W.cell? ⟨b', off' + k * 7 + 2, none⟩ = some (.int .i64 x.v.r) ∧ W.cell? ⟨b', off' + k * 7 + 3, none⟩ = some (.int .i64 x.v.c) ∧ W.cell? ⟨b', off' + k * 7 + 4, none⟩ = some (.int .i64 x.v.h) ∧ W.cell? ⟨b', off' + k * 7 + 5, none⟩ = some (.int .i64 x.v.b) ∧ W.cell? ⟨b', off' + k * 7 + 6, none⟩ = some (.int .i64 x.v.p))) := hide (fun W h => ⟨say_later (hl.below hb) h hx, say_later (hl'.below hb) h hx⟩)
   have vv : Below wr.heap.size wr wr.drew := gr_drew (Below.refl _ _)
   have i1 : (0 : Int) ≤ (k : Int) := by omega
   have i2 : (k : Int) < (n' : Int) := by omega
   have HB := hide hb
   clear hb hx
   go_wp2_with fail
   refine wp_region_held_drew (S := (fun W => (W.cell? ⟨b, off + k * 7, none⟩ = some (.int .i64 x.l) ∧ W.cell? ⟨b, off + k * 7 + 1, none⟩ = some (.bool x.back) ∧ W.cell? ⟨b, off + k * 7 + 2, none⟩ = some (.int .i64 x.v.r) ∧ W.cell? ⟨b, off + k * 7 + 3, none⟩ = some (.int .i64 x.v.c) ∧ W.cell? ⟨b, off + k * 7 + 4, none⟩ = some (.int .i64 x.v.h) ∧ W.cell? ⟨b, off + k * 7 + 5, none⟩ = some (.int .i64 x.v.b) ∧ W.cell? ⟨b, off + k * 7 + 6, none⟩ = some (.int .i64 x.v.p)) ∧ (W.cell? ⟨b', off' + k * 7, none⟩ = some (.int .i64 x.l) ∧ W.cell? ⟨b', off' + k * 7 + 1, none⟩ = some (.bool x.back) ∧ W.cell? ⟨b', off' + k * 7 + 2, none⟩ = some (.int .i64 x.v.r) ∧ W.cell? ⟨b', off' + k * 7 + 3, none⟩ = some (.int .i64 x.v.c) ∧ W.cell? ⟨b', off' + k * 7 + 4, none⟩ = some (.int .i64 x.v.h) ∧ W.cell? ⟨b', off' + k * 7 + 5, none⟩ = some (.int .i64 x.v.b) ∧ W.cell? ⟨b', off' + k * 7 + 6, none⟩ = some (.int .i64 x.v.p)))) (by kernel_rfl) (HS.out _ vv) (fun hHeld => ?_)
   refine kK 0 ⟨some 17, .move (.tmp 0), 32, "exact.go:1153", #[], none⟩ ?_
   refine kK 1 ⟨some 18, .move (.tmp 5), 3, "exact.go:1153", #[], none⟩ ?_
   refine kK 2 ⟨some 19, .indexAddr 32 (.tmp 17) (.tmp 18), 0, "exact.go:1153", #[⟨0, .data⟩, ⟨1, .data⟩], none⟩ ?_
   refine kK 3 ⟨some 20, .load 83 (.tmp 19), 83, "exact.go:1153", #[⟨2, .data⟩], none⟩ ?_
   refine kK 4 ⟨some 21, .move (.tmp 1), 32, "exact.go:1153", #[], none⟩ ?_
   refine kK 5 ⟨some 22, .move (.tmp 5), 3, "exact.go:1153", #[], none⟩ ?_
   refine kK 6 ⟨some 23, .indexAddr 32 (.tmp 21) (.tmp 22), 0, "exact.go:1153", #[⟨4, .data⟩, ⟨5, .data⟩], none⟩ ?_
   refine kK 7 ⟨some 24, .load 83 (.tmp 23), 83, "exact.go:1153", #[⟨6, .data⟩], none⟩ ?_
   refine kR 8 ⟨some 25, .call ⟨.value (.func 44), #[.tmp 20, .tmp 24], #[83, 83]⟩, 4, "exact.go:1153", #[⟨3, .data⟩, ⟨7, .data⟩], none⟩ (fun K hK => ?_)
   go_simp
   refine (eqSay_same x _).mono ?_
   rintro r wz ⟨rfl, hbz⟩
   have vv := gr_trans vv hbz
   go_wp2_with fail
   refine hK.out _ _ (HS.out _ vv) (fun hHeld => ?_)
   clear hK K
   try simp only [Act.put, lA, lB, lC]
   refine kK 9 ⟨some 26, .unOp .not 4 (.tmp 25), 4, "exact.go:1153", #[⟨8, .data⟩], none⟩ ?_
   refine wpAnyH_done (by kernel_rfl) ?_ _
   have b1 := gr_trans HB.out vv
   clear HS hHeld vv
   go_wp2
   go_roundw
   case rel => exact ⟨k + 1, by omega, by go_num, b1⟩
   case measure => simp [intOf]; omega
  ·have hk' : k = n' := by omega
   subst hk'
   go_wp2
   go_ret
   exact ⟨rfl, hb⟩

def I64 (x : Int) : Prop := -9223372036854775808 ≤ x ∧ x ≤ 9223372036854775807

def VR.Rng (r : VR) : Prop := I64 r.i ∧ I64 r.m ∧ I64 r.b

section
open Go.RowKit

section
open Go.ChangeShapes Go.WideShapes Go.ChangeAt
variable {H : Type} {enc : TypeId × Value → H} {P : Program} {w : World}

theorem wf_64 {n : Int} (h : (Lit.int .i64 n).wf = true) : I64 n := by
 unfold I64
 simp [Lit.wf, IntKind.min, IntKind.max, IntKind.bits, IntKind.signed] at h
 omega

theorem vrow_trod {tp ti : TypeId} {g0 g1 g2 : Field} (hs : P.underlying tp = some (.struct #[g0, g1, g2])) (hi : P.underlying ti = some (.int .i64))
  (e0 : g0.type = ti ∧ g0.offset = 0) (e1 : g1.type = ti ∧ g1.offset = 1) (e2 : g2.type = ti ∧ g2.offset = 2) (hC : P.cellsOf tp = 3) (hti : P.cellsOf ti = 1)
  {fuel : Nat} {cs : List Value} {x : DataW H × List MemPlace} (h : DataW.trod enc P w 0 (fun _ => true) true fuel tp cs = some x) : ∃ y, cs = vrowF.cs y ∧ y.Rng := by
 obtain ⟨xs, n, _, _, hlen, hxl, hq⟩ := DataW.trod_struct hs h
 rw [hC] at hlen
 match xs, hxl, cs, hlen with
 | [y0, y1, y2], _, [v0, v1, v2], _ =>
  have k0 := hq 0 g0 rfl
  have k1 := hq 1 g1 rfl
  have k2 := hq 2 g2 rfl
  rw [e0.1, e0.2, hti] at k0
  rw [e1.1, e1.2, hti] at k1
  rw [e2.1, e2.2, hti] at k2
  simp at k0 k1 k2
  obtain ⟨T, i0, -, r0⟩ := DataW.trod_int hi k0
  obtain ⟨M, i1, -, r1⟩ := DataW.trod_int hi k1
  obtain ⟨B, i2, -, r2⟩ := DataW.trod_int hi k2
  simp only [List.cons.injEq, and_true] at i0 i1 i2
  subst i0 i1 i2
  exact ⟨⟨T, M, B⟩, rfl, wf_64 r0, wf_64 r1, wf_64 r2⟩

end

end

section
open Go.RowKit

def PT.Rng (x : PT) : Prop := I64 x.k ∧ I64 x.v.r ∧ I64 x.v.c ∧ I64 x.v.h ∧ I64 x.v.b ∧ I64 x.v.p

section
open Go.ChangeShapes Go.WideShapes Go.ChangeAt
variable {H : Type} {enc : TypeId × Value → H} {P : Program} {w : World}

theorem vec_trod {tp ti : TypeId} {g0 g1 g2 g3 g4 : Field} (hs : P.underlying tp = some (.struct #[g0, g1, g2, g3, g4])) (hi : P.underlying ti = some (.int .i64))
  (e0 : g0.type = ti ∧ g0.offset = 0) (e1 : g1.type = ti ∧ g1.offset = 1) (e2 : g2.type = ti ∧ g2.offset = 2) (e3 : g3.type = ti ∧ g3.offset = 3) (e4 : g4.type = ti ∧ g4.offset = 4) (hC : P.cellsOf tp = 5) (hti : P.cellsOf ti = 1)
  {fuel : Nat} {cs : List Value} {x : DataW H × List MemPlace} (h : DataW.trod enc P w 0 (fun _ => true) true fuel tp cs = some x) : ∃ y : VD, cs = [.int .i64 y.r, .int .i64 y.c, .int .i64 y.h, .int .i64 y.b, .int .i64 y.p] ∧ I64 y.r ∧ I64 y.c ∧ I64 y.h ∧ I64 y.b ∧ I64 y.p := by
 obtain ⟨xs, n, _, _, hlen, hxl, hq⟩ := DataW.trod_struct hs h
 rw [hC] at hlen
 match xs, hxl, cs, hlen with
 | [y0, y1, y2, y3, y4], _, [v0, v1, v2, v3, v4], _ =>
  have k0 := hq 0 g0 rfl
  have k1 := hq 1 g1 rfl
  have k2 := hq 2 g2 rfl
  have k3 := hq 3 g3 rfl
  have k4 := hq 4 g4 rfl
  rw [e0.1, e0.2, hti] at k0
  rw [e1.1, e1.2, hti] at k1
  rw [e2.1, e2.2, hti] at k2
  rw [e3.1, e3.2, hti] at k3
  rw [e4.1, e4.2, hti] at k4
  simp at k0 k1 k2 k3 k4
  obtain ⟨A, i0, -, r0⟩ := DataW.trod_int hi k0
  obtain ⟨B, i1, -, r1⟩ := DataW.trod_int hi k1
  obtain ⟨C, i2, -, r2⟩ := DataW.trod_int hi k2
  obtain ⟨D, i3, -, r3⟩ := DataW.trod_int hi k3
  obtain ⟨E, i4, -, r4⟩ := DataW.trod_int hi k4
  simp only [List.cons.injEq, and_true] at i0 i1 i2 i3 i4
  subst i0 i1 i2 i3 i4
  exact ⟨⟨A, B, C, D, E⟩, rfl, wf_64 r0, wf_64 r1, wf_64 r2, wf_64 r3, wf_64 r4⟩

theorem pt_trod {tp tv ti tb : TypeId} {f0 f1 f2 f3 g0 g1 g2 g3 g4 : Field} (hp : P.underlying tp = some (.struct #[f0, f1, f2, f3])) (hs : P.underlying tv = some (.struct #[g0, g1, g2, g3, g4])) (hi : P.underlying ti = some (.int .i64)) (hb : P.underlying tb = some .bool)
  (e0 : g0.type = ti ∧ g0.offset = 0) (e1 : g1.type = ti ∧ g1.offset = 1) (e2 : g2.type = ti ∧ g2.offset = 2) (e3 : g3.type = ti ∧ g3.offset = 3) (e4 : g4.type = ti ∧ g4.offset = 4)
  (d0 : f0.type = tb ∧ f0.offset = 0) (d1 : f1.type = ti ∧ f1.offset = 1) (d2 : f2.type = tb ∧ f2.offset = 2) (d3 : f3.type = tv ∧ f3.offset = 3)
  (hC : P.cellsOf tp = 8) (hCv : P.cellsOf tv = 5) (hti : P.cellsOf ti = 1) (htb : P.cellsOf tb = 1)
  {fuel : Nat} {cs : List Value} {x : DataW H × List MemPlace} (h : DataW.trod enc P w 0 (fun _ => true) true fuel tp cs = some x) : ∃ y, cs = ptF.cs y ∧ y.Rng := by
 obtain ⟨xs, n, _, _, hlen, hxl, hq⟩ := DataW.trod_struct hp h
 rw [hC] at hlen
 match xs, hxl, cs, hlen with
 | [y0, y1, y2, y3], _, [v0, v1, v2, v3, v4, v5, v6, v7], _ =>
  have k0 := hq 0 f0 rfl
  have k1 := hq 1 f1 rfl
  have k2 := hq 2 f2 rfl
  have k3 := hq 3 f3 rfl
  rw [d0.1, d0.2, htb] at k0
  rw [d1.1, d1.2, hti] at k1
  rw [d2.1, d2.2, htb] at k2
  rw [d3.1, d3.2, hCv] at k3
  simp at k0 k1 k2 k3
  obtain ⟨U, i0, -⟩ := DataW.trod_bool hb k0
  obtain ⟨K, i1, -, r1⟩ := DataW.trod_int hi k1
  obtain ⟨A, i2, -⟩ := DataW.trod_bool hb k2
  obtain ⟨V, i3, s0, s1, s2, s3, s4⟩ := vec_trod hs hi e0 e1 e2 e3 e4 hCv hti k3
  simp only [List.cons.injEq, and_true] at i0 i1 i2 i3
  obtain ⟨j0, j1, j2, j3, j4⟩ := i3
  subst i0 i1 i2 j0 j1 j2 j3 j4
  exact ⟨⟨U, K, A, V⟩, rfl, wf_64 r1, s0, s1, s2, s3, s4⟩

theorem open_pts {ts tp tv ti tb : TypeId} {f0 f1 f2 f3 g0 g1 g2 g3 g4 : Field} (hts : P.underlying ts = some (.slice tp)) (hp : P.underlying tp = some (.struct #[f0, f1, f2, f3])) (hs : P.underlying tv = some (.struct #[g0, g1, g2, g3, g4])) (hi : P.underlying ti = some (.int .i64)) (hb : P.underlying tb = some .bool)
  (e0 : g0.type = ti ∧ g0.offset = 0) (e1 : g1.type = ti ∧ g1.offset = 1) (e2 : g2.type = ti ∧ g2.offset = 2) (e3 : g3.type = ti ∧ g3.offset = 3) (e4 : g4.type = ti ∧ g4.offset = 4)
  (d0 : f0.type = tb ∧ f0.offset = 0) (d1 : f1.type = ti ∧ f1.offset = 1) (d2 : f2.type = tb ∧ f2.offset = 2) (d3 : f3.type = tv ∧ f3.offset = 3)
  (hC : P.cellsOf tp = 8) (hCv : P.cellsOf tv = 5) (hti : P.cellsOf ti = 1) (htb : P.cellsOf tb = 1)
  {fuel : Nat} {v : Value} {x : DataW H × List MemPlace} (h : DataW.trod enc P w 0 (fun _ => true) true fuel ts [v] = some x) :
  ∃ a n c l, v = .slice a n c ∧ GRow ptF w a n c l ∧ ∀ x ∈ l, x.Rng :=
 open_flat ⟨false, 0, false, ⟨0, 0, 0, 0, 0⟩⟩ ptF PT.Rng hts hC (fun h => pt_trod hp hs hi hb e0 e1 e2 e3 e4 d0 d1 d2 d3 hC hCv hti htb h) h
end

end

section
open Go.RowKit

structure BR.Rng (b : BR) : Prop where
 id : I64 b.id
 name : b.name.size ≤ maxLen
 ports : ∀ x ∈ b.ports, x.Rng
 f : ∀ x ∈ b.f, x.Rng
 v : ∀ x ∈ b.v.rows, x.Rng
 ticks : I64 b.ticks
 parse : I64 b.parse
 word : I64 b.word
 drops : I64 b.drops
 vers : I64 b.vers

structure BrTypes (P : Program) (tB ts tpS tp tv tfS tf tV trS tr tiS ti tb : TypeId) (f0 f1 f2 f3 f4 f5 f6 f7 f8 f9 p0 p1 p2 p3 v0 v1 v2 v3 v4 e0 e1 e2 e3 e4 t0 t1 r0 r1 r2 : Field) : Prop where
 uB : P.underlying tB = some (.struct #[f0, f1, f2, f3, f4, f5, f6, f7, f8, f9])
 us : P.underlying ts = some .string
 upS : P.underlying tpS = some (.slice tp)
 up : P.underlying tp = some (.struct #[p0, p1, p2, p3])
 uv : P.underlying tv = some (.struct #[v0, v1, v2, v3, v4])
 ufS : P.underlying tfS = some (.slice tf)
 uf : P.underlying tf = some (.struct #[e0, e1, e2, e3, e4])
 uV : P.underlying tV = some (.struct #[t0, t1])
 urS : P.underlying trS = some (.slice tr)
 ur : P.underlying tr = some (.struct #[r0, r1, r2])
 uiS : P.underlying tiS = some (.slice ti)
 ui : P.underlying ti = some (.int .i64)
 ub : P.underlying tb = some .bool
 f0 : f0.type = ti ∧ f0.offset = 0
 f1 : f1.type = ts ∧ f1.offset = 1
 f2 : f2.type = tpS ∧ f2.offset = 2
 f3 : f3.type = tfS ∧ f3.offset = 3
 f4 : f4.type = tV ∧ f4.offset = 4
 f5 : f5.type = ti ∧ f5.offset = 6
 f6 : f6.type = ti ∧ f6.offset = 7
 f7 : f7.type = ti ∧ f7.offset = 8
 f8 : f8.type = ti ∧ f8.offset = 9
 f9 : f9.type = ti ∧ f9.offset = 10
 p0 : p0.type = tb ∧ p0.offset = 0
 p1 : p1.type = ti ∧ p1.offset = 1
 p2 : p2.type = tb ∧ p2.offset = 2
 p3 : p3.type = tv ∧ p3.offset = 3
 v0 : v0.type = ti ∧ v0.offset = 0
 v1 : v1.type = ti ∧ v1.offset = 1
 v2 : v2.type = ti ∧ v2.offset = 2
 v3 : v3.type = ti ∧ v3.offset = 3
 v4 : v4.type = ti ∧ v4.offset = 4
 e0 : e0.type = ti ∧ e0.offset = 0
 e1 : e1.type = ti ∧ e1.offset = 1
 e2 : e2.type = ti ∧ e2.offset = 2
 e3 : e3.type = ti ∧ e3.offset = 3
 e4 : e4.type = tb ∧ e4.offset = 4
 t0 : t0.type = trS ∧ t0.offset = 0
 t1 : t1.type = tiS ∧ t1.offset = 1
 r0 : r0.type = ti ∧ r0.offset = 0
 r1 : r1.type = ti ∧ r1.offset = 1
 r2 : r2.type = ti ∧ r2.offset = 2
 cB : P.cellsOf tB = 11
 cs : P.cellsOf ts = 1
 cpS : P.cellsOf tpS = 1
 cp : P.cellsOf tp = 8
 cv : P.cellsOf tv = 5
 cfS : P.cellsOf tfS = 1
 cf : P.cellsOf tf = 5
 cV : P.cellsOf tV = 2
 crS : P.cellsOf trS = 1
 cr : P.cellsOf tr = 3
 ciS : P.cellsOf tiS = 1
 ci : P.cellsOf ti = 1
 cb : P.cellsOf tb = 1

section
open Go.ChangeShapes Go.WideShapes Go.ChangeAt
variable {H : Type} {enc : TypeId × Value → H} {P : Program} {w : World}

theorem vtab_trod {tp ts tb tis ti : TypeId} {f0 f1 g0 g1 g2 : Field} (hs : P.underlying tp = some (.struct #[f0, f1])) (hC : P.cellsOf tp = 2) (ef0 : f0.type = ts ∧ f0.offset = 0) (ef1 : f1.type = tis ∧ f1.offset = 1) (cts : P.cellsOf ts = 1) (ctis : P.cellsOf tis = 1)
  (hts : P.underlying ts = some (.slice tb)) (htis : P.underlying tis = some (.slice ti)) (htb : P.underlying tb = some (.struct #[g0, g1, g2])) (hi : P.underlying ti = some (.int .i64))
  (e0 : g0.type = ti ∧ g0.offset = 0) (e1 : g1.type = ti ∧ g1.offset = 1) (e2 : g2.type = ti ∧ g2.offset = 2) (hCb : P.cellsOf tb = 3) (hti : P.cellsOf ti = 1)
  {fuel : Nat} {cs : List Value} {x : DataW H × List MemPlace} (h : DataW.trod enc P w 0 (fun _ => true) true fuel tp cs = some x) :
  ∃ a n c o p q t, cs = [.slice a n c, .slice o p q] ∧ VTab w a n c o p q t ∧ ∀ x ∈ t.rows, x.Rng := by
 obtain ⟨xs, n, _, _, hlen, hxl, hq⟩ := DataW.trod_struct hs h
 rw [hC] at hlen
 match xs, hxl, cs, hlen with
 | [y0, y1], _, [v0, v1], _ =>
  have k0 := hq 0 f0 rfl
  have k1 := hq 1 f1 rfl
  rw [ef0.1, ef0.2, cts] at k0
  rw [ef1.1, ef1.2, ctis] at k1
  simp at k0 k1
  obtain ⟨a, n, c, l, rfl, hl, hr⟩ := open_flat ⟨0, 0, 0⟩ vrowF VR.Rng hts hCb (fun h => vrow_trod htb hi e0 e1 e2 hCb hti h) k0
  rcases open_ints htis hi hti k1 with ⟨hcs, _⟩ | ⟨x, l', c', zs, hcs, _, hl', hm, hz, _, hcell, hwz⟩
  ·simp only [List.cons.injEq, and_true] at hcs
   subst hcs
   exact ⟨a, n, c, none, 0, 0, ⟨l, []⟩, rfl, ⟨hl, irow_nil w⟩, hr⟩
  ·simp only [List.cons.injEq, and_true] at hcs
   subst hcs
   exact ⟨a, n, c, some x, l', c', ⟨l, zs.take l'⟩, rfl, ⟨hl, irow_open hl' hm (by simpa using hz) hcell hwz⟩, hr⟩

end

end

section
open Go.RowKit

def LK.Rng (x : LK) : Prop := I64 x.a ∧ I64 x.p ∧ I64 x.b ∧ I64 x.q
def SY.Rng (x : SY) : Prop := I64 x.l ∧ I64 x.v.r ∧ I64 x.v.c ∧ I64 x.v.h ∧ I64 x.v.b ∧ I64 x.v.p

structure NV.Rng (N : NV) : Prop where
 b : ∀ x ∈ N.bs, x.B.Rng
 l : ∀ x ∈ N.ls, x.Rng
 s : ∀ x ∈ N.ss, x.Rng

structure LkTypes (P : Program) (tlS tl ti : TypeId) (l0 l1 l2 l3 : Field) : Prop where
 ulS : P.underlying tlS = some (.slice tl)
 ul : P.underlying tl = some (.struct #[l0, l1, l2, l3])
 ui : P.underlying ti = some (.int .i64)
 l0 : l0.type = ti ∧ l0.offset = 0
 l1 : l1.type = ti ∧ l1.offset = 1
 l2 : l2.type = ti ∧ l2.offset = 2
 l3 : l3.type = ti ∧ l3.offset = 3
 cl : P.cellsOf tl = 4
 ci : P.cellsOf ti = 1

structure NtTypes (P : Program) (tN tbS tB tlS tsS tS tv ti tb : TypeId) (n0 n1 n2 s0 s1 s2 v0 v1 v2 v3 v4 : Field) : Prop where
 uN : P.underlying tN = some (.struct #[n0, n1, n2])
 ubS : P.underlying tbS = some (.slice tB)
 usS : P.underlying tsS = some (.slice tS)
 uS : P.underlying tS = some (.struct #[s0, s1, s2])
 uv : P.underlying tv = some (.struct #[v0, v1, v2, v3, v4])
 ui : P.underlying ti = some (.int .i64)
 ub : P.underlying tb = some .bool
 n0 : n0.type = tbS ∧ n0.offset = 0
 n1 : n1.type = tlS ∧ n1.offset = 1
 n2 : n2.type = tsS ∧ n2.offset = 2
 s0 : s0.type = ti ∧ s0.offset = 0
 s1 : s1.type = tb ∧ s1.offset = 1
 s2 : s2.type = tv ∧ s2.offset = 2
 v0 : v0.type = ti ∧ v0.offset = 0
 v1 : v1.type = ti ∧ v1.offset = 1
 v2 : v2.type = ti ∧ v2.offset = 2
 v3 : v3.type = ti ∧ v3.offset = 3
 v4 : v4.type = ti ∧ v4.offset = 4
 cN : P.cellsOf tN = 3
 cbS : P.cellsOf tbS = 1
 clS : P.cellsOf tlS = 1
 csS : P.cellsOf tsS = 1
 cS : P.cellsOf tS = 7
 cv : P.cellsOf tv = 5
 ci : P.cellsOf ti = 1
 cb : P.cellsOf tb = 1

section
open Go.ChangeShapes Go.WideShapes Go.ChangeAt
variable {H : Type} {enc : TypeId × Value → H} {P : Program} {w : World}

theorem bridge_trod {tB ts tpS tp tv tfS tf tV trS tr tiS ti tb : TypeId} {f0 f1 f2 f3 f4 f5 f6 f7 f8 f9 p0 p1 p2 p3 v0 v1 v2 v3 v4 e0 e1 e2 e3 e4 t0 t1 r0 r1 r2 : Field} (T : BrTypes P tB ts tpS tp tv tfS tf tV trS tr tiS ti tb f0 f1 f2 f3 f4 f5 f6 f7 f8 f9 p0 p1 p2 p3 v0 v1 v2 v3 v4 e0 e1 e2 e3 e4 t0 t1 r0 r1 r2)
  {fuel : Nat} {cl : List Value} {x : DataW H × List MemPlace} (h : DataW.trod enc P w 0 (fun _ => true) true fuel tB cl = some x) : ∃ y : BV, cl = brF.cs y ∧ (y.Reads w ∧ y.B.Rng) := by
 obtain ⟨xs, m, _, _, hlen, hxl, hq⟩ := DataW.trod_struct T.uB h
 rw [T.cB] at hlen
 have hq : ∀ (i : Nat) (fd : Field), #[f0, f1, f2, f3, f4, f5, f6, f7, f8, f9][i]? = some fd → _ := hq
 match xs, hxl, cl, hlen with
 | [y0, y1, y2, y3, y4, y5, y6, y7, y8, y9], _, [u0, u1, u2, u3, u4, u5, u6, u7, u8, u9, u10], _ =>
  have k0 := hq 0 f0 rfl
  have k1 := hq 1 f1 rfl
  have k2 := hq 2 f2 rfl
  have k3 := hq 3 f3 rfl
  have k4 := hq 4 f4 rfl
  have k5 := hq 5 f5 rfl
  have k6 := hq 6 f6 rfl
  have k7 := hq 7 f7 rfl
  have k8 := hq 8 f8 rfl
  have k9 := hq 9 f9 rfl
  rw [T.f0.1, T.f0.2, T.ci] at k0
  rw [T.f1.1, T.f1.2, T.cs] at k1
  rw [T.f2.1, T.f2.2, T.cpS] at k2
  rw [T.f3.1, T.f3.2, T.cfS] at k3
  rw [T.f4.1, T.f4.2, T.cV] at k4
  rw [T.f5.1, T.f5.2, T.ci] at k5
  rw [T.f6.1, T.f6.2, T.ci] at k6
  rw [T.f7.1, T.f7.2, T.ci] at k7
  rw [T.f8.1, T.f8.2, T.ci] at k8
  rw [T.f9.1, T.f9.2, T.ci] at k9
  simp at k0 k1 k2 k3 k4 k5 k6 k7 k8 k9
  obtain ⟨Id, i0, -, r0⟩ := DataW.trod_int T.ui k0
  obtain ⟨Nm, i1, -, r1⟩ := DataW.trod_string T.us k1
  obtain ⟨a, n, c, lp, rfl, hp, rp⟩ := open_pts T.upS T.up T.uv T.ui T.ub T.v0 T.v1 T.v2 T.v3 T.v4 T.p0 T.p1 T.p2 T.p3 T.cp T.cv T.ci T.cb k2
  obtain ⟨fa, fn, fc, lf, rfl, hf', rf⟩ := open_flat ⟨0, 0, 0, 0, false⟩ fentF FE.Rng T.ufS T.cf (fun h => fent_trod T.uf T.ui T.ub T.e0 T.e1 T.e2 T.e3 T.e4 T.cf T.ci T.cb h) k3
  obtain ⟨ra, rn, rc, oa, on, oc, vt, i4, hvt, rv⟩ := vtab_trod T.uV T.cV T.t0 T.t1 T.crS T.ciS T.urS T.uiS T.ur T.ui T.r0 T.r1 T.r2 T.cr T.ci k4
  obtain ⟨Ti, i5, -, r5⟩ := DataW.trod_int T.ui k5
  obtain ⟨Pa, i6, -, r6⟩ := DataW.trod_int T.ui k6
  obtain ⟨Wo, i7, -, r7⟩ := DataW.trod_int T.ui k7
  obtain ⟨Dr, i8, -, r8⟩ := DataW.trod_int T.ui k8
  obtain ⟨Ve, i9, -, r9⟩ := DataW.trod_int T.ui k9
  simp only [List.cons.injEq, and_true] at i0 i1 i4 i5 i6 i7 i8 i9
  obtain ⟨j0, j1⟩ := i4
  subst i0 i1 j0 j1 i5 i6 i7 i8 i9
  exact ⟨⟨a, n, c, fa, fn, fc, ra, rn, rc, oa, on, oc, ⟨Id, Nm, lp, lf, vt, Ti, Pa, Wo, Dr, Ve⟩⟩, rfl, ⟨hp, hf', hvt⟩, wf_64 r0, r1, rp, rf, rv, wf_64 r5, wf_64 r6, wf_64 r7, wf_64 r8, wf_64 r9⟩

theorem link_trod {tlS tl ti : TypeId} {l0 l1 l2 l3 : Field} (T : LkTypes P tlS tl ti l0 l1 l2 l3) {fuel : Nat} {cs : List Value} {x : DataW H × List MemPlace} (h : DataW.trod enc P w 0 (fun _ => true) true fuel tl cs = some x) : ∃ y, cs = linkF.cs y ∧ y.Rng := by
 obtain ⟨xs, n, _, _, hlen, hxl, hq⟩ := DataW.trod_struct T.ul h
 rw [T.cl] at hlen
 match xs, hxl, cs, hlen with
 | [y0, y1, y2, y3], _, [v0, v1, v2, v3], _ =>
  have k0 := hq 0 l0 rfl
  have k1 := hq 1 l1 rfl
  have k2 := hq 2 l2 rfl
  have k3 := hq 3 l3 rfl
  rw [T.l0.1, T.l0.2, T.ci] at k0
  rw [T.l1.1, T.l1.2, T.ci] at k1
  rw [T.l2.1, T.l2.2, T.ci] at k2
  rw [T.l3.1, T.l3.2, T.ci] at k3
  simp at k0 k1 k2 k3
  obtain ⟨A, i0, -, r0⟩ := DataW.trod_int T.ui k0
  obtain ⟨B, i1, -, r1⟩ := DataW.trod_int T.ui k1
  obtain ⟨C, i2, -, r2⟩ := DataW.trod_int T.ui k2
  obtain ⟨D, i3, -, r3⟩ := DataW.trod_int T.ui k3
  simp only [List.cons.injEq, and_true] at i0 i1 i2 i3
  subst i0 i1 i2 i3
  exact ⟨⟨A, B, C, D⟩, rfl, wf_64 r0, wf_64 r1, wf_64 r2, wf_64 r3⟩

theorem open_links {tlS tl ti : TypeId} {l0 l1 l2 l3 : Field} (T : LkTypes P tlS tl ti l0 l1 l2 l3) {fuel : Nat} {v : Value} {x : DataW H × List MemPlace} (h : DataW.trod enc P w 0 (fun _ => true) true fuel tlS [v] = some x) :
  ∃ ao len cap l, v = .slice ao len cap ∧ GRow linkF w ao len cap l ∧ ∀ x ∈ l, x.Rng :=
 open_flat ⟨0, 0, 0, 0⟩ linkF LK.Rng T.ulS T.cl (fun h => link_trod T h) h

theorem say_trod {tN tbS tB tlS tsS tS tv ti tb : TypeId} {n0 n1 n2 s0 s1 s2 v0 v1 v2 v3 v4 : Field} (T : NtTypes P tN tbS tB tlS tsS tS tv ti tb n0 n1 n2 s0 s1 s2 v0 v1 v2 v3 v4) {fuel : Nat} {cs : List Value} {x : DataW H × List MemPlace} (h : DataW.trod enc P w 0 (fun _ => true) true fuel tS cs = some x) : ∃ y, cs = sayF.cs y ∧ y.Rng := by
 obtain ⟨xs, n, _, _, hlen, hxl, hq⟩ := DataW.trod_struct T.uS h
 rw [T.cS] at hlen
 match xs, hxl, cs, hlen with
 | [y0, y1, y2], _, [u0, u1, u2, u3, u4, u5, u6], _ =>
  have k0 := hq 0 s0 rfl
  have k1 := hq 1 s1 rfl
  have k2 := hq 2 s2 rfl
  rw [T.s0.1, T.s0.2, T.ci] at k0
  rw [T.s1.1, T.s1.2, T.cb] at k1
  rw [T.s2.1, T.s2.2, T.cv] at k2
  simp at k0 k1 k2
  obtain ⟨L, i0, -, r0⟩ := DataW.trod_int T.ui k0
  obtain ⟨B, i1, -⟩ := DataW.trod_bool T.ub k1
  obtain ⟨V, i2, a0, a1, a2, a3, a4⟩ := vec_trod T.uv T.ui T.v0 T.v1 T.v2 T.v3 T.v4 T.cv T.ci k2
  simp only [List.cons.injEq, and_true] at i0 i1 i2
  obtain ⟨j0, j1, j2, j3, j4⟩ := i2
  subst i0 i1 j0 j1 j2 j3 j4
  exact ⟨⟨L, B, V⟩, rfl, wf_64 r0, a0, a1, a2, a3, a4⟩

def BV.zero : BV := ⟨none, 0, 0, none, 0, 0, none, 0, 0, none, 0, 0, ⟨0, ⟨#[]⟩, [], [], ⟨[], []⟩, 0, 0, 0, 0, 0⟩⟩

theorem open_net {tN tbS tB tlS tl tsS tS ts tpS tp tv tfS tf tV trS tr tiS ti tb : TypeId} {f0 f1 f2 f3 f4 f5 f6 f7 f8 f9 p0 p1 p2 p3 v0 v1 v2 v3 v4 e0 e1 e2 e3 e4 t0 t1 r0 r1 r2 l0 l1 l2 l3 n0 n1 n2 s0 s1 s2 : Field}
  (T : BrTypes P tB ts tpS tp tv tfS tf tV trS tr tiS ti tb f0 f1 f2 f3 f4 f5 f6 f7 f8 f9 p0 p1 p2 p3 v0 v1 v2 v3 v4 e0 e1 e2 e3 e4 t0 t1 r0 r1 r2) (L : LkTypes P tlS tl ti l0 l1 l2 l3) (S : NtTypes P tN tbS tB tlS tsS tS tv ti tb n0 n1 n2 s0 s1 s2 v0 v1 v2 v3 v4)
  {r : Reach} {b0 : Nat} {v : Value} {d : DataW H} {p : List MemPlace} (hv : Value.okWide P w r b0 tN v) (h : DataW.Trod enc P w 0 (fun _ => true) true tN v d p) :
  ∃ N : NV, v = .agg #[.slice N.ba N.bn N.bc, .slice N.la N.ln N.lc, .slice N.sa N.sn N.sc] ∧ NetRow w N ∧ N.Rng := by
 obtain ⟨cs, rfl, hsz⟩ := okWide_struct S.uN hv
 obtain ⟨fuel, hf⟩ := h
 obtain ⟨xs, m, _, _, hlen, hxl, hq⟩ := DataW.trod_struct S.uN hf
 rw [S.cN] at hlen
 obtain ⟨cl⟩ := cs
 have hlen : cl.length = 3 := hlen
 match xs, hxl, cl, hlen with
 | [y0, y1, y2], _, [u0, u1, u2], _ =>
  have k0 := hq 0 n0 rfl
  have k1 := hq 1 n1 rfl
  have k2 := hq 2 n2 rfl
  rw [S.n0.1, S.n0.2, S.cbS] at k0
  rw [S.n1.1, S.n1.2, S.clS] at k1
  rw [S.n2.1, S.n2.2, S.csS] at k2
  simp [Value.cells] at k0 k1 k2
  obtain ⟨ba, bn, bc, bs, rfl, hb, rb⟩ := open_flat BV.zero brF (fun y => y.Reads w ∧ y.B.Rng) S.ubS T.cB (fun h => bridge_trod T h) k0
  obtain ⟨la, ln, lc, ls, rfl, hl, rl⟩ := open_links L k1
  obtain ⟨sa, sn, sc, ss, rfl, hs, rs⟩ := open_flat ⟨0, false, ⟨0, 0, 0, 0, 0⟩⟩ sayF SY.Rng S.usS S.cS (fun h => say_trod S h) k2
  exact ⟨⟨ba, bn, bc, bs, la, ln, lc, ls, sa, sn, sc, ss⟩, rfl, ⟨hb, fun x hx => (rb x hx).1, hl, hs⟩, fun x hx => (rb x hx).2, rl, rs⟩
end

end

theorem cells8 {w : World} {g : Nat} {T : TypeId} {c0 c1 c2 c3 c4 c5 c6 c7 : Value} (h : w.heap[g]? = some (.cells #[c0, c1, c2, c3, c4, c5, c6, c7] T)) :
  w.cell? ⟨g, 0, none⟩ = some c0 ∧ w.cell? ⟨g, 1, none⟩ = some c1 ∧ w.cell? ⟨g, 2, none⟩ = some c2 ∧ w.cell? ⟨g, 3, none⟩ = some c3 ∧ w.cell? ⟨g, 4, none⟩ = some c4 ∧ w.cell? ⟨g, 5, none⟩ = some c5 ∧ w.cell? ⟨g, 6, none⟩ = some c6 ∧ w.cell? ⟨g, 7, none⟩ = some c7 := by
 simp [World.cell?, h]

theorem frozen8 {w : World} {g : Nat} {T : TypeId} {cs : Array Value} (h : w.heap[g]? = some (.cells cs T)) (j : Nat) : w.frozen? ⟨g, j, none⟩ = false := by
 simp [World.frozen?, h]

end Go.Proofs.Ytnichegfadgpdaa
