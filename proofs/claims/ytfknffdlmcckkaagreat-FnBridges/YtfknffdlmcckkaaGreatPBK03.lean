/-
  Packed: DrawStr FdbLaws FdbEnt PtHelp DrawPt2 PtLaws BrLaws VecNums VecNear VecOk ImplIn VecStep PtOkI PtBest.
-/
import Derived.Test.YtfknffdlmcckkaaGreatPBK01
import Derived.Test.YtfknffdlmcckkaaGreatPBK02
import Derived.Deep.RegionHeld3
import Derived.Deep.CutRange
import Derived.Lib.MinMax
namespace Go.Proofs.YtfknffdlmcckkaaGreat
open Go.RowKit

def strUpto (N : Nat) : Value → Bool
 | .string S => decide (S.size ≤ N)
 | _ => false
def strOk (v : Value) : Bool := strUpto 30 v

theorem strUpto_is {N : Nat} {v : Value} (h : strUpto N v = true) : ∃ S : ByteArray, v = .string S ∧ S.size ≤ N := by
 cases v with
 | string S => exact ⟨S, rfl, of_decide_eq_true h⟩
 | _ => cases h

set_option maxRecDepth 100000 in
set_option maxHeartbeats 400000 in
theorem pickS_upto (N : Nat) (C : Nat) (a0 : Option Addr) (l0 c0 : Nat) (z0 : List Int) (cs : Array Value) (B n : Nat) (w : World) (hc : Cur w C a0 l0 c0 z0) (hB : B = w.heap.size) (hn : cs.size = n) (hall : cs.all (strUpto N) = true) (hn0 : 0 < n) (hn1 : n ≤ 1000) :
  Calls Tryz.prog 72 #[.pointer (some ⟨C, 0, none⟩), .slice (some ⟨B, 0, none⟩) n n] (w.alloc (.cells cs 9)) fun e w' => ∃ S : ByteArray, S.size ≤ N ∧ e = .returned (.string S) ∧ Went w w' C a0 l0 c0 z0 := by
 subst hB
 have hb : Below w.heap.size w (w.alloc (.cells cs 9)) := (Below.refl _ _).alloc (Nat.le_refl _) _
 have hst := Went.start hc hb
 have hlt := hc.lt
 have hcell : ∀ j, j < n → ∃ S : ByteArray, (w.alloc (.cells cs 9)).cell? ⟨w.heap.size, j, none⟩ = some (.string S) ∧ S.size ≤ N := by
  intro j hj
  have hj' : j < cs.size := by omega
  have h1 : strUpto N cs[j] = true := (Array.all_eq_true.1 hall) j hj'
  obtain ⟨S, e, hS⟩ := strUpto_is h1
  refine ⟨S, ?_, hS⟩
  have : (w.alloc (.cells cs 9)).cell? ⟨w.heap.size, j, none⟩ = cs[j]? := by simp
  rw [this, Array.getElem?_eq_getElem hj', e]
 have HC := hide hcell
 clear hcell hall
 generalize w.alloc (.cells cs 9) = w1 at *
 go_enter Tryz.func72, Tryz.ntmps72
 go_wp2_with fail
 refine (below_any C a0 l0 c0 z0 n _ hst.cur (by omega)).mono ?_
 rintro e w2 ⟨x, rfl, hx0, hx1, hx2, went⟩
 have hx1 := hx1 (by omega)
 obtain ⟨j, rfl⟩ : ∃ j : Nat, x = j := ⟨x.toNat, by omega⟩
 obtain ⟨S, hS, hSs⟩ := HC.out j (by omega)
 have cx : w2.cell? ⟨w.heap.size, j, none⟩ = some (.string S) := went.grown.cell hS (by intro e; simp at e; omega)
 clear hS
 go_wp2
 go_ret
 exact ⟨S, hSs, rfl, hst.trans went⟩

theorem flush_says (l : List FE) (p : Int) : ∀ e ∈ flushF l p, ¬ (e.p = p ∧ e.s = false) := by
 intro e he
 unfold flushF at he
 have := (List.mem_filter.1 he).2
 rintro ⟨h1, h2⟩
 simp [h1, h2] at this

theorem ent_rng {e : FE} (h : entOk e = true) : e.Rng := by
 rw [entOk_iff] at h
 exact ⟨by omega, by omega, by omega, by omega⟩

def PT.zero : PT := ⟨false, 0, false, ⟨0, 0, 0, 0, 0⟩⟩

theorem pt_put {w : World} {base g n cap : Nat} {pre post : List PT} {x y : PT} (h : w.ownsRow base 44 8 (.slice (some ⟨g, 0, none⟩) n cap) n (ptF.all (pre ++ x :: post))) :
  ((((((((w.setCell ⟨g, pre.length * 8, none⟩ (.bool y.up)).setCell ⟨g, pre.length * 8 + 1, none⟩ (.int .i64 y.k)).setCell ⟨g, pre.length * 8 + 2, none⟩ (.bool y.has)).setCell ⟨g, pre.length * 8 + 3, none⟩ (.int .i64 y.v.r)).setCell ⟨g, pre.length * 8 + 4, none⟩ (.int .i64 y.v.c)).setCell ⟨g, pre.length * 8 + 5, none⟩ (.int .i64 y.v.h)).setCell ⟨g, pre.length * 8 + 6, none⟩ (.int .i64 y.v.b)).setCell ⟨g, pre.length * 8 + 7, none⟩ (.int .i64 y.v.p)).ownsRow base 44 8 (.slice (some ⟨g, 0, none⟩) n cap) n (ptF.all (pre ++ y :: post)) := by
 have R0 := flat_stored (F := ptF) (x' := ⟨y.up, x.k, x.has, ⟨x.v.r, x.v.c, x.v.h, x.v.b, x.v.p⟩⟩) h 0 (.bool y.up) (by decide) rfl
 have R1 := flat_stored (F := ptF) (x' := ⟨y.up, y.k, x.has, ⟨x.v.r, x.v.c, x.v.h, x.v.b, x.v.p⟩⟩) R0 1 (.int .i64 y.k) (by decide) rfl
 have R2 := flat_stored (F := ptF) (x' := ⟨y.up, y.k, y.has, ⟨x.v.r, x.v.c, x.v.h, x.v.b, x.v.p⟩⟩) R1 2 (.bool y.has) (by decide) rfl
 have R3 := flat_stored (F := ptF) (x' := ⟨y.up, y.k, y.has, ⟨y.v.r, x.v.c, x.v.h, x.v.b, x.v.p⟩⟩) R2 3 (.int .i64 y.v.r) (by decide) rfl
 have R4 := flat_stored (F := ptF) (x' := ⟨y.up, y.k, y.has, ⟨y.v.r, y.v.c, x.v.h, x.v.b, x.v.p⟩⟩) R3 4 (.int .i64 y.v.c) (by decide) rfl
 have R5 := flat_stored (F := ptF) (x' := ⟨y.up, y.k, y.has, ⟨y.v.r, y.v.c, y.v.h, x.v.b, x.v.p⟩⟩) R4 5 (.int .i64 y.v.h) (by decide) rfl
 have R6 := flat_stored (F := ptF) (x' := ⟨y.up, y.k, y.has, ⟨y.v.r, y.v.c, y.v.h, y.v.b, x.v.p⟩⟩) R5 6 (.int .i64 y.v.b) (by decide) rfl
 exact flat_stored (F := ptF) (x' := y) R6 7 (.int .i64 y.v.p) (by decide) rfl

theorem grown_set8 {w : World} {g : Nat} (j0 j1 j2 j3 j4 j5 j6 j7 : Nat) (u0 u1 u2 u3 u4 u5 u6 u7 : Value) : w.grownBy ((((((((w.setCell ⟨g, j0, none⟩ u0).setCell ⟨g, j1, none⟩ u1).setCell ⟨g, j2, none⟩ u2).setCell ⟨g, j3, none⟩ u3).setCell ⟨g, j4, none⟩ u4).setCell ⟨g, j5, none⟩ u5).setCell ⟨g, j6, none⟩ u6).setCell ⟨g, j7, none⟩ u7) (some g) :=
 grownTr (grownTr (grownTr (grownTr (grownTr (grownTr (grownTr (grown_set _ _) (grown_set _ _)) (grown_set _ _)) (grown_set _ _)) (grown_set _ _)) (grown_set _ _)) (grown_set _ _)) (grown_set _ _)

theorem pt_cells {w : World} {base g n cap : Nat} {T : TypeId} {l : List PT} (h : w.ownsRow base T 8 (.slice (some ⟨g, 0, none⟩) n cap) n (ptF.all l)) {i : Nat} {x : PT} (hx : l[i]? = some x) :
  (w.cell? ⟨g, i * 8, none⟩ = some (.bool x.up) ∧ w.cell? ⟨g, i * 8 + 1, none⟩ = some (.int .i64 x.k) ∧ w.cell? ⟨g, i * 8 + 2, none⟩ = some (.bool x.has) ∧ w.cell? ⟨g, i * 8 + 3, none⟩ = some (.int .i64 x.v.r) ∧ w.cell? ⟨g, i * 8 + 4, none⟩ = some (.int .i64 x.v.c) ∧ w.cell? ⟨g, i * 8 + 5, none⟩ = some (.int .i64 x.v.h) ∧ w.cell? ⟨g, i * 8 + 6, none⟩ = some (.int .i64 x.v.b) ∧ w.cell? ⟨g, i * 8 + 7, none⟩ = some (.int .i64 x.v.p)) ∧
  (w.frozen? ⟨g, i * 8, none⟩ = false ∧ w.frozen? ⟨g, i * 8 + 1, none⟩ = false ∧ w.frozen? ⟨g, i * 8 + 2, none⟩ = false ∧ w.frozen? ⟨g, i * 8 + 3, none⟩ = false ∧ w.frozen? ⟨g, i * 8 + 4, none⟩ = false ∧ w.frozen? ⟨g, i * 8 + 5, none⟩ = false ∧ w.frozen? ⟨g, i * 8 + 6, none⟩ = false ∧ w.frozen? ⟨g, i * 8 + 7, none⟩ = false) := by
 have c0 := flat_cells (F := ptF) h hx (j := 0) (v := .bool x.up) rfl
 have c1 := flat_cells (F := ptF) h hx (j := 1) (v := .int .i64 x.k) rfl
 have c2 := flat_cells (F := ptF) h hx (j := 2) (v := .bool x.has) rfl
 have c3 := flat_cells (F := ptF) h hx (j := 3) (v := .int .i64 x.v.r) rfl
 have c4 := flat_cells (F := ptF) h hx (j := 4) (v := .int .i64 x.v.c) rfl
 have c5 := flat_cells (F := ptF) h hx (j := 5) (v := .int .i64 x.v.h) rfl
 have c6 := flat_cells (F := ptF) h hx (j := 6) (v := .int .i64 x.v.b) rfl
 have c7 := flat_cells (F := ptF) h hx (j := 7) (v := .int .i64 x.v.p) rfl
 exact ⟨⟨c0.1, c1.1, c2.1, c3.1, c4.1, c5.1, c6.1, c7.1⟩, c0.2, c1.2, c2.2, c3.2, c4.2, c5.2, c6.2, c7.2⟩

theorem pt_head {w : World} {base g n cap : Nat} {x : PT} {t : List PT} (h : w.ownsRow base 44 8 (.slice (some ⟨g, 0, none⟩) n cap) n (ptF.all (x :: t))) :
  (w.cell? ⟨g, 0, none⟩ = some (.bool x.up) ∧ w.cell? ⟨g, 1, none⟩ = some (.int .i64 x.k) ∧ w.cell? ⟨g, 2, none⟩ = some (.bool x.has) ∧ w.cell? ⟨g, 3, none⟩ = some (.int .i64 x.v.r) ∧ w.cell? ⟨g, 4, none⟩ = some (.int .i64 x.v.c) ∧ w.cell? ⟨g, 5, none⟩ = some (.int .i64 x.v.h) ∧ w.cell? ⟨g, 6, none⟩ = some (.int .i64 x.v.b) ∧ w.cell? ⟨g, 7, none⟩ = some (.int .i64 x.v.p)) ∧
  (w.frozen? ⟨g, 0, none⟩ = false ∧ w.frozen? ⟨g, 1, none⟩ = false ∧ w.frozen? ⟨g, 2, none⟩ = false ∧ w.frozen? ⟨g, 3, none⟩ = false ∧ w.frozen? ⟨g, 4, none⟩ = false ∧ w.frozen? ⟨g, 5, none⟩ = false ∧ w.frozen? ⟨g, 6, none⟩ = false ∧ w.frozen? ⟨g, 7, none⟩ = false) := by
 have := pt_cells (i := 0) (x := x) h rfl
 simpa only [Nat.zero_mul, Nat.zero_add] using this

theorem head_put {w : World} {base g n cap : Nat} {x y : PT} {t : List PT} (h : w.ownsRow base 44 8 (.slice (some ⟨g, 0, none⟩) n cap) n (ptF.all (x :: t))) (j : Nat) (u : Value) (hj : j < 8) (hx : (ptF.cs x).set j u = ptF.cs y) :
  (w.setCell ⟨g, j, none⟩ u).ownsRow base 44 8 (.slice (some ⟨g, 0, none⟩) n cap) n (ptF.all (y :: t)) := by
 have := flat_stored (F := ptF) (pre := []) (x' := y) h j u hj hx
 simp only [List.length_nil, Nat.zero_mul, Nat.zero_add, List.nil_append] at this
 exact this

theorem head_heard {w : World} {base g n cap : Nat} {x : PT} {t : List PT} (R K H B P : Int) (h : w.ownsRow base 44 8 (.slice (some ⟨g, 0, none⟩) n cap) n (ptF.all (x :: t))) :
  (((((w.setCell ⟨g, 3, none⟩ (.int .i64 R)).setCell ⟨g, 4, none⟩ (.int .i64 K)).setCell ⟨g, 5, none⟩ (.int .i64 H)).setCell ⟨g, 6, none⟩ (.int .i64 B)).setCell ⟨g, 7, none⟩ (.int .i64 P)).ownsRow base 44 8 (.slice (some ⟨g, 0, none⟩) n cap) n (ptF.all (⟨x.up, x.k, x.has, ⟨R, K, H, B, P⟩⟩ :: t)) :=
 head_put (y := ⟨x.up, x.k, x.has, ⟨R, K, H, B, P⟩⟩) (head_put (y := ⟨x.up, x.k, x.has, ⟨R, K, H, B, x.v.p⟩⟩) (head_put (y := ⟨x.up, x.k, x.has, ⟨R, K, H, x.v.b, x.v.p⟩⟩) (head_put (y := ⟨x.up, x.k, x.has, ⟨R, K, x.v.h, x.v.b, x.v.p⟩⟩) (head_put (y := ⟨x.up, x.k, x.has, ⟨R, x.v.c, x.v.h, x.v.b, x.v.p⟩⟩) h 3 _ (by decide) rfl) 4 _ (by decide) rfl) 5 _ (by decide) rfl) 6 _ (by decide) rfl) 7 _ (by decide) rfl

set_option maxRecDepth 100000 in
set_option maxHeartbeats 4000000 in
theorem l10Any_any (C : Nat) (a0 : Option Addr) (l0 c0 : Nat) (z0 : List Int) (w : World) (hc : Cur w C a0 l0 c0 z0) :
  Calls Tryz.prog 79 #[.pointer (some ⟨C, 0, none⟩)] w fun e w' => ∃ (ao : Option Addr) (cap m : Nat) (l : List PT), e = .returned (.slice ao m cap) ∧ 1 ≤ m ∧ m ≤ 4 ∧ l.length = m ∧ w'.ownsRow w.heap.size 44 8 (.slice ao m cap) m (ptF.all l) ∧ Went w w' C a0 l0 c0 z0 := by
 have hlt := hc.lt
 go_enter Tryz.func79, Tryz.ntmps79
 go_wp2_with fail
 refine (below_any C a0 l0 c0 z0 4 _ hc (by omega)).mono ?_
 rintro e w1 ⟨x, rfl, hx0, hx1, -, wn1⟩
 have hx1 := hx1 (by omega)
 obtain ⟨m, hm⟩ : ∃ m : Nat, 1 + x = (m : Int) := ⟨(1 + x).toNat, by omega⟩
 have h1 : 1 ≤ m := by omega
 have h4 : m ≤ 4 := by omega
 go_wp2_with fail
 refine (l10Draw_any C a0 l0 c0 z0 (m : Int) m _ wn1.cur rfl (by omega)).mono ?_
 rintro e w2 ⟨ao, cap, l, rfl, hl, -, o2, wt⟩
 have wn2 := wn1.trans wt
 have o2 := gown_lt o2 (base' := w.heap.size) wn1.grown.size
 clear wt wn1 hm hx0 hx1
 obtain ⟨g, rfl, hg, -⟩ := flat_addr o2 (by omega)
 obtain ⟨x1, t, rfl⟩ : ∃ x1 t, l = x1 :: t := by
  cases l with
  | nil => simp at hl; omega
  | cons y t => exact ⟨y, t, rfl⟩
 have HG := hide hg
 have hlen : ∀ y : PT, (y :: t).length = m := fun y => by simpa using hl
 have HLEN : Hid (∀ y : PT, (y :: t).length = m) := hide hlen
 have HM := hide hl
 clear hg hlen hl
 go_wp2_with fail
 refine (below_any C a0 l0 c0 z0 12 _ wn2.cur (by omega)).mono ?_
 rintro e w3 ⟨y, rfl, hy0, hy1, -, wt⟩
 have hy1 := hy1 (by omega)
 have wn3 := wn2.trans wt
 have o3 := gown_apart o2 wt.grown (fun b hb => by cases hb; exact hlt)
 clear wt wn2 o2
 have i0 : (0 : Int) < (m : Int) := by omega
 by_cases y0 : y = 0
 ·subst y0
  go_wp2_with fail
  refine (l7Any_any C a0 l0 c0 z0 _ wn3.cur).mono ?_
  rintro e w4 ⟨R, K, H, B, P, rfl, wt⟩
  have wn4 := wn3.trans wt
  have o4 := gown_apart o3 wt.grown (fun b hb => by cases hb; exact hlt)
  clear wt wn3 o3
  obtain ⟨⟨d0, d1, d2, d3, d4, d5, d6, d7⟩, f0, f1, f2, f3, f4, f5, f6, f7⟩ := pt_head o4
  have HO : Hid ((((((w4.setCell ⟨g, 3, none⟩ (.int .i64 R)).setCell ⟨g, 4, none⟩ (.int .i64 K)).setCell ⟨g, 5, none⟩ (.int .i64 H)).setCell ⟨g, 6, none⟩ (.int .i64 B)).setCell ⟨g, 7, none⟩ (.int .i64 P)).ownsRow w.heap.size 44 8 (.slice (some ⟨g, 0, none⟩) m cap) m (ptF.all ((⟨x1.up, x1.k, x1.has, ⟨R, K, H, B, P⟩⟩ : PT) :: t))) := hide (head_heard R K H B P o4)
  have HW := hide (wn4.madeAt (below_set (below_set (below_set (below_set (below_set (Below.refl w.heap.size w4) (g := g) HG.out 3 (.int .i64 R)) (g := g) HG.out 4 (.int .i64 K)) (g := g) HG.out 5 (.int .i64 H)) (g := g) HG.out 6 (.int .i64 B)) (g := g) HG.out 7 (.int .i64 P)) hlt (Nat.le_refl _))
  clear o4 wn4
  go_wp2
  go_ret
  exact ⟨_, cap, m, (⟨x1.up, x1.k, x1.has, ⟨R, K, H, B, P⟩⟩ : PT) :: t, rfl, h1, h4, HLEN.out _, HO.out, HW.out⟩
 by_cases y1 : y = 1
 ·subst y1
  go_wp2_with fail
  refine (pick_any C a0 l0 c0 z0 [0, 1000, 1001] _ _ w3 wn3.cur rfl rfl (by simp) (by simp)).mono ?_
  rintro e w4 ⟨K, -, rfl, wt⟩
  have wn4 := wn3.trans wt
  have o4 := gown_apart o3 wt.grown (fun b hb => by cases hb; exact hlt)
  clear wt wn3 o3
  obtain ⟨⟨d0, d1, d2, d3, d4, d5, d6, d7⟩, f0, f1, f2, f3, f4, f5, f6, f7⟩ := pt_head o4
  have HO : Hid ((w4.setCell ⟨g, 1, none⟩ (.int .i64 K)).ownsRow w.heap.size 44 8 (.slice (some ⟨g, 0, none⟩) m cap) m (ptF.all ((⟨x1.up, K, x1.has, x1.v⟩ : PT) :: t))) := hide (head_put (y := ⟨x1.up, K, x1.has, x1.v⟩) o4 1 _ (by decide) rfl)
  have HW := hide (wn4.madeAt (below_set (Below.refl w.heap.size w4) (g := g) HG.out 1 (.int .i64 K)) hlt (Nat.le_refl _))
  clear o4 wn4
  go_wp2
  go_ret
  exact ⟨_, cap, m, (⟨x1.up, K, x1.has, x1.v⟩ : PT) :: t, rfl, h1, h4, HLEN.out _, HO.out, HW.out⟩
 by_cases y2 : y = 2
 ·subst y2
  obtain ⟨⟨d0, d1, d2, d3, d4, d5, d6, d7⟩, f0, f1, f2, f3, f4, f5, f6, f7⟩ := pt_head o3
  have HO : Hid ((w3.setCell ⟨g, 0, none⟩ (.bool false)).ownsRow w.heap.size 44 8 (.slice (some ⟨g, 0, none⟩) m cap) m (ptF.all ((⟨false, x1.k, x1.has, x1.v⟩ : PT) :: t))) := hide (head_put (y := ⟨false, x1.k, x1.has, x1.v⟩) o3 0 _ (by decide) rfl)
  have HW := hide (wn3.madeAt (below_set (Below.refl w.heap.size w3) (g := g) HG.out 0 (.bool false)) hlt (Nat.le_refl _))
  clear o3 wn3
  go_wp2
  go_ret
  exact ⟨_, cap, m, (⟨false, x1.k, x1.has, x1.v⟩ : PT) :: t, rfl, h1, h4, HLEN.out _, HO.out, HW.out⟩
 have HO := hide o3
 have HW := hide wn3
 clear o3 wn3
 go_wp2
 go_ret
 exact ⟨_, cap, m, x1 :: t, rfl, h1, h4, HLEN.out _, HO.out, HW.out⟩

theorem role_one {id : Int} {l : List PT} (port : Int) : 1 ≤ roleOf id l port ∧ roleOf id l port ≤ 4 := by
 unfold roleOf
 split
 ·split
  ·unfold roleAt
   repeat' split
   all_goals omega
  ·omega
 ·omega

def sendsB (f : Nat → Bool) : Nat → Int
 | 0 => 0
 | k + 1 => if f k = true then bits .or .i64 (sendsB f k) (2 ^ k) else sendsB f k

theorem sends_is (id : Int) (l : List PT) : ∀ k, sendsTo id l k = sendsB (fun i => decide (roleOf id l (i : Int) ≤ 2)) k
 | 0 => rfl
 | k + 1 => by
  rw [sendsTo, sendsB, sends_is id l k]
  simp

theorem sendsB_cut (f g : Nat → Bool) : ∀ k, (∀ i, i < k → f i = g i) → sendsB f k = sendsB g k
 | 0, _ => rfl
 | k + 1, h => by
  rw [sendsB, sendsB, sendsB_cut f g k (fun i hi => h i (by omega)), h k (by omega)]

def six (b0 b1 b2 b3 b4 b5 : Bool) : Nat → Bool
 | 0 => b0
 | 1 => b1
 | 2 => b2
 | 3 => b3
 | 4 => b4
 | _ => b5

def oneMore (n : Int) : Int := if n ≥ 1000000 then n else n + 1

def flushTo (bits : Int) (l : List FE) : Nat → List FE
 | 0 => l
 | k + 1 => if bitOf bits (k : Int) = true then flushTo bits l k else flushF (flushTo bits l k) (k : Int)

def turned (b : BR) : BR := { b with vers := oneMore b.vers, f := flushTo (sendsOf b.id b.ports) b.f b.ports.length }

def thereB (b : BR) (port : Int) : Bool := bridgeOk b && (decide (0 ≤ port) && decide (port ≤ (b.ports.length : Int) - 1))

def hearB (b : BR) (port : Int) (v : VD) : BR :=
 if thereB b port = true then
  match b.ports[port.toNat]? with
  | some x => if (x.up && okVd v) = true then turned { b with ports := b.ports.set port.toNat ⟨x.up, x.k, true, v⟩ } else b
  | none => b
 else b

def linkB (b : BR) (port : Int) (up : Bool) : BR :=
 if thereB b port = true then
  match b.ports[port.toNat]? with
  | some x => turned { b with ports := b.ports.set port.toNat ⟨up, x.k, false, ⟨0, 0, 0, 0, 0⟩⟩ }
  | none => b
 else b

def tickB (b : BR) : BR := if bridgeOk b = true then turned { b with ticks := oneMore b.ticks, f := ageF b.f } else b

theorem in1m_iff (x : Int) : in1m x = true ↔ 0 ≤ x ∧ x ≤ 1000000 := by
 unfold in1m
 simp

theorem oneMore_in {n : Int} (h : in1m n = true) : in1m (oneMore n) = true := by
 rw [in1m_iff] at *
 unfold oneMore
 split <;> omega

theorem flushTo_ok (bits : Int) {l : List FE} (h : fdbOk l = true) : ∀ k, fdbOk (flushTo bits l k) = true
 | 0 => h
 | k + 1 => by
  rw [flushTo]
  split
  ·exact flushTo_ok bits h k
  ·exact flush_ok (flushTo_ok bits h k) _

theorem flushTo_sub (bits : Int) (l : List FE) : ∀ k, (flushTo bits l k).Sublist l
 | 0 => List.Sublist.refl _
 | k + 1 => by
  rw [flushTo]
  split
  ·exact flushTo_sub bits l k
  ·exact List.Sublist.trans List.filter_sublist (flushTo_sub bits l k)

theorem flushTo_says (bits : Int) (l : List FE) : ∀ k, ∀ e ∈ flushTo bits l k, e.s = false → ∀ i : Nat, i < k → e.p = (i : Int) → bitOf bits (i : Int) = true
 | 0, e, _, _, i, hi, _ => by omega
 | k + 1, e, he, hs, i, hi, hp => by
  rw [flushTo] at he
  by_cases hb : bitOf bits (k : Int) = true
  ·rw [if_pos hb] at he
   by_cases hik : i = k
   ·subst hik
    exact hb
   ·exact flushTo_says bits l k e he hs i (by omega) hp
  ·rw [if_neg hb] at he
   have h1 := flush_says _ _ e he
   have h2 : e ∈ flushTo bits l k := (List.mem_filter.1 he).1
   by_cases hik : i = k
   ·subst hik
    exact absurd ⟨hp, hs⟩ h1
   ·exact flushTo_says bits l k e h2 hs i (by omega) hp

theorem bridgeOk_parts {b : BR} (h : bridgeOk b = true) : b.ports.all ptOk = true ∧ in3 b.id 1 99 = true ∧ (b.name.size : Int) ≤ 10 ∧ in3 (b.ports.length : Int) 1 6 = true ∧ fdbOk b.f = true ∧ vtabOk b.v (b.ports.length : Int) = true ∧ in1m b.ticks = true ∧ in1m b.parse = true ∧ in1m b.word = true ∧ in1m b.drops = true ∧ in1m b.vers = true := by
 unfold bridgeOk countsOk at h
 simp only [Bool.and_eq_true, decide_eq_true_eq] at h
 obtain ⟨h1, h2, h3, h4, h5, h6, h7, h8, h9, h10, h11⟩ := h
 exact ⟨h1, h2, h3, h4, h5, h6, h7, h8, h9, h10, h11⟩

theorem bridgeOk_of {b : BR} (h : b.ports.all ptOk = true ∧ in3 b.id 1 99 = true ∧ (b.name.size : Int) ≤ 10 ∧ in3 (b.ports.length : Int) 1 6 = true ∧ fdbOk b.f = true ∧ vtabOk b.v (b.ports.length : Int) = true ∧ in1m b.ticks = true ∧ in1m b.parse = true ∧ in1m b.word = true ∧ in1m b.drops = true ∧ in1m b.vers = true) : bridgeOk b = true := by
 obtain ⟨h1, h2, h3, h4, h5, h6, h7, h8, h9, h10, h11⟩ := h
 unfold bridgeOk countsOk
 rw [h1, h2, decide_eq_true h3, h4, h5, h6, h7, h8, h9, h10, h11]
 rfl

theorem turned_ok {b : BR} (h : bridgeOk b = true) : bridgeOk (turned b) = true := by
 obtain ⟨h1, h2, h3, h4, h5, h6, h7, h8, h9, h10, h11⟩ := bridgeOk_parts h
 exact bridgeOk_of ⟨h1, h2, h3, h4, flushTo_ok _ h5 _, h6, h7, h8, h9, h10, oneMore_in h11⟩

theorem ports_ok {b : BR} (h : bridgeOk b = true) {i : Nat} {y : PT} (hy : ptOk y = true) : bridgeOk { b with ports := b.ports.set i y } = true := by
 obtain ⟨h1, h2, h3, h4, h5, h6, h7, h8, h9, h10, h11⟩ := bridgeOk_parts h
 refine bridgeOk_of ⟨?_, h2, h3, ?_, h5, ?_, h7, h8, h9, h10, h11⟩
 ·rw [List.all_eq_true] at h1 ⊢
  intro x hx
  rcases List.mem_or_eq_of_mem_set hx with hx | rfl
  ·exact h1 x hx
  ·exact hy
 ·simpa using h4
 ·simpa using h6

theorem port_ok {b : BR} (h : bridgeOk b = true) {i : Nat} {x : PT} (hx : b.ports[i]? = some x) : ptOk x = true := by
 have h1 := (bridgeOk_parts h).1
 rw [List.all_eq_true] at h1
 exact h1 x (List.mem_of_getElem? hx)

theorem hear_pt {x : PT} {v : VD} (h : ptOk x = true) (hu : x.up = true) (hv : okVd v = true) : ptOk ⟨x.up, x.k, true, v⟩ = true := by
 unfold ptOk at *
 simp only [Bool.and_eq_true] at h
 simp [h.1, hu, hv]

theorem link_pt {x : PT} (up : Bool) (h : ptOk x = true) : ptOk ⟨up, x.k, false, ⟨0, 0, 0, 0, 0⟩⟩ = true := by
 unfold ptOk at *
 simp only [Bool.and_eq_true] at h
 simp [h.1, zeroVc]

theorem hearB_ok {b : BR} (h : bridgeOk b = true) (port : Int) (v : VD) : bridgeOk (hearB b port v) = true := by
 unfold hearB
 split
 ·split
  ·next x hx =>
   split
   ·next hu =>
    simp only [Bool.and_eq_true] at hu
    exact turned_ok (ports_ok h (hear_pt (port_ok h hx) hu.1 hu.2))
   ·exact h
  ·exact h
 ·exact h

theorem linkB_ok {b : BR} (h : bridgeOk b = true) (port : Int) (up : Bool) : bridgeOk (linkB b port up) = true := by
 unfold linkB
 split
 ·split
  ·next x hx => exact turned_ok (ports_ok h (link_pt up (port_ok h hx)))
  ·exact h
 ·exact h

theorem tickB_ok {b : BR} (h : bridgeOk b = true) : bridgeOk (tickB b) = true := by
 unfold tickB
 rw [if_pos h]
 obtain ⟨h1, h2, h3, h4, h5, h6, h7, h8, h9, h10, h11⟩ := bridgeOk_parts h
 exact turned_ok (bridgeOk_of ⟨h1, h2, h3, h4, age_ok h5, h6, oneMore_in h7, h8, h9, h10, h11⟩)

theorem turned_says {b : BR} (ha : ∀ e ∈ b.f, 0 ≤ e.p ∧ e.p < (b.ports.length : Int)) : ∀ e ∈ (turned b).f, e.s = false → bitOf (sendsOf (turned b).id (turned b).ports) e.p = true := by
 intro e he hs
 have he' : e ∈ flushTo (sendsOf b.id b.ports) b.f b.ports.length := he
 have hm := (flushTo_sub _ b.f b.ports.length).subset he'
 obtain ⟨h0, h1⟩ := ha e hm
 have := flushTo_says _ b.f b.ports.length e he' hs e.p.toNat (by omega) (by omega)
 rw [show ((e.p.toNat : Nat) : Int) = e.p by omega] at this
 exact this

theorem age_at {l : List FE} {m : Int} (ha : ∀ e ∈ l, 0 ≤ e.p ∧ e.p < m) : ∀ e ∈ ageF l, 0 ≤ e.p ∧ e.p < m := by
 intro e he
 unfold ageF at he
 obtain ⟨f, hf, hfe⟩ := List.mem_filterMap.1 he
 have := (ageE_some hfe).2.2.1
 rw [this]
 exact ha f hf

set_option maxRecDepth 100000 in
set_option maxHeartbeats 400000 in
theorem numbersOf_any (R C H B P : Int) (w : World) :
  Calls Tryz.prog 90 #[.agg #[.int .i64 R, .int .i64 C, .int .i64 H, .int .i64 B, .int .i64 P]] w fun e w' => e = .returned (.agg #[.int .i64 R, .int .i64 C, .int .i64 H, .int .i64 B, .int .i64 P]) ∧ Below w.heap.size w w' := by
 go_enter Tryz.func90, Tryz.ntmps90
 go_wp2
 exact bodyPost_ret (v := .agg #[.int .i64 R, .int .i64 C, .int .i64 H, .int .i64 B, .int .i64 P]) (by simp [results, Tryz.results90, go_sem, *]) rfl ⟨rfl, below_two _ _ _⟩

set_option maxRecDepth 100000 in
set_option maxHeartbeats 400000 in
theorem numbersOf_at (R C H B P : Int) (w : World) :
  Calls Tryz.prog 90 #[.agg #[.int .i64 R, .int .i64 C, .int .i64 H, .int .i64 B, .int .i64 P]] w fun e w' => e = .returned (.agg #[.int .i64 R, .int .i64 C, .int .i64 H, .int .i64 B, .int .i64 P]) ∧
   w' = (w.alloc (.cells #[.int .i64 R, .int .i64 C, .int .i64 H, .int .i64 B, .int .i64 P] 35)).alloc (.cells #[.int .i64 R, .int .i64 C, .int .i64 H, .int .i64 B, .int .i64 P] 83) := by
 go_enter Tryz.func90, Tryz.ntmps90
 go_wp2
 exact bodyPost_ret (v := .agg #[.int .i64 R, .int .i64 C, .int .i64 H, .int .i64 B, .int .i64 P]) (by simp [results, Tryz.results90, go_sem, *]) rfl ⟨rfl, rfl⟩

set_option maxRecDepth 100000 in
set_option maxHeartbeats 400000 in
theorem vecOf_any (R C H B P : Int) (w : World) :
  Calls Tryz.prog 91 #[.agg #[.int .i64 R, .int .i64 C, .int .i64 H, .int .i64 B, .int .i64 P]] w fun e w' => e = .returned (.agg #[.int .i64 R, .int .i64 C, .int .i64 H, .int .i64 B, .int .i64 P]) ∧ Below w.heap.size w w' := by
 go_enter Tryz.func91, Tryz.ntmps91
 go_wp2
 exact bodyPost_ret (v := .agg #[.int .i64 R, .int .i64 C, .int .i64 H, .int .i64 B, .int .i64 P]) (by simp [results, Tryz.results91, go_sem, *]) rfl ⟨rfl, below_two _ _ _⟩

theorem index5_0 (R C H B P : Int) (w : World) : (Instr.index 83 (.agg #[.int .i64 R, .int .i64 C, .int .i64 H, .int .i64 B, .int .i64 P]) (.int .i64 0)).run Tryz.prog w = .ok (.int .i64 R) w := by kernel_rfl
theorem index5_1 (R C H B P : Int) (w : World) : (Instr.index 83 (.agg #[.int .i64 R, .int .i64 C, .int .i64 H, .int .i64 B, .int .i64 P]) (.int .i64 1)).run Tryz.prog w = .ok (.int .i64 C) w := by kernel_rfl
theorem index5_2 (R C H B P : Int) (w : World) : (Instr.index 83 (.agg #[.int .i64 R, .int .i64 C, .int .i64 H, .int .i64 B, .int .i64 P]) (.int .i64 2)).run Tryz.prog w = .ok (.int .i64 H) w := by kernel_rfl
theorem index5_3 (R C H B P : Int) (w : World) : (Instr.index 83 (.agg #[.int .i64 R, .int .i64 C, .int .i64 H, .int .i64 B, .int .i64 P]) (.int .i64 3)).run Tryz.prog w = .ok (.int .i64 B) w := by kernel_rfl
theorem index5_4 (R C H B P : Int) (w : World) : (Instr.index 83 (.agg #[.int .i64 R, .int .i64 C, .int .i64 H, .int .i64 B, .int .i64 P]) (.int .i64 4)).run Tryz.prog w = .ok (.int .i64 P) w := by kernel_rfl

abbrev leastC : Array Value := #[.int .i64 1, .int .i64 0, .int .i64 0, .int .i64 1, .int .i64 0]
abbrev mostC : Array Value := #[.int .i64 99, .int .i64 100000, .int .i64 10, .int .i64 99, .int .i64 7]
abbrev endsC : Array Value := #[.int .i64 1, .int .i64 0, .int .i64 0, .int .i64 1, .int .i64 0, .int .i64 99, .int .i64 100000, .int .i64 10, .int .i64 99, .int .i64 7]

def cl (n lo hi : Int) : Int := min (max n lo) hi

def nearC (R C H B P : Int) (k : Nat) : Array Value :=
 #[.int .i64 (if 0 < k then cl R 1 99 else R), .int .i64 (if 1 < k then cl C 0 100000 else C), .int .i64 (if 2 < k then cl H 0 10 else H), .int .i64 (if 3 < k then cl B 1 99 else B), .int .i64 (if 4 < k then cl P 0 7 else P)]

theorem cells10 {w : World} {C : Nat} {t : TypeId} {c0 c1 c2 c3 c4 c5 c6 c7 c8 c9 : Value} (h : w.heap[C]? = some (.cells #[c0, c1, c2, c3, c4, c5, c6, c7, c8, c9] t)) :
  w.cell? ⟨C, 0, none⟩ = some c0 ∧ w.cell? ⟨C, 1, none⟩ = some c1 ∧ w.cell? ⟨C, 2, none⟩ = some c2 ∧ w.cell? ⟨C, 3, none⟩ = some c3 ∧ w.cell? ⟨C, 4, none⟩ = some c4 ∧ w.cell? ⟨C, 5, none⟩ = some c5 ∧ w.cell? ⟨C, 6, none⟩ = some c6 ∧ w.cell? ⟨C, 7, none⟩ = some c7 ∧ w.cell? ⟨C, 8, none⟩ = some c8 ∧ w.cell? ⟨C, 9, none⟩ = some c9 := by
 refine ⟨?_, ?_, ?_, ?_, ?_, ?_, ?_, ?_, ?_, ?_⟩ <;> simp [World.cell?, h]

set_option maxRecDepth 100000 in
set_option maxHeartbeats 4000000 in
theorem nearest_any (R C H B P : Int) (w : World) :
  Calls Tryz.prog 44 #[.agg #[.int .i64 R, .int .i64 C, .int .i64 H, .int .i64 B, .int .i64 P]] w fun e w' => e = .returned (.agg #[.int .i64 (cl R 1 99), .int .i64 (cl C 0 100000), .int .i64 (cl H 0 10), .int .i64 (cl B 1 99), .int .i64 (cl P 0 7)]) ∧ Below w.heap.size w w' := by
 have q3 := below_three w (.cells #[.int .i64 R, .int .i64 C, .int .i64 H, .int .i64 B, .int .i64 P] 35) (.cells #[.int .i64 0, .int .i64 0, .int .i64 0, .int .i64 0, .int .i64 0] 35) (.cells endsC 123)
 obtain ⟨k0, k1, k2⟩ := kept_three (Below.refl _ (((w.alloc (.cells #[.int .i64 R, .int .i64 C, .int .i64 H, .int .i64 B, .int .i64 P] 35)).alloc (.cells #[.int .i64 0, .int .i64 0, .int .i64 0, .int .i64 0, .int .i64 0] 35)).alloc (.cells endsC 123)))
 have hn : (((w.alloc (.cells #[.int .i64 R, .int .i64 C, .int .i64 H, .int .i64 B, .int .i64 P] 35)).alloc (.cells #[.int .i64 0, .int .i64 0, .int .i64 0, .int .i64 0, .int .i64 0] 35)).alloc (.cells endsC 123)).heap.size = w.heap.size + 3 := by simp
 have HQ := hide q3
 have HK0 := hide k0
 have HK1 := hide k1
 have HN := hide hn
 clear q3 k0 k1 hn
 go_enter Tryz.func44, Tryz.ntmps44
 go_upto_region 2 with fail
 generalize (((w.alloc (.cells #[.int .i64 R, .int .i64 C, .int .i64 H, .int .i64 B, .int .i64 P] 35)).alloc (.cells #[.int .i64 0, .int .i64 0, .int .i64 0, .int .i64 0, .int .i64 0] 35)).alloc (.cells endsC 123)) = w3 at *
 obtain ⟨x0, x1, x2, x3, x4, x5, x6, x7, x8, x9⟩ := cells10 k2
 have K2 := hide k2
 clear k2
 go_cut [4, 5] from 9 to 38 (fun s t wc => ∃ p4 p5 : Nat, s = .pointer (some ⟨p4, 0, none⟩) ∧ t = .pointer (some ⟨p5, 0, none⟩) ∧ wc.heap[p4]? = some (.cells leastC 83) ∧ wc.heap[p5]? = some (.cells mostC 83) ∧ ¬ p4 = p5 ∧ w3.heap.size ≤ p4 ∧ w3.heap.size ≤ p5 ∧ Below w3.heap.size w3 wc)
 case first =>
  go_region_held3 (fun W => W.cell? ⟨w.heap.size + 1 + 1, 0, none⟩ = some (.int .i64 1) ∧ W.cell? ⟨w.heap.size + 1 + 1, 1, none⟩ = some (.int .i64 0) ∧ W.cell? ⟨w.heap.size + 1 + 1, 2, none⟩ = some (.int .i64 0) ∧ W.cell? ⟨w.heap.size + 1 + 1, 3, none⟩ = some (.int .i64 1) ∧ W.cell? ⟨w.heap.size + 1 + 1, 4, none⟩ = some (.int .i64 0) ∧ W.cell? ⟨w.heap.size + 1 + 1, 5, none⟩ = some (.int .i64 99) ∧ W.cell? ⟨w.heap.size + 1 + 1, 6, none⟩ = some (.int .i64 100000) ∧ W.cell? ⟨w.heap.size + 1 + 1, 7, none⟩ = some (.int .i64 10) ∧ W.cell? ⟨w.heap.size + 1 + 1, 8, none⟩ = some (.int .i64 99) ∧ W.cell? ⟨w.heap.size + 1 + 1, 9, none⟩ = some (.int .i64 7))
   (first | assumption | exact cells10 (kept_block K2.out (by repeat (first | exact Below.refl _ _ | refine gr_drew ?_ | refine gr_alloc ?_ _))) | go_keep) (first
   | (go_at_call 90; refine (numbersOf_at _ _ _ _ _ _).mono ?_; rintro e wx ⟨rfl, rfl⟩))
  all_goals
   go_wp2_with fail
   go_meet
   refine ⟨_, _, rfl, rfl, by repeat (first | (refine block_at ?_; simp; done) | refine kept_block ?_ (below_one _ _) | refine drew_block ?_), by repeat (first | (refine block_at ?_; simp; done) | refine kept_block ?_ (below_one _ _) | refine drew_block ?_), by omega, by omega, by omega, by repeat (first | exact Below.refl _ _ | refine gr_drew ?_ | refine gr_alloc ?_ _)⟩
 case rest =>
  obtain ⟨p4, p5, rfl, rfl, h4, h5, hne, hp4, hp5, hbc⟩ := hcut
  have hn := HN.out
  have hsz := hbc.size
  obtain ⟨⟨v0, v1, v2, v3, v4⟩, -⟩ := cells5 (kept_block HK0.out hbc)
  clear x0 x1 x2 x3 x4 x5 x6 x7 x8 x9
  go_wp2_with fail
  refine (numbersOf_any R C H B P _).mono ?_
  rintro e w6 ⟨rfl, hb6⟩
  have hs6 := hb6.size
  have q6 := gr_trans hbc hb6
  have k4 := kept_block (kept_block h4 hb6) (below_one w6 (.cells #[.int .i64 R, .int .i64 C, .int .i64 H, .int .i64 B, .int .i64 P] 83))
  have k5 := kept_block (kept_block h5 hb6) (below_one w6 (.cells #[.int .i64 R, .int .i64 C, .int .i64 H, .int .i64 B, .int .i64 P] 83))
  have k6 := block_last w6 (.cells #[.int .i64 R, .int .i64 C, .int .i64 H, .int .i64 B, .int .i64 P] 83)
  have k1 := kept_block (kept_block HK1.out q6) (below_one w6 (.cells #[.int .i64 R, .int .i64 C, .int .i64 H, .int .i64 B, .int .i64 P] 83))
  have hq := HQ.out
  have lt4 : p4 < w6.heap.size := (Array.getElem?_eq_some_iff.1 (kept_block h4 hb6)).1
  have lt5 : p5 < w6.heap.size := (Array.getElem?_eq_some_iff.1 (kept_block h5 hb6)).1
  clear v0 v1 v2 v3 v4 hb6
  go_wp2_with fail
  go_loopw [21] (fun i wr => ∃ k : Nat, k ≤ 5 ∧ i = .int .i64 k ∧ wr.heap[w6.heap.size]? = some (.cells (nearC R C H B P k) 83) ∧ (w6.alloc (.cells #[.int .i64 R, .int .i64 C, .int .i64 H, .int .i64 B, .int .i64 P] 83)).grownBy wr (some w6.heap.size)) (fun i _ => 5 - (intOf i).toNat)
  case atStart => exact ⟨0, Nat.zero_le _, rfl, k6, World.grownBy.refl _ _⟩
  case round =>
   obtain ⟨k, hk, hi, hc6, hg⟩ := hrel
   have c4 := kept_grown k4 hg (by intro j e; cases e; omega)
   have c5 := kept_grown k5 hg (by intro j e; cases e; omega)
   have c1 := kept_grown k1 hg (by intro j e; cases e; omega)
   have HG := hide hg
   obtain ⟨⟨y0, y1, y2, y3, y4⟩, -⟩ := cells5 c4
   obtain ⟨⟨z0, z1, z2, z3, z4⟩, -⟩ := cells5 c5
   have H6 := hide hc6
   have H1 := hide c1
   clear c4 c5 k4 k5 k6 k1 h4 h5 hg c1 hc6
   rcases (show k = 0 ∨ k = 1 ∨ k = 2 ∨ k = 3 ∨ k = 4 ∨ k = 5 by omega) with rfl | rfl | rfl | rfl | rfl | rfl
   ·have hi : _ = Value.int .i64 0 := hi
    subst hi
    have h6 : wr.heap[w6.heap.size]? = some (.cells #[.int .i64 R, .int .i64 C, .int .i64 H, .int .i64 B, .int .i64 P] 83) := H6.out
    obtain ⟨⟨u0, u1, u2, u3, u4⟩, f0, f1, f2, f3, f4⟩ := cells5 h6
    clear h6
    have ix := index5_0 R C H B P wr
    go_wp2_with fail
    go_region
    go_wp2
    go_roundw
    case rel =>
     refine ⟨0 + 1, by omega, by go_num, ?_, grownTr (grownTr HG.out (grown_set _ _)) (grownOf (gr_drew (Below.refl _ _)))⟩
     have := set_block5 (j := 0) H6.out (.int .i64 (cl R 1 99))
     exact drew_block this
    case measure => simp [intOf]
   ·have hi : _ = Value.int .i64 1 := hi
    subst hi
    have h6 : wr.heap[w6.heap.size]? = some (.cells #[.int .i64 (cl R 1 99), .int .i64 C, .int .i64 H, .int .i64 B, .int .i64 P] 83) := H6.out
    obtain ⟨⟨u0, u1, u2, u3, u4⟩, f0, f1, f2, f3, f4⟩ := cells5 h6
    clear h6
    have ix := index5_1 R C H B P wr
    go_wp2_with fail
    go_region
    go_wp2
    go_roundw
    case rel =>
     refine ⟨1 + 1, by omega, by go_num, ?_, grownTr (grownTr HG.out (grown_set _ _)) (grownOf (gr_drew (Below.refl _ _)))⟩
     have := set_block5 (j := 1) H6.out (.int .i64 (cl C 0 100000))
     exact drew_block this
    case measure => simp [intOf]
   ·have hi : _ = Value.int .i64 2 := hi
    subst hi
    have h6 : wr.heap[w6.heap.size]? = some (.cells #[.int .i64 (cl R 1 99), .int .i64 (cl C 0 100000), .int .i64 H, .int .i64 B, .int .i64 P] 83) := H6.out
    obtain ⟨⟨u0, u1, u2, u3, u4⟩, f0, f1, f2, f3, f4⟩ := cells5 h6
    clear h6
    have ix := index5_2 R C H B P wr
    go_wp2_with fail
    go_region
    go_wp2
    go_roundw
    case rel =>
     refine ⟨2 + 1, by omega, by go_num, ?_, grownTr (grownTr HG.out (grown_set _ _)) (grownOf (gr_drew (Below.refl _ _)))⟩
     have := set_block5 (j := 2) H6.out (.int .i64 (cl H 0 10))
     exact drew_block this
    case measure => simp [intOf]
   ·have hi : _ = Value.int .i64 3 := hi
    subst hi
    have h6 : wr.heap[w6.heap.size]? = some (.cells #[.int .i64 (cl R 1 99), .int .i64 (cl C 0 100000), .int .i64 (cl H 0 10), .int .i64 B, .int .i64 P] 83) := H6.out
    obtain ⟨⟨u0, u1, u2, u3, u4⟩, f0, f1, f2, f3, f4⟩ := cells5 h6
    clear h6
    have ix := index5_3 R C H B P wr
    go_wp2_with fail
    go_region
    go_wp2
    go_roundw
    case rel =>
     refine ⟨3 + 1, by omega, by go_num, ?_, grownTr (grownTr HG.out (grown_set _ _)) (grownOf (gr_drew (Below.refl _ _)))⟩
     have := set_block5 (j := 3) H6.out (.int .i64 (cl B 1 99))
     exact drew_block this
    case measure => simp [intOf]
   ·have hi : _ = Value.int .i64 4 := hi
    subst hi
    have h6 : wr.heap[w6.heap.size]? = some (.cells #[.int .i64 (cl R 1 99), .int .i64 (cl C 0 100000), .int .i64 (cl H 0 10), .int .i64 (cl B 1 99), .int .i64 P] 83) := H6.out
    obtain ⟨⟨u0, u1, u2, u3, u4⟩, f0, f1, f2, f3, f4⟩ := cells5 h6
    clear h6
    have ix := index5_4 R C H B P wr
    go_wp2_with fail
    go_region
    go_wp2
    go_roundw
    case rel =>
     refine ⟨4 + 1, by omega, by go_num, ?_, grownTr (grownTr HG.out (grown_set _ _)) (grownOf (gr_drew (Below.refl _ _)))⟩
     have := set_block5 (j := 4) H6.out (.int .i64 (cl P 0 7))
     exact drew_block this
    case measure => simp [intOf]
   ·have hi : _ = Value.int .i64 5 := hi
    subst hi
    have h6 : wr.heap[w6.heap.size]? = some (.cells #[.int .i64 (cl R 1 99), .int .i64 (cl C 0 100000), .int .i64 (cl H 0 10), .int .i64 (cl B 1 99), .int .i64 (cl P 0 7)] 83) := H6.out
    obtain ⟨⟨u0, u1, u2, u3, u4⟩, f0, f1, f2, f3, f4⟩ := cells5 h6
    clear h6
    go_wp2_with fail
    refine (vecOf_any (cl R 1 99) (cl C 0 100000) (cl H 0 10) (cl B 1 99) (cl P 0 7) _).mono ?_
    rintro e w9 ⟨rfl, hb9⟩
    obtain ⟨⟨t0, t1, t2, t3, t4⟩, g0, g1, g2, g3, g4⟩ := cells5 (kept_block H1.out hb9)
    have b9 := gr_trans hq (gr_trans q6 (gr_trans (belowGr (below_one w6 _) HG.out (Nat.le_refl _)) hb9))
    have HB := hide b9
    clear u0 u1 u2 u3 u4 f0 f1 f2 f3 f4 hb9 b9
    go_wp2
    exact bodyPost_ret (v := .agg #[.int .i64 (cl R 1 99), .int .i64 (cl C 0 100000), .int .i64 (cl H 0 10), .int .i64 (cl B 1 99), .int .i64 (cl P 0 7)]) (by simp [results, Tryz.results44, go_sem, *]) rfl ⟨rfl, below_set5 HB.out (by omega) _ _ _ _ _⟩

theorem cl_same (n lo hi : Int) (h : lo ≤ hi) : (n == cl n lo hi) = (decide (lo ≤ n) && decide (n ≤ hi)) := by
 unfold cl
 rw [Bool.eq_iff_iff]
 simp
 omega

theorem okVc_near (R C H B P : Int) : ((R == cl R 1 99) && ((C == cl C 0 100000) && ((H == cl H 0 10) && ((B == cl B 1 99) && (P == cl P 0 7))))) = okVc R C H B P := by
 rw [okVc_is, cl_same _ _ _ (by omega), cl_same _ _ _ (by omega), cl_same _ _ _ (by omega), cl_same _ _ _ (by omega), cl_same _ _ _ (by omega)]

set_option maxRecDepth 100000 in
set_option maxHeartbeats 2000000 in
theorem implVecOk_any (R C H B P : Int) (w : World) :
  Calls Tryz.prog 12 #[.agg #[.int .i64 R, .int .i64 C, .int .i64 H, .int .i64 B, .int .i64 P]] w fun e w' => e = .returned (.bool (okVc R C H B P)) ∧ Below w.heap.size w w' := by
 have k0 := block_last w (.cells #[.int .i64 R, .int .i64 C, .int .i64 H, .int .i64 B, .int .i64 P] 35)
 have q0 := below_one w (.cells #[.int .i64 R, .int .i64 C, .int .i64 H, .int .i64 B, .int .i64 P] 35)
 have he : ∀ W, (binOp .eql 35 (.agg #[.int .i64 R, .int .i64 C, .int .i64 H, .int .i64 B, .int .i64 P]) (.agg #[.int .i64 (cl R 1 99), .int .i64 (cl C 0 100000), .int .i64 (cl H 0 10), .int .i64 (cl B 1 99), .int .i64 (cl P 0 7)])).run Tryz.prog W = .ok (.bool (okVc R C H B P)) W := fun W => by rw [vec_eql, okVc_near]
 have hgd : Tryz.prog.eqGuardType Tryz.prog.depth 35 = false := by kernel_rfl
 generalize okVc R C H B P = Q at *
 go_enter Tryz.func12, Tryz.ntmps12
 go_wp2_with fail
 generalize (w.alloc (.cells #[.int .i64 R, .int .i64 C, .int .i64 H, .int .i64 B, .int .i64 P] 35)) = wb at *
 obtain ⟨⟨x0, x1, x2, x3, x4⟩, -⟩ := cells5 k0
 have K0 := hide k0
 clear k0
 go_region_held3 (fun W => W.cell? ⟨w.heap.size, 0, none⟩ = some (.int .i64 R) ∧ W.cell? ⟨w.heap.size, 1, none⟩ = some (.int .i64 C) ∧ W.cell? ⟨w.heap.size, 2, none⟩ = some (.int .i64 H) ∧ W.cell? ⟨w.heap.size, 3, none⟩ = some (.int .i64 B) ∧ W.cell? ⟨w.heap.size, 4, none⟩ = some (.int .i64 P)) (first | assumption | exact (cells5 k1).1 | go_keep) (first
  | (go_at_call 44; refine (nearest_any R C H B P _).mono ?_; rintro e w1 ⟨rfl, hb1⟩; have k1 := kept_block K0.out (undrew hb1)))
 go_wp2
 go_ret
 exact ⟨rfl, gr_trans q0 (undrew hb1)⟩

set_option maxRecDepth 100000 in
set_option maxHeartbeats 400000 in
theorem implWithin_any (n lo hi : Int) (w : World) : Calls Tryz.prog 51 #[.int .i64 n, .int .i64 lo, .int .i64 hi] w fun e w' => e = .returned (.bool (decide (lo ≤ n) && decide (n ≤ hi))) ∧ w' = w := by
 by_cases h1 : lo ≤ n
 ·by_cases h2 : n ≤ hi
  ·rw [decide_eq_true h1, decide_eq_true h2]
   go_enter Tryz.func51, Tryz.ntmps51
   go_wp2
   go_ret
   exact ⟨rfl, rfl⟩
  ·rw [decide_eq_true h1, decide_eq_false h2]
   go_enter Tryz.func51, Tryz.ntmps51
   go_wp2
   go_ret
   exact ⟨rfl, rfl⟩
 ·rw [decide_eq_false h1, Bool.false_and]
  go_enter Tryz.func51, Tryz.ntmps51
  go_wp2
  go_ret
  exact ⟨rfl, rfl⟩

set_option maxRecDepth 100000 in
set_option maxHeartbeats 4000000 in
theorem implStepVec_any (R C H B P k : Int) (w : World) :
  Calls Tryz.prog 136 #[.agg #[.int .i64 R, .int .i64 C, .int .i64 H, .int .i64 B, .int .i64 P], .int .i64 k] w fun e w' => e = .returned (.tuple #[if stepOk R C H B P k = true then .agg #[.int .i64 R, .int .i64 (C + k), .int .i64 (H + 1), .int .i64 B, .int .i64 P] else .agg #[.int .i64 R, .int .i64 C, .int .i64 H, .int .i64 B, .int .i64 P], .bool (stepOk R C H B P k)]) ∧ Below w.heap.size w w' := by
 cases t1 : okVc R C H B P
 ·have e : stepOk R C H B P k = false := by unfold stepOk; rw [t1]; rfl
  rw [e, if_neg (by simp)]
  have T1 := hide t1
  clear e t1
  go_enter Tryz.func136, Tryz.ntmps136
  go_wp2_with fail
  refine (implVecOk_any R C H B P _).mono ?_
  rintro e w1 ⟨rfl, hb1⟩
  rw [T1.out]
  have q3 := gr_trans (below_three w _ _ _) hb1
  obtain ⟨k0, k1, k2⟩ := kept_three hb1
  obtain ⟨⟨x0, x1, x2, x3, x4⟩, f0, f1, f2, f3, f4⟩ := cells5 k0
  obtain ⟨⟨y0, y1, y2, y3, y4⟩, g0, g1, g2, g3, g4⟩ := cells5 k1
  have HB := hide q3
  have K1 := hide k1
  have K2 := hide k2
  have K0 := hide k0
  clear hb1 k0 k1 k2 q3
  go_wp2
  exact bodyPost_ret (v := .tuple #[.agg #[.int .i64 R, .int .i64 C, .int .i64 H, .int .i64 B, .int .i64 P], .bool false]) (by simp [results, Tryz.results136, go_sem, *]) rfl ⟨rfl, below_set5 HB.out (by omega) _ _ _ _ _⟩
 cases t2 : (decide (1 ≤ k) && decide (k ≤ 1000))
 ·have e : stepOk R C H B P k = false := by unfold stepOk; rw [t1, t2]; rfl
  rw [e, if_neg (by simp)]
  have T1 := hide t1
  have T2 := hide t2
  clear e t1 t2
  go_enter Tryz.func136, Tryz.ntmps136
  go_wp2_with fail
  refine (implVecOk_any R C H B P _).mono ?_
  rintro e w1 ⟨rfl, hb1⟩
  rw [T1.out]
  have q3 := gr_trans (below_three w _ _ _) hb1
  obtain ⟨k0, k1, k2⟩ := kept_three hb1
  obtain ⟨⟨x0, x1, x2, x3, x4⟩, f0, f1, f2, f3, f4⟩ := cells5 k0
  obtain ⟨⟨y0, y1, y2, y3, y4⟩, g0, g1, g2, g3, g4⟩ := cells5 k1
  have HB := hide q3
  have K1 := hide k1
  have K2 := hide k2
  have K0 := hide k0
  clear hb1 k0 k1 k2 q3
  go_wp2_with fail
  refine (implWithin_any k 1 1000 _).mono ?_
  rintro e w2 ⟨rfl, rfl⟩
  rw [T2.out]
  go_wp2
  exact bodyPost_ret (v := .tuple #[.agg #[.int .i64 R, .int .i64 C, .int .i64 H, .int .i64 B, .int .i64 P], .bool false]) (by simp [results, Tryz.results136, go_sem, *]) rfl ⟨rfl, below_set5 HB.out (by omega) _ _ _ _ _⟩
 obtain ⟨-, o2, o3, -, -⟩ := okVc_parts t1
 have hk : 1 ≤ k ∧ k ≤ 1000 := by simpa using t2
 have es : stepOk R C H B P k = okVc R (C + k) (H + 1) B P := by unfold stepOk; rw [t1, t2]; rfl
 rw [es]
 clear es
 cases t3 : okVc R (C + k) (H + 1) B P
 ·rw [if_neg (by simp)]
  have T1 := hide t1
  have T2 := hide t2
  have T3 := hide t3
  clear t1 t2 t3
  go_enter Tryz.func136, Tryz.ntmps136
  go_wp2_with fail
  refine (implVecOk_any R C H B P _).mono ?_
  rintro e w1 ⟨rfl, hb1⟩
  rw [T1.out]
  have q3 := gr_trans (below_three w _ _ _) hb1
  obtain ⟨k0, k1, k2⟩ := kept_three hb1
  obtain ⟨⟨x0, x1, x2, x3, x4⟩, f0, f1, f2, f3, f4⟩ := cells5 k0
  obtain ⟨⟨y0, y1, y2, y3, y4⟩, g0, g1, g2, g3, g4⟩ := cells5 k1
  have HB := hide q3
  have K1 := hide k1
  have K2 := hide k2
  have K0 := hide k0
  clear hb1 k0 k1 k2 q3
  go_wp2_with fail
  refine (implWithin_any k 1 1000 _).mono ?_
  rintro e w2 ⟨rfl, rfl⟩
  rw [T2.out]
  obtain ⟨⟨z0, z1, z2, z3, z4⟩, -⟩ := cells5 K2.out
  go_wp2_with fail
  refine (implVecOk_any R (C + k) (H + 1) B P _).mono ?_
  rintro e w3 ⟨rfl, hb3⟩
  rw [T3.out]
  clear x0 x1 x2 x3 x4 f0 f1 f2 f3 f4 y0 y1 y2 y3 y4 g0 g1 g2 g3 g4 z0 z1 z2 z3 z4
  obtain ⟨⟨x0, x1, x2, x3, x4⟩, f0, f1, f2, f3, f4⟩ := cells5 (kept_block K0.out hb3)
  obtain ⟨⟨y0, y1, y2, y3, y4⟩, g0, g1, g2, g3, g4⟩ := cells5 (kept_block K1.out hb3)
  have HB := hide (gr_trans HB.out hb3)
  clear hb3
  go_wp2
  exact bodyPost_ret (v := .tuple #[.agg #[.int .i64 R, .int .i64 C, .int .i64 H, .int .i64 B, .int .i64 P], .bool false]) (by simp [results, Tryz.results136, go_sem, *]) rfl ⟨rfl, below_set5 HB.out (by omega) _ _ _ _ _⟩
 ·rw [if_pos rfl]
  have T1 := hide t1
  have T2 := hide t2
  have T3 := hide t3
  clear t1 t2 t3
  go_enter Tryz.func136, Tryz.ntmps136
  go_wp2_with fail
  refine (implVecOk_any R C H B P _).mono ?_
  rintro e w1 ⟨rfl, hb1⟩
  rw [T1.out]
  have q3 := gr_trans (below_three w _ _ _) hb1
  obtain ⟨k0, k1, k2⟩ := kept_three hb1
  obtain ⟨⟨x0, x1, x2, x3, x4⟩, f0, f1, f2, f3, f4⟩ := cells5 k0
  obtain ⟨⟨y0, y1, y2, y3, y4⟩, g0, g1, g2, g3, g4⟩ := cells5 k1
  have HB := hide q3
  have K1 := hide k1
  have K2 := hide k2
  have K0 := hide k0
  clear hb1 k0 k1 k2 q3
  go_wp2_with fail
  refine (implWithin_any k 1 1000 _).mono ?_
  rintro e w2 ⟨rfl, rfl⟩
  rw [T2.out]
  obtain ⟨⟨z0, z1, z2, z3, z4⟩, -⟩ := cells5 K2.out
  go_wp2_with fail
  refine (implVecOk_any R (C + k) (H + 1) B P _).mono ?_
  rintro e w3 ⟨rfl, hb3⟩
  rw [T3.out]
  clear x0 x1 x2 x3 x4 f0 f1 f2 f3 f4 y0 y1 y2 y3 y4 g0 g1 g2 g3 g4 z0 z1 z2 z3 z4
  obtain ⟨⟨x0, x1, x2, x3, x4⟩, f0, f1, f2, f3, f4⟩ := cells5 (kept_block K2.out hb3)
  obtain ⟨⟨y0, y1, y2, y3, y4⟩, g0, g1, g2, g3, g4⟩ := cells5 (kept_block K1.out hb3)
  have HB := hide (gr_trans HB.out hb3)
  clear hb3
  go_wp2
  exact bodyPost_ret (v := .tuple #[.agg #[.int .i64 R, .int .i64 (C + k), .int .i64 (H + 1), .int .i64 B, .int .i64 P], .bool true]) (by simp [results, Tryz.results136, go_sem, *]) rfl ⟨rfl, below_set5 HB.out (by omega) _ _ _ _ _⟩

set_option maxRecDepth 100000 in
set_option maxHeartbeats 2000000 in
theorem implPtOk_any (x : PT) (w : World) :
  Calls Tryz.prog 130 #[.agg #[.bool x.up, .int .i64 x.k, .bool x.has, .int .i64 x.v.r, .int .i64 x.v.c, .int .i64 x.v.h, .int .i64 x.v.b, .int .i64 x.v.p]] w fun e w' => e = .returned (.bool (ptOk x)) ∧ Below w.heap.size w w' := by
 have he : ∀ W, (binOp .eql 35 (.agg #[.int .i64 x.v.r, .int .i64 x.v.c, .int .i64 x.v.h, .int .i64 x.v.b, .int .i64 x.v.p]) (.agg #[.int .i64 0, .int .i64 0, .int .i64 0, .int .i64 0, .int .i64 0])).run Tryz.prog W = .ok (.bool (zeroVc x.v)) W := fun W => by rw [vec_eql]; rfl
 have hgd : Tryz.prog.eqGuardType Tryz.prog.depth 35 = false := by kernel_rfl
 obtain ⟨up, k, has, ⟨r, c, h, b, p⟩⟩ := x
 simp only at he ⊢
 generalize hw1 : w.alloc (.cells #[.bool up, .int .i64 k, .bool has, .int .i64 r, .int .i64 c, .int .i64 h, .int .i64 b, .int .i64 p] 44) = w1
 have q0 : Below w.heap.size w w1 := by subst hw1; exact below_one _ _
 obtain ⟨c0, c1, c2, c3, c4, c5, c6, c7⟩ := cells8 (by rw [← hw1]; exact block_last w _ : w1.heap[w.heap.size]? = _)
 cases t1 : (decide (1 ≤ k) && decide (k ≤ 1000))
 ·have T1 := hide t1
  rw [show ptOk ⟨up, k, has, ⟨r, c, h, b, p⟩⟩ = false by unfold ptOk; rw [t1]; rfl]
  clear t1
  go_enter Tryz.func130, Tryz.ntmps130
  go_wp2_with fail
  refine (implWithin_any k 1 1000 _).mono ?_
  rintro e w2 ⟨rfl, rfl⟩
  rw [T1.out]
  go_wp2
  go_ret
  exact ⟨rfl, q0⟩
 cases has
 ·rw [show ptOk ⟨up, k, false, ⟨r, c, h, b, p⟩⟩ = zeroVc ⟨r, c, h, b, p⟩ by unfold ptOk; rw [t1]; cases up <;> rfl]
  have T1 := hide t1
  generalize zeroVc ⟨r, c, h, b, p⟩ = Q at *
  clear t1
  go_enter Tryz.func130, Tryz.ntmps130
  go_wp2_with fail
  refine (implWithin_any k 1 1000 _).mono ?_
  rintro e w2 ⟨rfl, rfl⟩
  rw [T1.out]
  go_wp2
  go_ret
  exact ⟨rfl, q0⟩
 cases up
 ·rw [show ptOk ⟨false, k, true, ⟨r, c, h, b, p⟩⟩ = false by unfold ptOk; rw [t1]; rfl]
  have T1 := hide t1
  clear t1
  go_enter Tryz.func130, Tryz.ntmps130
  go_wp2_with fail
  refine (implWithin_any k 1 1000 _).mono ?_
  rintro e w2 ⟨rfl, rfl⟩
  rw [T1.out]
  go_wp2
  go_ret
  exact ⟨rfl, q0⟩
 ·rw [show ptOk ⟨true, k, true, ⟨r, c, h, b, p⟩⟩ = okVc r c h b p by unfold ptOk; rw [t1]; rfl]
  have T1 := hide t1
  clear t1
  go_enter Tryz.func130, Tryz.ntmps130
  go_wp2_with fail
  refine (implWithin_any k 1 1000 _).mono ?_
  rintro e w2 ⟨rfl, rfl⟩
  rw [T1.out]
  go_wp2_with fail
  refine (implVecOk_any r c h b p _).mono ?_
  rintro e w3 ⟨rfl, hb3⟩
  have HB := hide (gr_trans q0 hb3)
  clear hb3
  go_wp2
  go_ret
  exact ⟨rfl, HB.out⟩

def overB (x : PT) : Bool := x.up && (x.has && stepsV x.v x.k)
def overV (x : PT) : VD := if (x.up && x.has) = true then (if stepsV x.v x.k = true then stepV x.v x.k else x.v) else ⟨0, 0, 0, 0, 0⟩

theorem over_yes {x : PT} (h : overB x = true) : overV x = stepV x.v x.k := by
 unfold overB at h
 simp only [Bool.and_eq_true] at h
 unfold overV
 rw [h.1, h.2.1, h.2.2]
 rfl

theorem offers_over (id : Int) (x : PT) : offers id x = (overB x && decide ((overV x).r < id)) := by
 cases h : overB x
 ·unfold offers overB at *
  cases hu : x.up <;> cases hh : x.has <;> cases hs : stepsV x.v x.k <;> rw [hu, hh, hs] at h <;> simp_all
 ·rw [over_yes h]
  unfold overB at h
  simp only [Bool.and_eq_true] at h
  unfold offers
  rw [h.1, h.2.1, h.2.2]
  rfl

set_option maxRecDepth 100000 in
set_option maxHeartbeats 2000000 in
theorem overLink_any (x : PT) (w : World) :
  Calls Tryz.prog 126 #[.agg #[.bool x.up, .int .i64 x.k, .bool x.has, .int .i64 x.v.r, .int .i64 x.v.c, .int .i64 x.v.h, .int .i64 x.v.b, .int .i64 x.v.p]] w fun e w' => e = .returned (.tuple #[.agg #[.int .i64 (overV x).r, .int .i64 (overV x).c, .int .i64 (overV x).h, .int .i64 (overV x).b, .int .i64 (overV x).p], .bool (overB x)]) ∧ Below w.heap.size w w' := by
 by_cases hno : (x.up && x.has) = false
 ·rw [show overV x = ⟨0, 0, 0, 0, 0⟩ by unfold overV; rw [hno]; rfl, show overB x = false by unfold overB; cases hu : x.up <;> cases hh : x.has <;> simp_all]
  simp only
  cases hu : x.up
  ·clear hno
   go_enter Tryz.func126, Tryz.ntmps126
   go_wp2
   exact bodyPost_ret (v := .tuple #[.agg #[.int .i64 0, .int .i64 0, .int .i64 0, .int .i64 0, .int .i64 0], .bool false]) (by simp [results, Tryz.results126, go_sem, *]) rfl ⟨rfl, below_two _ _ _⟩
  ·have hh : x.has = false := by rw [hu] at hno; simpa using hno
   rw [hh]
   clear hno
   go_enter Tryz.func126, Tryz.ntmps126
   go_wp2
   exact bodyPost_ret (v := .tuple #[.agg #[.int .i64 0, .int .i64 0, .int .i64 0, .int .i64 0, .int .i64 0], .bool false]) (by simp [results, Tryz.results126, go_sem, *]) rfl ⟨rfl, below_two _ _ _⟩
 generalize hw1 : w.alloc (.cells #[.bool x.up, .int .i64 x.k, .bool x.has, .int .i64 x.v.r, .int .i64 x.v.c, .int .i64 x.v.h, .int .i64 x.v.b, .int .i64 x.v.p] 44) = w1
 generalize hw2 : w1.alloc (.cells #[.int .i64 0, .int .i64 0, .int .i64 0, .int .i64 0, .int .i64 0] 35) = w2
 have q1 : Below w.heap.size w w1 := by rw [← hw1]; exact below_one _ _
 have q2 : Below w1.heap.size w1 w2 := by rw [← hw2]; exact below_one _ _
 have k1 : w1.heap[w.heap.size]? = some (.cells #[.bool x.up, .int .i64 x.k, .bool x.has, .int .i64 x.v.r, .int .i64 x.v.c, .int .i64 x.v.h, .int .i64 x.v.b, .int .i64 x.v.p] 44) := by rw [← hw1]; exact block_last _ _
 have k2 : w2.heap[w1.heap.size]? = some (.cells #[.int .i64 0, .int .i64 0, .int .i64 0, .int .i64 0, .int .i64 0] 35) := by rw [← hw2]; exact block_last _ _
 have hs1 : w1.heap.size = w.heap.size + 1 := by rw [← hw1]; simp
 rw [hs1] at k2
 obtain ⟨c0, c1, c2, c3, c4, c5, c6, c7⟩ := cells8 (kept_block k1 q2)
 have HQ := hide (gr_trans q1 q2)
 have K2 := hide k2
 have hyes : (x.up && x.has) = true := by simpa using hno
 have hu : x.up = true := by simp only [Bool.and_eq_true] at hyes; exact hyes.1
 have hh : x.has = true := by simp only [Bool.and_eq_true] at hyes; exact hyes.2
 rw [hu] at c0
 rw [hh] at c2
 generalize hq : overB x = q
 generalize hu' : overV x = u
 have HST : Hid (stepOk x.v.r x.v.c x.v.h x.v.b x.v.p x.k = q) := hide (by rw [← hq]; unfold overB stepsV; rw [hu, hh]; rfl)
 have HUV : Hid ((if q = true then Value.agg #[.int .i64 x.v.r, .int .i64 (x.v.c + x.k), .int .i64 (x.v.h + 1), .int .i64 x.v.b, .int .i64 x.v.p] else Value.agg #[.int .i64 x.v.r, .int .i64 x.v.c, .int .i64 x.v.h, .int .i64 x.v.b, .int .i64 x.v.p]) = .agg #[.int .i64 u.r, .int .i64 u.c, .int .i64 u.h, .int .i64 u.b, .int .i64 u.p]) := hide (by
  rw [← hu']
  unfold overV
  rw [if_pos hyes]
  unfold stepsV
  rw [HST.out]
  cases q <;> rfl)
 clear hq hu' hu hh hyes hno q1 q2 k1 k2
 go_enter Tryz.func126, Tryz.ntmps126
 go_wp2_with fail
 refine (implStepVec_any x.v.r x.v.c x.v.h x.v.b x.v.p x.k _).mono ?_
 rintro e w3 ⟨rfl, hb3⟩
 rw [HST.out, HUV.out]
 obtain ⟨⟨r0, r1, r2, r3, r4⟩, z0, z1, z2, z3, z4⟩ := cells5 (kept_block K2.out hb3)
 have HS := hide (below_set5 (gr_trans HQ.out hb3) (g := w.heap.size + 1) (by omega) (.int .i64 u.r) (.int .i64 u.c) (.int .i64 u.h) (.int .i64 u.b) (.int .i64 u.p))
 clear hb3 c0 c1 c2 c3 c4 c5 c6 c7
 go_wp2
 exact bodyPost_ret (v := .tuple #[.agg #[.int .i64 u.r, .int .i64 u.c, .int .i64 u.h, .int .i64 u.b, .int .i64 u.p], .bool q]) (by simp [results, Tryz.results126, go_sem, *]) rfl ⟨rfl, HS.out⟩

theorem box5_set {w : World} {g : Nat} {c0 c1 c2 c3 c4 : Value} {T : TypeId} (h : w.heap[g]? = some (.cells #[c0, c1, c2, c3, c4] T)) (u0 u1 u2 u3 u4 : Value) : (((((w.setCell ⟨g, 0, none⟩ u0).setCell ⟨g, 1, none⟩ u1).setCell ⟨g, 2, none⟩ u2).setCell ⟨g, 3, none⟩ u3).setCell ⟨g, 4, none⟩ u4).heap[g]? = some (.cells #[u0, u1, u2, u3, u4] T) :=
 set_block5 (j := 4) (set_block5 (j := 3) (set_block5 (j := 2) (set_block5 (j := 1) (set_block5 (j := 0) h u0) u1) u2) u3) u4

theorem kept_set5 {w : World} {i g : Nat} {o : Obj} (h : w.heap[i]? = some o) (hne : i ≠ g) (u0 u1 u2 u3 u4 : Value) : (((((w.setCell ⟨g, 0, none⟩ u0).setCell ⟨g, 1, none⟩ u1).setCell ⟨g, 2, none⟩ u2).setCell ⟨g, 3, none⟩ u3).setCell ⟨g, 4, none⟩ u4).heap[i]? = some o :=
 kept_set (kept_set (kept_set (kept_set (kept_set h hne) hne) hne) hne) hne

end Go.Proofs.YtfknffdlmcckkaaGreat
