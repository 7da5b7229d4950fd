/-
  The program's reader of binds, by contracts: a name, a value, a bind, all binds.
-/
import Derived.Test.YtamglfhnhjgdjaaGreatDoorPduGet
import Derived.Test.YtamglfhnhjgdjaaGreatDoorQG
namespace Go.Proofs.YtamglfhnhjgdjaaGreatDoor
open Go.RowKit

theorem grown_set_new {w u : World} {row : Option Nat} {b j : Nat} {v : Value} (h : w.grownBy u row) (hb : w.heap.size ≤ b) : w.grownBy (u.setCell ⟨b, j, none⟩ v) row :=
  ⟨h.os, h.tape, h.output, by have := h.size; simpa using this, fun k hk hn => by rw [Below.heap_setCell _ _ _ _ (show k ≠ b by omega)]; exact h.block k hk hn⟩

theorem set4_block {w : World} {b : Nat} {c0 c1 c2 c3 d0 d1 d2 d3 : Value} {t : TypeId} (h : w.heap[b]? = some (.cells #[c0, c1, c2, c3] t)) : ((((w.setCell ⟨b, 0, none⟩ d0).setCell ⟨b, 1, none⟩ d1).setCell ⟨b, 2, none⟩ d2).setCell ⟨b, 3, none⟩ d3).heap[b]? = some (.cells #[d0, d1, d2, d3] t) := by
  have h0 := heap_setCell_same w b 0 _ t d0 h
  have h1 := heap_setCell_same _ b 1 _ t d1 h0
  have h2 := heap_setCell_same _ b 2 _ t d2 h1
  have h3 := heap_setCell_same _ b 3 _ t d3 h2
  simpa using h3

set_option maxRecDepth 100000 in
set_option maxHeartbeats 1000000 in
theorem name_yes (rb : Nat) (ao : Option Addr) (n c : Nat) (zs : List Int) (t : Int) (b : List Int) (nx : Int) (o : List Int) (hb : getTlv zs t = (6, b, nx, true)) (ho : getO b = some o) (w : World) (h : Rdr w rb ao n c zs t) :
    Calls Tryz.prog 111 #[.pointer (some ⟨rb, 0, none⟩)] w fun e w' => ∃ ao' cap, e = .returned (.slice ao' o.length cap) ∧ w'.ownsRow w.heap.size 3 1 (.slice ao' o.length cap) o.length (cI o) ∧ I64s o ∧ Rdr w' rb ao n c zs nx ∧ w.grownBy w' (some rb) := by
  have hbl := tlv_short h.row.byte hb
  have HB := hide hb
  have HO1 := hide (show (getO b).getD [] = o by rw [ho]; rfl)
  have HO2 := hide (show (getO b).isSome = true by rw [ho]; rfl)
  clear hb ho
  go_enter Tryz.func111, Tryz.ntmps111
  go_wp2_with fail
  refine (part_yes rb ao n c zs t 6 b nx HB.out _ h).mono ?_
  rintro e w1 ⟨bo, bc, rfl, r1, h1, g1⟩
  go_wp2_with fail
  refine (implGet_row _ _ _ b o true HO1.out HO2.out _ r1 (by omega)).mono ?_
  rintro e w2 ⟨ao2, cp2, rfl, o2, r2, hb2⟩
  have h2 := h1.below hb2
  have g2 := grownTr g1 (grownOf hb2)
  have o2' := own_lt o2 g1.size
  go_wp2_with fail
  refine (giveUp_no _).mono ?_
  rintro e w3 ⟨rfl, rfl⟩
  go_wp2
  go_ret
  exact ⟨_, _, rfl, o2', r2.byte, h2, g2⟩

set_option maxRecDepth 100000 in
set_option maxHeartbeats 1000000 in
theorem name_no (rb : Nat) (ao : Option Addr) (n c : Nat) (zs : List Int) (t : Int) (hno : partM zs t 6 = none ∨ ∃ b nx, getTlv zs t = (6, b, nx, true) ∧ getO b = none) (w : World) (h : Rdr w rb ao n c zs t) :
    Calls Tryz.prog 111 #[.pointer (some ⟨rb, 0, none⟩)] w fun e w' => GaveUp e ∧ w.grownBy w' (some rb) := by
  rcases hno with hno | ⟨b, nx, hb, ho⟩
  · have HN := hide hno
    clear hno
    go_enter Tryz.func111, Tryz.ntmps111
    go_wp2_with fail
    refine (part_no rb ao n c zs t 6 HN.out _ h).mono ?_
    rintro e w1 ⟨⟨S, rfl⟩, g1⟩
    go_wp2
    exact ⟨rfl, ⟨_, rfl⟩, g1⟩
  · have hbl := tlv_short h.row.byte hb
    have HB := hide hb
    have HO1 := hide (show (getO b).getD [] = [] by rw [ho]; rfl)
    have HO2 := hide (show (getO b).isSome = false by rw [ho]; rfl)
    clear hb ho
    go_enter Tryz.func111, Tryz.ntmps111
    go_wp2_with fail
    refine (part_yes rb ao n c zs t 6 b nx HB.out _ h).mono ?_
    rintro e w1 ⟨bo, bc, rfl, r1, h1, g1⟩
    go_wp2_with fail
    refine (implGet_row _ _ _ b [] false HO1.out HO2.out _ r1 (by omega)).mono ?_
    rintro e w2 ⟨ao2, cp2, rfl, o2, r2, hb2⟩
    have g2 := grownTr g1 (grownOf hb2)
    go_wp2_with fail
    refine (giveUp_yes _).mono ?_
    rintro e w3 ⟨⟨S, rfl⟩, rfl⟩
    go_wp2
    exact ⟨rfl, ⟨_, rfl⟩, g2⟩

set_option maxRecDepth 100000 in
set_option maxHeartbeats 1000000 in
theorem value_yes (rb : Nat) (ao : Option Addr) (n c : Nat) (zs : List Int) (t K N : Int) (S : ByteArray) (O : List Int) (nx : Int) (hv : getV zs t = (K, N, S, O, nx, true)) (w : World) (h : Rdr w rb ao n c zs t) :
    Calls Tryz.prog 112 #[.pointer (some ⟨rb, 0, none⟩)] w fun e w' => ∃ ao' cap, e = .returned (.agg #[.int .i64 K, .int .i64 N, .string S, .slice ao' O.length cap]) ∧ w'.ownsRow w.heap.size 3 1 (.slice ao' O.length cap) O.length (cI O) ∧ I64s O ∧ Rdr w' rb ao n c zs nx ∧ w.grownBy w' (some rb) := by
  have hlt : rb < w.heap.size := (Array.getElem?_eq_some_iff.1 h.box).1
  have hs := h.small
  have HV := hide hv
  have q0 := below_one w (.cells #[.int .i64 0, .int .i64 0, .string ⟨#[]⟩, .slice none 0 0] 77)
  have h0 := h.below q0
  have BL := hide (block_last w (.cells #[.int .i64 0, .int .i64 0, .string ⟨#[]⟩, .slice none 0 0] 77))
  obtain ⟨⟨c0, c1⟩, f0, f1⟩ := cells2 h0.box
  have hr := h0.row
  have HH := hide h0
  have HW := hide h
  clear hv h h0
  go_enter Tryz.func112, Tryz.ntmps112
  go_wp2_with fail
  generalize hwb : (w.alloc (.cells #[.int .i64 0, .int .i64 0, .string ⟨#[]⟩, .slice none 0 0] 77)) = wb at *
  have hwbs : wb.heap.size = w.heap.size + 1 := by rw [← hwb]; simp
  have hne : rb ≠ wb.heap.size := by omega
  have HWBS := hide hwbs
  clear hwb hwbs
  go_region_held3 (fun W => W.cell? ⟨rb, 0, none⟩ = some (.slice ao n c) ∧ W.cell? ⟨rb, 1, none⟩ = some (.int .i64 t)) (first | assumption | go_keep) (first
    | (go_at_call 114; refine (implGetVal_made _ _ _ zs t K N S O nx true HV.out _ (hr.below (below_drewN (Below.refl _ _) _)) (by omega)).mono ?_; rintro e w1 ⟨ao1, cp1, rfl, ho1, r1, hb1⟩; have u1 : Below wb.heap.size wb w1 := undrew hb1; have k1 := kept_block HH.out.box u1; have hS1 := (cells2 k1).1; have hS2 := (cells2 (kept_block k1 (below_one w1 (.cells #[.int .i64 K, .int .i64 N, .string S, .slice ao1 O.length cp1] 77)))).1)
    | (go_at_call 114; refine (implGetVal_made _ _ _ zs t K N S O nx true HV.out _ (hr.below (below_one wb (.cells #[.int .i64 0, .int .i64 0, .string ⟨#[]⟩, .slice none 0 0] 77)).drew) (by omega)).mono ?_; rintro e w1 ⟨ao1, cp1, rfl, ho1, r1, hb1⟩; have u1 : Below wb.heap.size wb w1 := (below_one wb (.cells #[.int .i64 0, .int .i64 0, .string ⟨#[]⟩, .slice none 0 0] 77)).drew.trans (hb1.mono (by simp)); have k1 := kept_block HH.out.box u1; have kz := kept_drew (block_last wb (.cells #[.int .i64 0, .int .i64 0, .string ⟨#[]⟩, .slice none 0 0] 77)) hb1; obtain ⟨⟨z0, z1, z2, z3⟩, y0, y1, y2, y3⟩ := cells4 kz; have hS1 := (cells2 k1).1; have hS3 : ((((w1.setCell ⟨wb.heap.size, 0, none⟩ (.int .i64 K)).setCell ⟨wb.heap.size, 1, none⟩ (.int .i64 N)).setCell ⟨wb.heap.size, 2, none⟩ (.string S)).setCell ⟨wb.heap.size, 3, none⟩ (.slice ao1 O.length cp1)).cell? ⟨rb, 0, none⟩ = some (.slice ao n c) ∧ ((((w1.setCell ⟨wb.heap.size, 0, none⟩ (.int .i64 K)).setCell ⟨wb.heap.size, 1, none⟩ (.int .i64 N)).setCell ⟨wb.heap.size, 2, none⟩ (.string S)).setCell ⟨wb.heap.size, 3, none⟩ (.slice ao1 O.length cp1)).cell? ⟨rb, 1, none⟩ = some (.int .i64 t) := (cells2 (kept_set (kept_set (kept_set (kept_set k1 hne) hne) hne) hne)).1))
  · have q1 := below_one w1 (.cells #[.int .i64 K, .int .i64 N, .string S, .slice ao1 O.length cp1] 77)
    have k2 := kept_block k1 q1
    have kd := kept_block (kept_block BL.out u1) q1
    have kn := block_last w1 (.cells #[.int .i64 K, .int .i64 N, .string S, .slice ao1 O.length cp1] 77)
    have v2 := u1.trans (q1.mono u1.size)
    have hn1 := u1.size
    have O2 := hide (own_lt (own_below ho1 q1) (base' := w.heap.size + 1) (by have := HWBS.out; simp; omega))
    have G2 := hide (grownOf (row := some rb) (q0.trans (v2.mono q0.size)))
    have hby := r1.byte
    clear hS1 hS2 c0 c1 f0 f1
    generalize hw2 : (w1.alloc (.cells #[.int .i64 K, .int .i64 N, .string S, .slice ao1 O.length cp1] 77)) = w2 at *
    clear hw2 q1
    have m1 : ¬ w1.heap.size = rb := by have := HWBS.out; omega
    have m2 : ¬ rb = w1.heap.size := by have := HWBS.out; omega
    have m3 : ¬ w1.heap.size = w.heap.size := by have := HWBS.out; omega
    have m4 : ¬ w.heap.size = w1.heap.size := by have := HWBS.out; omega
    generalize w1.heap.size = nb at *
    obtain ⟨⟨c0, c1⟩, f0, f1⟩ := cells2 k2
    obtain ⟨⟨d0, d1, d2, d3⟩, e0, e1, e2, e3⟩ := cells4 kd
    obtain ⟨⟨i0, i1, i2, i3⟩, -⟩ := cells4 kn
    have K2 := hide k2
    clear u1 k1 k2 kd kn hb1 ho1 v2 hr HH HWBS hne
    go_wp2_with fail
    refine (giveUp_no _).mono ?_
    rintro e w3 ⟨rfl, rfl⟩
    go_wp2
    have hg : w.grownBy (((((w3.setCell ⟨rb, 1, none⟩ (.int .i64 nx)).setCell ⟨w.heap.size, 0, none⟩ (.int .i64 K)).setCell ⟨w.heap.size, 1, none⟩ (.int .i64 N)).setCell ⟨w.heap.size, 2, none⟩ (.string S)).setCell ⟨w.heap.size, 3, none⟩ (.slice ao1 O.length cp1)) (some rb) := by
      repeat (refine grown_set_new ?_ (Nat.le_refl _))
      exact grownTr G2.out (grown_set 1 _)
    refine bodyPost_ret (v := .agg #[.int .i64 K, .int .i64 N, .string S, .slice ao1 O.length cp1]) (by simp [results, Tryz.results112, go_sem, *]) rfl ⟨ao1, cp1, rfl, ?_, hby, HW.out.next hg ?_, hg⟩
    · refine own_lt (base := w.heap.size + 1) ?_ (by omega)
      repeat (refine own_set ?_ (by omega))
      exact O2.out
    · repeat (refine kept_set ?_ (by omega))
      exact set_block2 K2.out _
  · have hne2 : w.heap.size ≠ wb.heap.size := by have := HWBS.out; omega
    have k2 : ((((w1.setCell ⟨wb.heap.size, 0, none⟩ (.int .i64 K)).setCell ⟨wb.heap.size, 1, none⟩ (.int .i64 N)).setCell ⟨wb.heap.size, 2, none⟩ (.string S)).setCell ⟨wb.heap.size, 3, none⟩ (.slice ao1 O.length cp1)).heap[rb]? = _ := kept_set (kept_set (kept_set (kept_set k1 hne) hne) hne) hne
    have kd : ((((w1.setCell ⟨wb.heap.size, 0, none⟩ (.int .i64 K)).setCell ⟨wb.heap.size, 1, none⟩ (.int .i64 N)).setCell ⟨wb.heap.size, 2, none⟩ (.string S)).setCell ⟨wb.heap.size, 3, none⟩ (.slice ao1 O.length cp1)).heap[w.heap.size]? = _ := kept_set (kept_set (kept_set (kept_set (kept_block BL.out u1) hne2) hne2) hne2) hne2
    have kn : ((((w1.setCell ⟨wb.heap.size, 0, none⟩ (.int .i64 K)).setCell ⟨wb.heap.size, 1, none⟩ (.int .i64 N)).setCell ⟨wb.heap.size, 2, none⟩ (.string S)).setCell ⟨wb.heap.size, 3, none⟩ (.slice ao1 O.length cp1)).heap[wb.heap.size]? = _ := set4_block kz
    have v2 : Below wb.heap.size wb ((((w1.setCell ⟨wb.heap.size, 0, none⟩ (.int .i64 K)).setCell ⟨wb.heap.size, 1, none⟩ (.int .i64 N)).setCell ⟨wb.heap.size, 2, none⟩ (.string S)).setCell ⟨wb.heap.size, 3, none⟩ (.slice ao1 O.length cp1)) := below_set (below_set (below_set (below_set u1 (Nat.le_refl _) _ _) (Nat.le_refl _) _ _) (Nat.le_refl _) _ _) (Nat.le_refl _) _ _
    have hlb : wb.heap.size < (wb.alloc (.cells #[.int .i64 0, .int .i64 0, .string ⟨#[]⟩, .slice none 0 0] 77)).drew.heap.size := by simp
    have O2' : ((((w1.setCell ⟨wb.heap.size, 0, none⟩ (.int .i64 K)).setCell ⟨wb.heap.size, 1, none⟩ (.int .i64 N)).setCell ⟨wb.heap.size, 2, none⟩ (.string S)).setCell ⟨wb.heap.size, 3, none⟩ (.slice ao1 O.length cp1)).ownsRow _ 3 1 (.slice ao1 O.length cp1) O.length (cI O) := own_set (own_set (own_set (own_set ho1 hlb) hlb) hlb) hlb
    have O2 := hide (own_lt O2' (base' := w.heap.size + 1) (by have := HWBS.out; simp; omega))
    have G2 := hide (grownOf (row := some rb) (q0.trans (v2.mono q0.size)))
    have hby := r1.byte
    clear hS1 hS3 c0 c1 f0 f1 z0 z1 z2 z3 y0 y1 y2 y3 kz O2' hlb hne2
    generalize hw2 : ((((w1.setCell ⟨wb.heap.size, 0, none⟩ (.int .i64 K)).setCell ⟨wb.heap.size, 1, none⟩ (.int .i64 N)).setCell ⟨wb.heap.size, 2, none⟩ (.string S)).setCell ⟨wb.heap.size, 3, none⟩ (.slice ao1 O.length cp1)) = w2 at *
    clear hw2
    have m1 : ¬ wb.heap.size = rb := by have := HWBS.out; omega
    have m2 : ¬ rb = wb.heap.size := by have := HWBS.out; omega
    have m3 : ¬ wb.heap.size = w.heap.size := by have := HWBS.out; omega
    have m4 : ¬ w.heap.size = wb.heap.size := by have := HWBS.out; omega
    generalize hnb : wb.heap.size = nb at *
    clear hnb
    obtain ⟨⟨c0, c1⟩, f0, f1⟩ := cells2 k2
    obtain ⟨⟨d0, d1, d2, d3⟩, e0, e1, e2, e3⟩ := cells4 kd
    obtain ⟨⟨i0, i1, i2, i3⟩, -⟩ := cells4 kn
    have K2 := hide k2
    clear u1 k1 k2 kd kn hb1 ho1 v2 hr HH HWBS hne
    go_wp2_with fail
    refine (giveUp_no _).mono ?_
    rintro e w3 ⟨rfl, rfl⟩
    go_wp2
    have hg : w.grownBy (((((w3.setCell ⟨rb, 1, none⟩ (.int .i64 nx)).setCell ⟨w.heap.size, 0, none⟩ (.int .i64 K)).setCell ⟨w.heap.size, 1, none⟩ (.int .i64 N)).setCell ⟨w.heap.size, 2, none⟩ (.string S)).setCell ⟨w.heap.size, 3, none⟩ (.slice ao1 O.length cp1)) (some rb) := by
      repeat (refine grown_set_new ?_ (Nat.le_refl _))
      exact grownTr G2.out (grown_set 1 _)
    refine bodyPost_ret (v := .agg #[.int .i64 K, .int .i64 N, .string S, .slice ao1 O.length cp1]) (by simp [results, Tryz.results112, go_sem, *]) rfl ⟨ao1, cp1, rfl, ?_, hby, HW.out.next hg ?_, hg⟩
    · refine own_lt (base := w.heap.size + 1) ?_ (by omega)
      repeat (refine own_set ?_ (by omega))
      exact O2.out
    · repeat (refine kept_set ?_ (by omega))
      exact set_block2 K2.out _

set_option maxRecDepth 100000 in
set_option maxHeartbeats 1000000 in
theorem value_no (rb : Nat) (ao : Option Addr) (n c : Nat) (zs : List Int) (t K N : Int) (S : ByteArray) (O : List Int) (nx : Int) (hv : getV zs t = (K, N, S, O, nx, false)) (w : World) (h : Rdr w rb ao n c zs t) :
    Calls Tryz.prog 112 #[.pointer (some ⟨rb, 0, none⟩)] w fun e w' => GaveUp e ∧ w.grownBy w' (some rb) := by
  have hlt : rb < w.heap.size := (Array.getElem?_eq_some_iff.1 h.box).1
  have hs := h.small
  have HV := hide hv
  have q0 := below_one w (.cells #[.int .i64 0, .int .i64 0, .string ⟨#[]⟩, .slice none 0 0] 77)
  have h0 := h.below q0
  obtain ⟨⟨c0, c1⟩, f0, f1⟩ := cells2 h0.box
  have hr := h0.row
  have HH := hide h0
  clear hv h h0
  go_enter Tryz.func112, Tryz.ntmps112
  go_wp2_with fail
  generalize hwb : (w.alloc (.cells #[.int .i64 0, .int .i64 0, .string ⟨#[]⟩, .slice none 0 0] 77)) = wb at *
  have hwbs : wb.heap.size = w.heap.size + 1 := by rw [← hwb]; simp
  have hne : rb ≠ wb.heap.size := by omega
  clear hwb hwbs
  go_region_held3 (fun W => W.cell? ⟨rb, 0, none⟩ = some (.slice ao n c) ∧ W.cell? ⟨rb, 1, none⟩ = some (.int .i64 t)) (first | assumption | go_keep) (first
    | (go_at_call 114; refine (implGetVal_made _ _ _ zs t K N S O nx false HV.out _ (hr.below (below_drewN (Below.refl _ _) _)) (by omega)).mono ?_; rintro e w1 ⟨ao1, cp1, rfl, ho1, r1, hb1⟩; have u1 : Below wb.heap.size wb w1 := undrew hb1; have k1 := kept_block HH.out.box u1; have hS1 := (cells2 k1).1; have hS2 := (cells2 (kept_block k1 (below_one w1 (.cells #[.int .i64 K, .int .i64 N, .string S, .slice ao1 O.length cp1] 77)))).1)
    | (go_at_call 114; refine (implGetVal_made _ _ _ zs t K N S O nx false HV.out _ (hr.below (below_one wb (.cells #[.int .i64 0, .int .i64 0, .string ⟨#[]⟩, .slice none 0 0] 77)).drew) (by omega)).mono ?_; rintro e w1 ⟨ao1, cp1, rfl, ho1, r1, hb1⟩; have u1 : Below wb.heap.size wb w1 := (below_one wb (.cells #[.int .i64 0, .int .i64 0, .string ⟨#[]⟩, .slice none 0 0] 77)).drew.trans (hb1.mono (by simp)); have k1 := kept_block HH.out.box u1; have kz := kept_drew (block_last wb (.cells #[.int .i64 0, .int .i64 0, .string ⟨#[]⟩, .slice none 0 0] 77)) hb1; obtain ⟨⟨z0, z1, z2, z3⟩, y0, y1, y2, y3⟩ := cells4 kz; have hS1 := (cells2 k1).1; have hS3 : ((((w1.setCell ⟨wb.heap.size, 0, none⟩ (.int .i64 K)).setCell ⟨wb.heap.size, 1, none⟩ (.int .i64 N)).setCell ⟨wb.heap.size, 2, none⟩ (.string S)).setCell ⟨wb.heap.size, 3, none⟩ (.slice ao1 O.length cp1)).cell? ⟨rb, 0, none⟩ = some (.slice ao n c) ∧ ((((w1.setCell ⟨wb.heap.size, 0, none⟩ (.int .i64 K)).setCell ⟨wb.heap.size, 1, none⟩ (.int .i64 N)).setCell ⟨wb.heap.size, 2, none⟩ (.string S)).setCell ⟨wb.heap.size, 3, none⟩ (.slice ao1 O.length cp1)).cell? ⟨rb, 1, none⟩ = some (.int .i64 t) := (cells2 (kept_set (kept_set (kept_set (kept_set k1 hne) hne) hne) hne)).1))
  · have q1 := below_one w1 (.cells #[.int .i64 K, .int .i64 N, .string S, .slice ao1 O.length cp1] 77)
    have v2 := u1.trans (q1.mono u1.size)
    have G2 := hide (grownOf (row := some rb) (q0.trans (v2.mono q0.size)))
    clear hS1 hS2 c0 c1 f0 f1 u1 k1 hb1 ho1 v2 hr HH hne q1
    go_wp2_with fail
    refine (giveUp_yes _).mono ?_
    rintro e w3 ⟨⟨S', rfl⟩, rfl⟩
    go_wp2
    exact ⟨rfl, ⟨_, rfl⟩, G2.out⟩
  · have v2 : Below wb.heap.size wb ((((w1.setCell ⟨wb.heap.size, 0, none⟩ (.int .i64 K)).setCell ⟨wb.heap.size, 1, none⟩ (.int .i64 N)).setCell ⟨wb.heap.size, 2, none⟩ (.string S)).setCell ⟨wb.heap.size, 3, none⟩ (.slice ao1 O.length cp1)) := below_set (below_set (below_set (below_set u1 (Nat.le_refl _) _ _) (Nat.le_refl _) _ _) (Nat.le_refl _) _ _) (Nat.le_refl _) _ _
    have G2 := hide (grownOf (row := some rb) (q0.trans (v2.mono q0.size)))
    clear hS1 hS3 c0 c1 f0 f1 z0 z1 z2 z3 y0 y1 y2 y3 kz u1 k1 hb1 ho1 v2 hr HH hne
    go_wp2_with fail
    refine (giveUp_yes _).mono ?_
    rintro e w3 ⟨⟨S', rfl⟩, rfl⟩
    go_wp2
    exact ⟨rfl, ⟨_, rfl⟩, G2.out⟩

end Go.Proofs.YtamglfhnhjgdjaaGreatDoor
