/-
  What is said, and what a port is for, as the specification has it.
-/
import Derived.Test.YtmlcjdfnoipihaaPtBest
namespace Go.Proofs.Ytmlcjdfnoipihaa
open Go.RowKit

set_option maxRecDepth 100000 in
set_option maxHeartbeats 2000000 in
theorem specSayVec_any (id : Int) (a : Option Addr) (n c : Nat) (l : List PT) (port : Int) (w : World) (h : GRow ptF w a n c l) :
    Calls Try.prog 24 #[.int .i64 id, .slice a n c, .int .i64 port] w fun e w' => e = .returned (.agg #[.int .i64 (sayV id l port).r, .int .i64 (sayV id l port).c, .int .i64 (sayV id l port).h, .int .i64 (sayV id l port).b, .int .i64 (sayV id l port).p]) ∧ Below w.heap.size w w' := by
  generalize hw1 : w.alloc (Obj.cells #[.int .i64 0, .int .i64 0, .int .i64 0, .int .i64 0, .int .i64 0] 28) = w1
  have q1 : Below w.heap.size w w1 := by rw [← hw1]; exact below_one _ _
  have k1 : w1.heap[w.heap.size]? = some (.cells #[.int .i64 0, .int .i64 0, .int .i64 0, .int .i64 0, .int .i64 0] 28) := by rw [← hw1]; exact block_last _ _
  have hsb : (sayV id l port) = ⟨(bestV id (bestOf id l)).r, (bestV id (bestOf id l)).c, (bestV id (bestOf id l)).h, (bestV id (bestOf id l)).b, port⟩ := by
    unfold sayV
    cases bestOf id l <;> rfl
  rw [hsb]
  clear hsb
  go_enter Try.func24, Try.ntmps24
  go_wp2_with fail
  refine (specBestVec_any id a n c l _ (h.below q1)).mono ?_
  rintro e w2 ⟨rfl, hb2⟩
  generalize hv : bestV id (bestOf id l) = v
  have HV := hide hv
  clear hv
  generalize hw3 : w2.alloc (Obj.cells #[.int .i64 v.r, .int .i64 v.c, .int .i64 v.h, .int .i64 v.b, .int .i64 v.p] 28) = w3
  have hb3 : Below w2.heap.size w2 w3 := by rw [← hw3]; exact below_one _ _
  have k3 : w3.heap[w2.heap.size]? = some (.cells #[.int .i64 v.r, .int .i64 v.c, .int .i64 v.h, .int .i64 v.b, .int .i64 v.p] 28) := by rw [← hw3]; exact block_last _ _
  have k1 := kept_block (kept_block k1 hb2) hb3
  have lt1 := (Array.getElem?_eq_some_iff.1 (kept_block (by rw [← hw1]; exact block_last _ _ : w1.heap[w.heap.size]? = some (.cells #[.int .i64 0, .int .i64 0, .int .i64 0, .int .i64 0, .int .i64 0] 28)) hb2)).1
  have ne1 : ¬ w2.heap.size = w.heap.size := by omega
  have ne2 : ¬ w.heap.size = w2.heap.size := by omega
  have HB := hide (below_set5 (below_set (gr_trans (gr_trans q1 hb2) hb3) (g := w2.heap.size) (by omega) 4 (.int .i64 port)) (Nat.le_refl w.heap.size) (.int .i64 v.r) (.int .i64 v.c) (.int .i64 v.h) (.int .i64 v.b) (.int .i64 port))
  obtain ⟨⟨x0, x1, x2, x3, x4⟩, y0, y1, y2, y3, y4⟩ := cells5 k3
  obtain ⟨⟨r0, r1, r2, r3, r4⟩, z0, z1, z2, z3, z4⟩ := cells5 k1
  clear hb2 hb3 k1 k3 q1 lt1
  go_wp2
  exact bodyPost_ret (v := .agg #[.int .i64 v.r, .int .i64 v.c, .int .i64 v.h, .int .i64 v.b, .int .i64 port]) (by simp [results, Try.results24, go_sem, *]) rfl ⟨(by rw [HV.out]), HB.out⟩

set_option maxRecDepth 100000 in
set_option maxHeartbeats 4000000 in
theorem specRole_any (id : Int) (a : Option Addr) (n c : Nat) (l : List PT) (port : Int) (w : World) (h : GRow ptF w a n c l) :
    Calls Try.prog 13 #[.int .i64 id, .slice a n c, .int .i64 port] w fun e w' => e = .returned (.int .i64 (roleOf id l port)) ∧ Below w.heap.size w w' := by
  have hle := h.le
  have htop := h.top
  unfold maxLen at htop
  have hsz := hide h.size
  cases hin : (decide (0 ≤ port) && decide (port ≤ (n : Int) - 1))
  · have HIN := hide hin
    have HR : Hid (roleOf id l port = 4) := hide (by unfold roleOf; rw [hsz.out, hin]; rfl)
    clear hin
    go_enter Try.func13, Try.ntmps13
    go_wp2_with fail
    refine (within_any port 0 ((n : Int) - 1) _).mono ?_
    rintro e w1 ⟨rfl, ew⟩
    obtain rfl := ew.symm
    rw [HIN.out]
    go_wp2
    go_ret
    exact ⟨(by rw [HR.out]; rfl), Below.refl _ _⟩
  obtain ⟨k, rfl⟩ : ∃ k : Nat, port = (k : Int) := ⟨port.toNat, by simp at hin; omega⟩
  have hlt : k < n := by simp at hin; omega
  have HIN := hide hin
  have i1 : (0 : Int) ≤ (k : Int) := by omega
  have i2 : (k : Int) < (n : Int) := by omega
  obtain ⟨x, b, off, hx, rfl, c0, c1, c2, c3, c4, c5, c6, c7⟩ := pt_at h k hlt
  have hro : roleOf id l (k : Int) = roleAt id l k x := by
    unfold roleOf
    rw [hsz.out, hin]
    simp [hx]
  have HRO := hide hro
  clear hin hro
  cases hu : x.up
  · rw [hu] at c0
    have HR : Hid (roleOf id l (k : Int) = 4) := hide (by rw [HRO.out]; unfold roleAt; rw [if_pos hu])
    clear hu c1 c2 c3 c4 c5 c6 c7 hx
    go_enter Try.func13, Try.ntmps13
    go_wp2_with fail
    refine (within_any (k : Int) 0 ((n : Int) - 1) _).mono ?_
    rintro e w1 ⟨rfl, ew⟩
    obtain rfl := ew.symm
    rw [HIN.out]
    go_wp2
    go_ret
    exact ⟨(by rw [HR.out]; rfl), Below.refl _ _⟩
  rw [hu] at c0
  have HU := hide hu
  clear hu
  by_cases hp : bestP (bestOf id l) = (k : Int)
  · have HR : Hid (roleOf id l (k : Int) = 1) := hide (by rw [HRO.out]; unfold roleAt; rw [if_neg (by rw [HU.out]; decide), if_pos hp])
    have HP := hide hp
    clear c1 c2 c3 c4 c5 c6 c7 hx hp
    go_enter Try.func13, Try.ntmps13
    go_wp2_with fail
    refine (within_any (k : Int) 0 ((n : Int) - 1) _).mono ?_
    rintro e w1 ⟨rfl, ew⟩
    obtain rfl := ew.symm
    rw [HIN.out]
    go_wp2_with fail
    refine (specBestVec_any id (some ⟨b, off, none⟩) n c l _ h).mono ?_
    rintro e w2 ⟨rfl, hb2⟩
    rw [HP.out]
    have HB := hide (gr_trans hb2 (below_one _ (Obj.cells #[.int .i64 (bestV id (bestOf id l)).r, .int .i64 (bestV id (bestOf id l)).c, .int .i64 (bestV id (bestOf id l)).h, .int .i64 (bestV id (bestOf id l)).b, .int .i64 (bestV id (bestOf id l)).p] 28)))
    clear hb2 c0
    go_wp2
    go_ret
    exact ⟨(by rw [HR.out]; rfl), HB.out⟩
  go_enter Try.func13, Try.ntmps13
  go_wp2_with fail
  refine (within_any (k : Int) 0 ((n : Int) - 1) _).mono ?_
  rintro e w1 ⟨rfl, ew⟩
  obtain rfl := ew.symm
  rw [HIN.out]
  go_wp2_with fail
  refine (specBestVec_any id (some ⟨b, off, none⟩) n c l _ h).mono ?_
  rintro e w2 ⟨rfl, hb2⟩
  generalize hw3 : w2.alloc (Obj.cells #[.int .i64 (bestV id (bestOf id l)).r, .int .i64 (bestV id (bestOf id l)).c, .int .i64 (bestV id (bestOf id l)).h, .int .i64 (bestV id (bestOf id l)).b, .int .i64 (bestV id (bestOf id l)).p] 28) = w3
  have HB : Hid (Below w.heap.size w w3) := hide (gr_trans hb2 (by rw [← hw3]; exact below_one _ _))
  clear hb2 c0 c1 c2 c3 c4 c5 c6 c7
  obtain ⟨x', b', off', hx', ha', c0, c1, c2, c3, c4, c5, c6, c7⟩ := pt_at (h.below HB.out) k hlt
  rw [hx] at hx'
  cases hx'
  cases ha'
  generalize hP : bestP (bestOf id l) = P at *
  have hPne : (P == (k : Int)) = false := by simp [hp]
  have HX := hide hx
  have vv : Below w3.heap.size w3 w3.drew := gr_drew (Below.refl _ _)
  have HR0 : Hid (roleOf id l (k : Int) = (if (!x.has || lessV (sayV id l (k : Int)) x.v) = true then 2 else 3)) := hide (by rw [HRO.out]; unfold roleAt; rw [if_neg (by rw [HU.out]; decide), hP, if_neg hp])
  clear c0 c1 hx hP
  cases hh : x.has
  · rw [hh] at c2
    have HR : Hid (roleOf id l (k : Int) = 2) := hide (by rw [HR0.out, hh]; rfl)
    have HSS : Hid (∀ W', Below w3.heap.size w3 W' → W'.cell? ⟨b, off + k * 8 + 2, none⟩ = some (.bool false) ∧ W'.cell? ⟨b, off + k * 8 + 3, none⟩ = some (.int .i64 x.v.r) ∧ W'.cell? ⟨b, off + k * 8 + 4, none⟩ = some (.int .i64 x.v.c) ∧ W'.cell? ⟨b, off + k * 8 + 5, none⟩ = some (.int .i64 x.v.h) ∧ W'.cell? ⟨b, off + k * 8 + 6, none⟩ = some (.int .i64 x.v.b) ∧ W'.cell? ⟨b, off + k * 8 + 7, none⟩ = some (.int .i64 x.v.p)) := hide (fun W' hb => ⟨(hb.cell (block_lt c2)).trans c2, (hb.cell (block_lt c3)).trans c3, (hb.cell (block_lt c4)).trans c4, (hb.cell (block_lt c5)).trans c5, (hb.cell (block_lt c6)).trans c6, (hb.cell (block_lt c7)).trans c7⟩)
    clear c2 c3 c4 c5 c6 c7 hh
    go_wp2_with fail
    refine wp_region_held_drew (S := (fun W => W.cell? ⟨b, off + k * 8 + 2, none⟩ = some (.bool false) ∧ W.cell? ⟨b, off + k * 8 + 3, none⟩ = some (.int .i64 x.v.r) ∧ W.cell? ⟨b, off + k * 8 + 4, none⟩ = some (.int .i64 x.v.c) ∧ W.cell? ⟨b, off + k * 8 + 5, none⟩ = some (.int .i64 x.v.h) ∧ W.cell? ⟨b, off + k * 8 + 6, none⟩ = some (.int .i64 x.v.b) ∧ W.cell? ⟨b, off + k * 8 + 7, none⟩ = some (.int .i64 x.v.p))) (by kernel_rfl) (HSS.out _ vv) (fun hHeld => ?_)
    refine wpAnyH_take (i := 0) (oi := { dst := some 34, op := Op.move (Operand.tmp 1), type := 24, pos := "l10_role.go:47", after := #[], guard := none }) (v := ?_) rfl (by kernel_rfl) (by kernel_rfl) (by kernel_rfl) (fun _ _ _ h => h) (Or.inl ⟨by rfl, ?_⟩) (by assumption) ?_
    rotate_left
    · (intro wY hSw; (try dsimp only at hSw); go_simp; try with_reducible rfl)
    simp only [Act.put, List.setIfInBounds_toArray, List.set_cons_zero, List.set_cons_succ]
    refine wpAnyH_take (i := 1) (oi := { dst := some 35, op := Op.move (Operand.tmp 2), type := 3, pos := "l10_role.go:47", after := #[], guard := none }) (v := ?_) rfl (by kernel_rfl) (by kernel_rfl) (by kernel_rfl) (fun _ _ _ h => h) (Or.inl ⟨by rfl, ?_⟩) (by assumption) ?_
    rotate_left
    · (intro wY hSw; (try dsimp only at hSw); go_simp; try with_reducible rfl)
    simp only [Act.put, List.setIfInBounds_toArray, List.set_cons_zero, List.set_cons_succ]
    refine wpAnyH_take (i := 2) (oi := { dst := some 36, op := Op.indexAddr 24 (Operand.tmp 34) (Operand.tmp 35), type := 0, pos := "l10_role.go:47", after := #[{ on := 0, ground := Ground.data }, { on := 1, ground := Ground.data }], guard := none }) (v := ?_) rfl (by kernel_rfl) (by kernel_rfl) (by kernel_rfl) (fun _ _ _ h => h) (Or.inl ⟨by rfl, ?_⟩) (by assumption) ?_
    rotate_left
    · (intro wY hSw; (try dsimp only at hSw); go_simp; try with_reducible rfl)
    simp only [Act.put, List.setIfInBounds_toArray, List.set_cons_zero, List.set_cons_succ]
    refine wpAnyH_take (i := 3) (oi := { dst := some 37, op := Op.fieldAddr 33 (Operand.tmp 36) 2, type := 0, pos := "l10_role.go:47", after := #[{ on := 2, ground := Ground.data }], guard := none }) (v := ?_) rfl (by kernel_rfl) (by kernel_rfl) (by kernel_rfl) (fun _ _ _ h => h) (Or.inl ⟨by rfl, ?_⟩) (by assumption) ?_
    rotate_left
    · (intro wY hSw; (try dsimp only at hSw); go_simp; try with_reducible rfl)
    simp only [Act.put, List.setIfInBounds_toArray, List.set_cons_zero, List.set_cons_succ]
    refine wpAnyH_take (i := 4) (oi := { dst := some 38, op := Op.load 4 (Operand.tmp 37), type := 4, pos := "l10_role.go:47", after := #[{ on := 3, ground := Ground.data }], guard := none }) (v := ?_) rfl (by kernel_rfl) (by kernel_rfl) (by kernel_rfl) (fun _ _ _ h => h) (Or.inl ⟨by rfl, ?_⟩) (by assumption) ?_
    rotate_left
    · (intro wY hSw; (try dsimp only at hSw); go_simp; try with_reducible rfl)
    simp only [Act.put, List.setIfInBounds_toArray, List.set_cons_zero, List.set_cons_succ]
    refine wpAnyH_take (i := 5) (oi := { dst := some 39, op := Op.unOp UnOp.not 4 (Operand.tmp 38), type := 4, pos := "l10_role.go:47", after := #[{ on := 4, ground := Ground.data }], guard := none }) (v := ?_) rfl (by kernel_rfl) (by kernel_rfl) (by kernel_rfl) (fun _ _ _ h => h) (Or.inl ⟨by rfl, ?_⟩) (by assumption) ?_
    rotate_left
    · (intro wY hSw; (try dsimp only at hSw); go_simp; try with_reducible rfl)
    simp only [Act.put, List.setIfInBounds_toArray, List.set_cons_zero, List.set_cons_succ]
    refine wpAnyH_take (i := 6) (oi := { dst := some 40, op := Op.move (Operand.tmp 39), type := 4, pos := "l10_role.go:47", after := #[{ on := 5, ground := Ground.data }], guard := none }) (v := ?_) rfl (by kernel_rfl) (by kernel_rfl) (by kernel_rfl) (fun _ _ _ h => h) (Or.inl ⟨by rfl, ?_⟩) (by assumption) ?_
    rotate_left
    · (intro wY hSw; (try dsimp only at hSw); go_simp; try with_reducible rfl)
    simp only [Act.put, List.setIfInBounds_toArray, List.set_cons_zero, List.set_cons_succ]
    refine wpAnyH_take (i := 7) (oi := { dst := some 41, op := Op.move (Operand.tmp 0), type := 3, pos := "l10_role.go:47", after := #[{ on := 6, ground := Ground.guard }], guard := some (6, false) }) (v := undef) rfl (by kernel_rfl) (by kernel_rfl) (by kernel_rfl) (fun _ _ _ h => h) (Or.inr ⟨by rfl, rfl⟩) (by assumption) ?_
    simp only [Act.put, List.setIfInBounds_toArray, List.set_cons_zero, List.set_cons_succ]
    refine wpAnyH_take (i := 8) (oi := { dst := some 42, op := Op.move (Operand.tmp 1), type := 24, pos := "l10_role.go:47", after := #[{ on := 6, ground := Ground.guard }], guard := some (6, false) }) (v := undef) rfl (by kernel_rfl) (by kernel_rfl) (by kernel_rfl) (fun _ _ _ h => h) (Or.inr ⟨by rfl, rfl⟩) (by assumption) ?_
    simp only [Act.put, List.setIfInBounds_toArray, List.set_cons_zero, List.set_cons_succ]
    refine wpAnyH_take (i := 9) (oi := { dst := some 43, op := Op.move (Operand.tmp 2), type := 3, pos := "l10_role.go:47", after := #[{ on := 6, ground := Ground.guard }], guard := some (6, false) }) (v := undef) rfl (by kernel_rfl) (by kernel_rfl) (by kernel_rfl) (fun _ _ _ h => h) (Or.inr ⟨by rfl, rfl⟩) (by assumption) ?_
    simp only [Act.put, List.setIfInBounds_toArray, List.set_cons_zero, List.set_cons_succ]
    refine wpAnyH_take (i := 10) (oi := { dst := some 44, op := Op.call { callee := Callee.value (Operand.func 24), args := #[Operand.tmp 41, Operand.tmp 42, Operand.tmp 43], argTypes := #[3, 24, 3] }, type := 28, pos := "l10_role.go:47", after := #[{ on := 7, ground := Ground.data }, { on := 8, ground := Ground.data }, { on := 9, ground := Ground.data }, { on := 6, ground := Ground.chain }, { on := 6, ground := Ground.guard }], guard := some (6, false) }) (v := undef) rfl (by kernel_rfl) (by kernel_rfl) (by kernel_rfl) (fun _ _ _ h => h) (Or.inr ⟨by rfl, rfl⟩) (by assumption) ?_
    simp only [Act.put, List.setIfInBounds_toArray, List.set_cons_zero, List.set_cons_succ]
    refine wpAnyH_take (i := 11) (oi := { dst := some 45, op := Op.move (Operand.tmp 1), type := 24, pos := "l10_role.go:47", after := #[{ on := 6, ground := Ground.guard }], guard := some (6, false) }) (v := undef) rfl (by kernel_rfl) (by kernel_rfl) (by kernel_rfl) (fun _ _ _ h => h) (Or.inr ⟨by rfl, rfl⟩) (by assumption) ?_
    simp only [Act.put, List.setIfInBounds_toArray, List.set_cons_zero, List.set_cons_succ]
    refine wpAnyH_take (i := 12) (oi := { dst := some 46, op := Op.move (Operand.tmp 2), type := 3, pos := "l10_role.go:47", after := #[{ on := 6, ground := Ground.guard }], guard := some (6, false) }) (v := undef) rfl (by kernel_rfl) (by kernel_rfl) (by kernel_rfl) (fun _ _ _ h => h) (Or.inr ⟨by rfl, rfl⟩) (by assumption) ?_
    simp only [Act.put, List.setIfInBounds_toArray, List.set_cons_zero, List.set_cons_succ]
    refine wpAnyH_take (i := 13) (oi := { dst := some 47, op := Op.indexAddr 24 (Operand.tmp 45) (Operand.tmp 46), type := 0, pos := "l10_role.go:47", after := #[{ on := 11, ground := Ground.data }, { on := 12, ground := Ground.data }, { on := 6, ground := Ground.guard }], guard := some (6, false) }) (v := undef) rfl (by kernel_rfl) (by kernel_rfl) (by kernel_rfl) (fun _ _ _ h => h) (Or.inr ⟨by rfl, rfl⟩) (by assumption) ?_
    simp only [Act.put, List.setIfInBounds_toArray, List.set_cons_zero, List.set_cons_succ]
    refine wpAnyH_take (i := 14) (oi := { dst := some 48, op := Op.fieldAddr 33 (Operand.tmp 47) 3, type := 0, pos := "l10_role.go:47", after := #[{ on := 13, ground := Ground.data }, { on := 6, ground := Ground.guard }], guard := some (6, false) }) (v := undef) rfl (by kernel_rfl) (by kernel_rfl) (by kernel_rfl) (fun _ _ _ h => h) (Or.inr ⟨by rfl, rfl⟩) (by assumption) ?_
    simp only [Act.put, List.setIfInBounds_toArray, List.set_cons_zero, List.set_cons_succ]
    refine wpAnyH_take (i := 15) (oi := { dst := some 49, op := Op.load 28 (Operand.tmp 48), type := 28, pos := "l10_role.go:47", after := #[{ on := 14, ground := Ground.data }, { on := 6, ground := Ground.guard }], guard := some (6, false) }) (v := undef) rfl (by kernel_rfl) (by kernel_rfl) (by kernel_rfl) (fun _ _ _ h => h) (Or.inr ⟨by rfl, rfl⟩) (by assumption) ?_
    simp only [Act.put, List.setIfInBounds_toArray, List.set_cons_zero, List.set_cons_succ]
    refine wpAnyH_take (i := 16) (oi := { dst := some 50, op := Op.call { callee := Callee.value (Operand.func 38), args := #[Operand.tmp 44, Operand.tmp 49], argTypes := #[28, 28] }, type := 4, pos := "l10_role.go:47", after := #[{ on := 10, ground := Ground.data }, { on := 15, ground := Ground.data }, { on := 10, ground := Ground.chain }, { on := 6, ground := Ground.guard }], guard := some (6, false) }) (v := undef) rfl (by kernel_rfl) (by kernel_rfl) (by kernel_rfl) (fun _ _ _ h => h) (Or.inr ⟨by rfl, rfl⟩) (by assumption) ?_
    simp only [Act.put, List.setIfInBounds_toArray, List.set_cons_zero, List.set_cons_succ]
    refine wpAnyH_take (i := 17) (oi := { dst := some 51, op := Op.pick (Operand.tmp 40) (Operand.const (Value.bool true)) (Operand.tmp 50), type := 4, pos := "l10_role.go:47", after := #[{ on := 6, ground := Ground.data }, { on := 16, ground := Ground.data }], guard := none }) (v := ?_) rfl (by kernel_rfl) (by kernel_rfl) (by kernel_rfl) (fun _ _ _ h => h) (Or.inl ⟨by rfl, ?_⟩) (by assumption) ?_
    rotate_left
    · (intro wY hSw; (try dsimp only at hSw); go_simp; try with_reducible rfl)
    simp only [Act.put, List.setIfInBounds_toArray, List.set_cons_zero, List.set_cons_succ]
    refine wpAnyH_take (i := 18) (oi := { dst := some 33, op := Op.assign (Operand.tmp 51), type := 4, pos := "l10_role.go:47", after := #[{ on := 17, ground := Ground.data }, { on := 16, ground := Ground.chain }], guard := none }) (v := ?_) rfl (by kernel_rfl) (by kernel_rfl) (by kernel_rfl) (fun _ _ _ h => h) (Or.inl ⟨by rfl, ?_⟩) (by assumption) ?_
    rotate_left
    · (intro wY hSw; (try dsimp only at hSw); go_simp; try with_reducible rfl)
    simp only [Act.put, List.setIfInBounds_toArray, List.set_cons_zero, List.set_cons_succ]
    refine wpAnyH_done (by kernel_rfl) ?_ _
    clear hHeld
    go_wp2
    go_ret
    exact ⟨(by rw [HR.out]; rfl), gr_trans HB.out vv⟩
  · rw [hh] at c2
    have HSS : Hid (∀ W', Below w3.heap.size w3 W' → W'.cell? ⟨b, off + k * 8 + 2, none⟩ = some (.bool true) ∧ W'.cell? ⟨b, off + k * 8 + 3, none⟩ = some (.int .i64 x.v.r) ∧ W'.cell? ⟨b, off + k * 8 + 4, none⟩ = some (.int .i64 x.v.c) ∧ W'.cell? ⟨b, off + k * 8 + 5, none⟩ = some (.int .i64 x.v.h) ∧ W'.cell? ⟨b, off + k * 8 + 6, none⟩ = some (.int .i64 x.v.b) ∧ W'.cell? ⟨b, off + k * 8 + 7, none⟩ = some (.int .i64 x.v.p)) := hide (fun W' hb => ⟨(hb.cell (block_lt c2)).trans c2, (hb.cell (block_lt c3)).trans c3, (hb.cell (block_lt c4)).trans c4, (hb.cell (block_lt c5)).trans c5, (hb.cell (block_lt c6)).trans c6, (hb.cell (block_lt c7)).trans c7⟩)
    clear c2 c3 c4 c5 c6 c7
    cases hl : lessV (sayV id l (k : Int)) x.v
    · have HR : Hid (roleOf id l (k : Int) = 3) := hide (by rw [HR0.out, hh, hl]; rfl)
      have HL : Hid (lessVc (sayV id l (k : Int)).r (sayV id l (k : Int)).c (sayV id l (k : Int)).b (sayV id l (k : Int)).p x.v.r x.v.c x.v.b x.v.p = false) := hide hl
      clear hh hl
      go_wp2_with fail
      refine wp_region_held_drew (S := (fun W => W.cell? ⟨b, off + k * 8 + 2, none⟩ = some (.bool true) ∧ W.cell? ⟨b, off + k * 8 + 3, none⟩ = some (.int .i64 x.v.r) ∧ W.cell? ⟨b, off + k * 8 + 4, none⟩ = some (.int .i64 x.v.c) ∧ W.cell? ⟨b, off + k * 8 + 5, none⟩ = some (.int .i64 x.v.h) ∧ W.cell? ⟨b, off + k * 8 + 6, none⟩ = some (.int .i64 x.v.b) ∧ W.cell? ⟨b, off + k * 8 + 7, none⟩ = some (.int .i64 x.v.p))) (by kernel_rfl) (HSS.out _ vv) (fun hHeld => ?_)
      refine wpAnyH_take (i := 0) (oi := { dst := some 34, op := Op.move (Operand.tmp 1), type := 24, pos := "l10_role.go:47", after := #[], guard := none }) (v := ?_) rfl (by kernel_rfl) (by kernel_rfl) (by kernel_rfl) (fun _ _ _ h => h) (Or.inl ⟨by rfl, ?_⟩) (by assumption) ?_
      rotate_left
      · (intro wY hSw; (try dsimp only at hSw); go_simp; try with_reducible rfl)
      simp only [Act.put, List.setIfInBounds_toArray, List.set_cons_zero, List.set_cons_succ]
      refine wpAnyH_take (i := 1) (oi := { dst := some 35, op := Op.move (Operand.tmp 2), type := 3, pos := "l10_role.go:47", after := #[], guard := none }) (v := ?_) rfl (by kernel_rfl) (by kernel_rfl) (by kernel_rfl) (fun _ _ _ h => h) (Or.inl ⟨by rfl, ?_⟩) (by assumption) ?_
      rotate_left
      · (intro wY hSw; (try dsimp only at hSw); go_simp; try with_reducible rfl)
      simp only [Act.put, List.setIfInBounds_toArray, List.set_cons_zero, List.set_cons_succ]
      refine wpAnyH_take (i := 2) (oi := { dst := some 36, op := Op.indexAddr 24 (Operand.tmp 34) (Operand.tmp 35), type := 0, pos := "l10_role.go:47", after := #[{ on := 0, ground := Ground.data }, { on := 1, ground := Ground.data }], guard := none }) (v := ?_) rfl (by kernel_rfl) (by kernel_rfl) (by kernel_rfl) (fun _ _ _ h => h) (Or.inl ⟨by rfl, ?_⟩) (by assumption) ?_
      rotate_left
      · (intro wY hSw; (try dsimp only at hSw); go_simp; try with_reducible rfl)
      simp only [Act.put, List.setIfInBounds_toArray, List.set_cons_zero, List.set_cons_succ]
      refine wpAnyH_take (i := 3) (oi := { dst := some 37, op := Op.fieldAddr 33 (Operand.tmp 36) 2, type := 0, pos := "l10_role.go:47", after := #[{ on := 2, ground := Ground.data }], guard := none }) (v := ?_) rfl (by kernel_rfl) (by kernel_rfl) (by kernel_rfl) (fun _ _ _ h => h) (Or.inl ⟨by rfl, ?_⟩) (by assumption) ?_
      rotate_left
      · (intro wY hSw; (try dsimp only at hSw); go_simp; try with_reducible rfl)
      simp only [Act.put, List.setIfInBounds_toArray, List.set_cons_zero, List.set_cons_succ]
      refine wpAnyH_take (i := 4) (oi := { dst := some 38, op := Op.load 4 (Operand.tmp 37), type := 4, pos := "l10_role.go:47", after := #[{ on := 3, ground := Ground.data }], guard := none }) (v := ?_) rfl (by kernel_rfl) (by kernel_rfl) (by kernel_rfl) (fun _ _ _ h => h) (Or.inl ⟨by rfl, ?_⟩) (by assumption) ?_
      rotate_left
      · (intro wY hSw; (try dsimp only at hSw); go_simp; try with_reducible rfl)
      simp only [Act.put, List.setIfInBounds_toArray, List.set_cons_zero, List.set_cons_succ]
      refine wpAnyH_take (i := 5) (oi := { dst := some 39, op := Op.unOp UnOp.not 4 (Operand.tmp 38), type := 4, pos := "l10_role.go:47", after := #[{ on := 4, ground := Ground.data }], guard := none }) (v := ?_) rfl (by kernel_rfl) (by kernel_rfl) (by kernel_rfl) (fun _ _ _ h => h) (Or.inl ⟨by rfl, ?_⟩) (by assumption) ?_
      rotate_left
      · (intro wY hSw; (try dsimp only at hSw); go_simp; try with_reducible rfl)
      simp only [Act.put, List.setIfInBounds_toArray, List.set_cons_zero, List.set_cons_succ]
      refine wpAnyH_take (i := 6) (oi := { dst := some 40, op := Op.move (Operand.tmp 39), type := 4, pos := "l10_role.go:47", after := #[{ on := 5, ground := Ground.data }], guard := none }) (v := ?_) rfl (by kernel_rfl) (by kernel_rfl) (by kernel_rfl) (fun _ _ _ h => h) (Or.inl ⟨by rfl, ?_⟩) (by assumption) ?_
      rotate_left
      · (intro wY hSw; (try dsimp only at hSw); go_simp; try with_reducible rfl)
      simp only [Act.put, List.setIfInBounds_toArray, List.set_cons_zero, List.set_cons_succ]
      refine wpAnyH_take (i := 7) (oi := { dst := some 41, op := Op.move (Operand.tmp 0), type := 3, pos := "l10_role.go:47", after := #[{ on := 6, ground := Ground.guard }], guard := some (6, false) }) (v := ?_) rfl (by kernel_rfl) (by kernel_rfl) (by kernel_rfl) (fun _ _ _ h => h) (Or.inl ⟨by rfl, ?_⟩) (by assumption) ?_
      rotate_left
      · (intro wY hSw; (try dsimp only at hSw); go_simp; try with_reducible rfl)
      simp only [Act.put, List.setIfInBounds_toArray, List.set_cons_zero, List.set_cons_succ]
      refine wpAnyH_take (i := 8) (oi := { dst := some 42, op := Op.move (Operand.tmp 1), type := 24, pos := "l10_role.go:47", after := #[{ on := 6, ground := Ground.guard }], guard := some (6, false) }) (v := ?_) rfl (by kernel_rfl) (by kernel_rfl) (by kernel_rfl) (fun _ _ _ h => h) (Or.inl ⟨by rfl, ?_⟩) (by assumption) ?_
      rotate_left
      · (intro wY hSw; (try dsimp only at hSw); go_simp; try with_reducible rfl)
      simp only [Act.put, List.setIfInBounds_toArray, List.set_cons_zero, List.set_cons_succ]
      refine wpAnyH_take (i := 9) (oi := { dst := some 43, op := Op.move (Operand.tmp 2), type := 3, pos := "l10_role.go:47", after := #[{ on := 6, ground := Ground.guard }], guard := some (6, false) }) (v := ?_) rfl (by kernel_rfl) (by kernel_rfl) (by kernel_rfl) (fun _ _ _ h => h) (Or.inl ⟨by rfl, ?_⟩) (by assumption) ?_
      rotate_left
      · (intro wY hSw; (try dsimp only at hSw); go_simp; try with_reducible rfl)
      simp only [Act.put, List.setIfInBounds_toArray, List.set_cons_zero, List.set_cons_succ]
      refine wpAnyH_take (i := 11) (oi := { dst := some 45, op := Op.move (Operand.tmp 1), type := 24, pos := "l10_role.go:47", after := #[{ on := 6, ground := Ground.guard }], guard := some (6, false) }) (v := ?_) rfl (by kernel_rfl) (by kernel_rfl) (by kernel_rfl) (fun _ _ _ h => h) (Or.inl ⟨by rfl, ?_⟩) (by assumption) ?_
      rotate_left
      · (intro wY hSw; (try dsimp only at hSw); go_simp; try with_reducible rfl)
      simp only [Act.put, List.setIfInBounds_toArray, List.set_cons_zero, List.set_cons_succ]
      refine wpAnyH_take (i := 12) (oi := { dst := some 46, op := Op.move (Operand.tmp 2), type := 3, pos := "l10_role.go:47", after := #[{ on := 6, ground := Ground.guard }], guard := some (6, false) }) (v := ?_) rfl (by kernel_rfl) (by kernel_rfl) (by kernel_rfl) (fun _ _ _ h => h) (Or.inl ⟨by rfl, ?_⟩) (by assumption) ?_
      rotate_left
      · (intro wY hSw; (try dsimp only at hSw); go_simp; try with_reducible rfl)
      simp only [Act.put, List.setIfInBounds_toArray, List.set_cons_zero, List.set_cons_succ]
      refine wpAnyH_take (i := 13) (oi := { dst := some 47, op := Op.indexAddr 24 (Operand.tmp 45) (Operand.tmp 46), type := 0, pos := "l10_role.go:47", after := #[{ on := 11, ground := Ground.data }, { on := 12, ground := Ground.data }, { on := 6, ground := Ground.guard }], guard := some (6, false) }) (v := ?_) rfl (by kernel_rfl) (by kernel_rfl) (by kernel_rfl) (fun _ _ _ h => h) (Or.inl ⟨by rfl, ?_⟩) (by assumption) ?_
      rotate_left
      · (intro wY hSw; (try dsimp only at hSw); go_simp; try with_reducible rfl)
      simp only [Act.put, List.setIfInBounds_toArray, List.set_cons_zero, List.set_cons_succ]
      refine wpAnyH_take (i := 14) (oi := { dst := some 48, op := Op.fieldAddr 33 (Operand.tmp 47) 3, type := 0, pos := "l10_role.go:47", after := #[{ on := 13, ground := Ground.data }, { on := 6, ground := Ground.guard }], guard := some (6, false) }) (v := ?_) rfl (by kernel_rfl) (by kernel_rfl) (by kernel_rfl) (fun _ _ _ h => h) (Or.inl ⟨by rfl, ?_⟩) (by assumption) ?_
      rotate_left
      · (intro wY hSw; (try dsimp only at hSw); go_simp; try with_reducible rfl)
      simp only [Act.put, List.setIfInBounds_toArray, List.set_cons_zero, List.set_cons_succ]
      refine wpAnyH_take (i := 15) (oi := { dst := some 49, op := Op.load 28 (Operand.tmp 48), type := 28, pos := "l10_role.go:47", after := #[{ on := 14, ground := Ground.data }, { on := 6, ground := Ground.guard }], guard := some (6, false) }) (v := ?_) rfl (by kernel_rfl) (by kernel_rfl) (by kernel_rfl) (fun _ _ _ h => h) (Or.inl ⟨by rfl, ?_⟩) (by assumption) ?_
      rotate_left
      · (intro wY hSw; (try dsimp only at hSw); go_simp; try with_reducible rfl)
      simp only [Act.put, List.setIfInBounds_toArray, List.set_cons_zero, List.set_cons_succ]
      refine wpAnyH_ready (rs := [10]) (by kernel_rfl) (by simp) ?_
      refine AllReadyH.cons (o := { dst := some 44, op := Op.call { callee := Callee.value (Operand.func 24), args := #[Operand.tmp 41, Operand.tmp 42, Operand.tmp 43], argTypes := #[3, 24, 3] }, type := 28, pos := "l10_role.go:47", after := #[{ on := 7, ground := Ground.data }, { on := 8, ground := Ground.data }, { on := 9, ground := Ground.data }, { on := 6, ground := Ground.chain }, { on := 6, ground := Ground.guard }], guard := some (6, false) }) rfl (fun K hK => ?_) ?_
      · go_simp
        refine (specSayVec_any id (some ⟨b, off, none⟩) n c l (k : Int) _ (h.below (gr_trans HB.out vv))).mono ?_
        rintro e wx ⟨rfl, hbx⟩
        have vv := gr_trans vv hbx
        clear hbx
        go_wp2_with fail
        refine hK.out _ _ (HSS.out _ vv) (fun hHeld => ?_)
        clear hK K
        try simp only [Act.put, List.setIfInBounds_toArray, List.set_cons_zero, List.set_cons_succ]
        refine wpAnyH_ready (rs := [16]) (by kernel_rfl) (by simp) ?_
        refine AllReadyH.cons (o := { dst := some 50, op := Op.call { callee := Callee.value (Operand.func 38), args := #[Operand.tmp 44, Operand.tmp 49], argTypes := #[28, 28] }, type := 4, pos := "l10_role.go:47", after := #[{ on := 10, ground := Ground.data }, { on := 15, ground := Ground.data }, { on := 10, ground := Ground.chain }, { on := 6, ground := Ground.guard }], guard := some (6, false) }) rfl (fun K hK => ?_) ?_
        · go_simp
          refine (specLessVec_any (sayV id l (k : Int)).r (sayV id l (k : Int)).c (sayV id l (k : Int)).h (sayV id l (k : Int)).b (sayV id l (k : Int)).p x.v.r x.v.c x.v.h x.v.b x.v.p _).mono ?_
          rintro e wx ⟨rfl, hbx⟩
          rw [HL.out]
          have vv := gr_trans vv hbx
          clear hbx
          go_wp2_with fail
          refine hK.out _ _ (HSS.out _ vv) (fun hHeld => ?_)
          clear hK K
          try simp only [Act.put, List.setIfInBounds_toArray, List.set_cons_zero, List.set_cons_succ]
          refine wpAnyH_take (i := 17) (oi := { dst := some 51, op := Op.pick (Operand.tmp 40) (Operand.const (Value.bool true)) (Operand.tmp 50), type := 4, pos := "l10_role.go:47", after := #[{ on := 6, ground := Ground.data }, { on := 16, ground := Ground.data }], guard := none }) (v := ?_) rfl (by kernel_rfl) (by kernel_rfl) (by kernel_rfl) (fun _ _ _ h => h) (Or.inl ⟨by rfl, ?_⟩) (by assumption) ?_
          rotate_left
          · (intro wY hSw; (try dsimp only at hSw); go_simp; try with_reducible rfl)
          simp only [Act.put, List.setIfInBounds_toArray, List.set_cons_zero, List.set_cons_succ]
          refine wpAnyH_take (i := 18) (oi := { dst := some 33, op := Op.assign (Operand.tmp 51), type := 4, pos := "l10_role.go:47", after := #[{ on := 17, ground := Ground.data }, { on := 16, ground := Ground.chain }], guard := none }) (v := ?_) rfl (by kernel_rfl) (by kernel_rfl) (by kernel_rfl) (fun _ _ _ h => h) (Or.inl ⟨by rfl, ?_⟩) (by assumption) ?_
          rotate_left
          · (intro wY hSw; (try dsimp only at hSw); go_simp; try with_reducible rfl)
          simp only [Act.put, List.setIfInBounds_toArray, List.set_cons_zero, List.set_cons_succ]
          refine wpAnyH_done (by kernel_rfl) ?_ _
          clear hHeld
          go_wp2
          go_ret
          exact ⟨(by rw [HR.out]; rfl), gr_trans HB.out vv⟩
        exact AllReadyH.nil
      exact AllReadyH.nil
    · have HR : Hid (roleOf id l (k : Int) = 2) := hide (by rw [HR0.out, hh, hl]; rfl)
      have HL : Hid (lessVc (sayV id l (k : Int)).r (sayV id l (k : Int)).c (sayV id l (k : Int)).b (sayV id l (k : Int)).p x.v.r x.v.c x.v.b x.v.p = true) := hide hl
      clear hh hl
      go_wp2_with fail
      refine wp_region_held_drew (S := (fun W => W.cell? ⟨b, off + k * 8 + 2, none⟩ = some (.bool true) ∧ W.cell? ⟨b, off + k * 8 + 3, none⟩ = some (.int .i64 x.v.r) ∧ W.cell? ⟨b, off + k * 8 + 4, none⟩ = some (.int .i64 x.v.c) ∧ W.cell? ⟨b, off + k * 8 + 5, none⟩ = some (.int .i64 x.v.h) ∧ W.cell? ⟨b, off + k * 8 + 6, none⟩ = some (.int .i64 x.v.b) ∧ W.cell? ⟨b, off + k * 8 + 7, none⟩ = some (.int .i64 x.v.p))) (by kernel_rfl) (HSS.out _ vv) (fun hHeld => ?_)
      refine wpAnyH_take (i := 0) (oi := { dst := some 34, op := Op.move (Operand.tmp 1), type := 24, pos := "l10_role.go:47", after := #[], guard := none }) (v := ?_) rfl (by kernel_rfl) (by kernel_rfl) (by kernel_rfl) (fun _ _ _ h => h) (Or.inl ⟨by rfl, ?_⟩) (by assumption) ?_
      rotate_left
      · (intro wY hSw; (try dsimp only at hSw); go_simp; try with_reducible rfl)
      simp only [Act.put, List.setIfInBounds_toArray, List.set_cons_zero, List.set_cons_succ]
      refine wpAnyH_take (i := 1) (oi := { dst := some 35, op := Op.move (Operand.tmp 2), type := 3, pos := "l10_role.go:47", after := #[], guard := none }) (v := ?_) rfl (by kernel_rfl) (by kernel_rfl) (by kernel_rfl) (fun _ _ _ h => h) (Or.inl ⟨by rfl, ?_⟩) (by assumption) ?_
      rotate_left
      · (intro wY hSw; (try dsimp only at hSw); go_simp; try with_reducible rfl)
      simp only [Act.put, List.setIfInBounds_toArray, List.set_cons_zero, List.set_cons_succ]
      refine wpAnyH_take (i := 2) (oi := { dst := some 36, op := Op.indexAddr 24 (Operand.tmp 34) (Operand.tmp 35), type := 0, pos := "l10_role.go:47", after := #[{ on := 0, ground := Ground.data }, { on := 1, ground := Ground.data }], guard := none }) (v := ?_) rfl (by kernel_rfl) (by kernel_rfl) (by kernel_rfl) (fun _ _ _ h => h) (Or.inl ⟨by rfl, ?_⟩) (by assumption) ?_
      rotate_left
      · (intro wY hSw; (try dsimp only at hSw); go_simp; try with_reducible rfl)
      simp only [Act.put, List.setIfInBounds_toArray, List.set_cons_zero, List.set_cons_succ]
      refine wpAnyH_take (i := 3) (oi := { dst := some 37, op := Op.fieldAddr 33 (Operand.tmp 36) 2, type := 0, pos := "l10_role.go:47", after := #[{ on := 2, ground := Ground.data }], guard := none }) (v := ?_) rfl (by kernel_rfl) (by kernel_rfl) (by kernel_rfl) (fun _ _ _ h => h) (Or.inl ⟨by rfl, ?_⟩) (by assumption) ?_
      rotate_left
      · (intro wY hSw; (try dsimp only at hSw); go_simp; try with_reducible rfl)
      simp only [Act.put, List.setIfInBounds_toArray, List.set_cons_zero, List.set_cons_succ]
      refine wpAnyH_take (i := 4) (oi := { dst := some 38, op := Op.load 4 (Operand.tmp 37), type := 4, pos := "l10_role.go:47", after := #[{ on := 3, ground := Ground.data }], guard := none }) (v := ?_) rfl (by kernel_rfl) (by kernel_rfl) (by kernel_rfl) (fun _ _ _ h => h) (Or.inl ⟨by rfl, ?_⟩) (by assumption) ?_
      rotate_left
      · (intro wY hSw; (try dsimp only at hSw); go_simp; try with_reducible rfl)
      simp only [Act.put, List.setIfInBounds_toArray, List.set_cons_zero, List.set_cons_succ]
      refine wpAnyH_take (i := 5) (oi := { dst := some 39, op := Op.unOp UnOp.not 4 (Operand.tmp 38), type := 4, pos := "l10_role.go:47", after := #[{ on := 4, ground := Ground.data }], guard := none }) (v := ?_) rfl (by kernel_rfl) (by kernel_rfl) (by kernel_rfl) (fun _ _ _ h => h) (Or.inl ⟨by rfl, ?_⟩) (by assumption) ?_
      rotate_left
      · (intro wY hSw; (try dsimp only at hSw); go_simp; try with_reducible rfl)
      simp only [Act.put, List.setIfInBounds_toArray, List.set_cons_zero, List.set_cons_succ]
      refine wpAnyH_take (i := 6) (oi := { dst := some 40, op := Op.move (Operand.tmp 39), type := 4, pos := "l10_role.go:47", after := #[{ on := 5, ground := Ground.data }], guard := none }) (v := ?_) rfl (by kernel_rfl) (by kernel_rfl) (by kernel_rfl) (fun _ _ _ h => h) (Or.inl ⟨by rfl, ?_⟩) (by assumption) ?_
      rotate_left
      · (intro wY hSw; (try dsimp only at hSw); go_simp; try with_reducible rfl)
      simp only [Act.put, List.setIfInBounds_toArray, List.set_cons_zero, List.set_cons_succ]
      refine wpAnyH_take (i := 7) (oi := { dst := some 41, op := Op.move (Operand.tmp 0), type := 3, pos := "l10_role.go:47", after := #[{ on := 6, ground := Ground.guard }], guard := some (6, false) }) (v := ?_) rfl (by kernel_rfl) (by kernel_rfl) (by kernel_rfl) (fun _ _ _ h => h) (Or.inl ⟨by rfl, ?_⟩) (by assumption) ?_
      rotate_left
      · (intro wY hSw; (try dsimp only at hSw); go_simp; try with_reducible rfl)
      simp only [Act.put, List.setIfInBounds_toArray, List.set_cons_zero, List.set_cons_succ]
      refine wpAnyH_take (i := 8) (oi := { dst := some 42, op := Op.move (Operand.tmp 1), type := 24, pos := "l10_role.go:47", after := #[{ on := 6, ground := Ground.guard }], guard := some (6, false) }) (v := ?_) rfl (by kernel_rfl) (by kernel_rfl) (by kernel_rfl) (fun _ _ _ h => h) (Or.inl ⟨by rfl, ?_⟩) (by assumption) ?_
      rotate_left
      · (intro wY hSw; (try dsimp only at hSw); go_simp; try with_reducible rfl)
      simp only [Act.put, List.setIfInBounds_toArray, List.set_cons_zero, List.set_cons_succ]
      refine wpAnyH_take (i := 9) (oi := { dst := some 43, op := Op.move (Operand.tmp 2), type := 3, pos := "l10_role.go:47", after := #[{ on := 6, ground := Ground.guard }], guard := some (6, false) }) (v := ?_) rfl (by kernel_rfl) (by kernel_rfl) (by kernel_rfl) (fun _ _ _ h => h) (Or.inl ⟨by rfl, ?_⟩) (by assumption) ?_
      rotate_left
      · (intro wY hSw; (try dsimp only at hSw); go_simp; try with_reducible rfl)
      simp only [Act.put, List.setIfInBounds_toArray, List.set_cons_zero, List.set_cons_succ]
      refine wpAnyH_take (i := 11) (oi := { dst := some 45, op := Op.move (Operand.tmp 1), type := 24, pos := "l10_role.go:47", after := #[{ on := 6, ground := Ground.guard }], guard := some (6, false) }) (v := ?_) rfl (by kernel_rfl) (by kernel_rfl) (by kernel_rfl) (fun _ _ _ h => h) (Or.inl ⟨by rfl, ?_⟩) (by assumption) ?_
      rotate_left
      · (intro wY hSw; (try dsimp only at hSw); go_simp; try with_reducible rfl)
      simp only [Act.put, List.setIfInBounds_toArray, List.set_cons_zero, List.set_cons_succ]
      refine wpAnyH_take (i := 12) (oi := { dst := some 46, op := Op.move (Operand.tmp 2), type := 3, pos := "l10_role.go:47", after := #[{ on := 6, ground := Ground.guard }], guard := some (6, false) }) (v := ?_) rfl (by kernel_rfl) (by kernel_rfl) (by kernel_rfl) (fun _ _ _ h => h) (Or.inl ⟨by rfl, ?_⟩) (by assumption) ?_
      rotate_left
      · (intro wY hSw; (try dsimp only at hSw); go_simp; try with_reducible rfl)
      simp only [Act.put, List.setIfInBounds_toArray, List.set_cons_zero, List.set_cons_succ]
      refine wpAnyH_take (i := 13) (oi := { dst := some 47, op := Op.indexAddr 24 (Operand.tmp 45) (Operand.tmp 46), type := 0, pos := "l10_role.go:47", after := #[{ on := 11, ground := Ground.data }, { on := 12, ground := Ground.data }, { on := 6, ground := Ground.guard }], guard := some (6, false) }) (v := ?_) rfl (by kernel_rfl) (by kernel_rfl) (by kernel_rfl) (fun _ _ _ h => h) (Or.inl ⟨by rfl, ?_⟩) (by assumption) ?_
      rotate_left
      · (intro wY hSw; (try dsimp only at hSw); go_simp; try with_reducible rfl)
      simp only [Act.put, List.setIfInBounds_toArray, List.set_cons_zero, List.set_cons_succ]
      refine wpAnyH_take (i := 14) (oi := { dst := some 48, op := Op.fieldAddr 33 (Operand.tmp 47) 3, type := 0, pos := "l10_role.go:47", after := #[{ on := 13, ground := Ground.data }, { on := 6, ground := Ground.guard }], guard := some (6, false) }) (v := ?_) rfl (by kernel_rfl) (by kernel_rfl) (by kernel_rfl) (fun _ _ _ h => h) (Or.inl ⟨by rfl, ?_⟩) (by assumption) ?_
      rotate_left
      · (intro wY hSw; (try dsimp only at hSw); go_simp; try with_reducible rfl)
      simp only [Act.put, List.setIfInBounds_toArray, List.set_cons_zero, List.set_cons_succ]
      refine wpAnyH_take (i := 15) (oi := { dst := some 49, op := Op.load 28 (Operand.tmp 48), type := 28, pos := "l10_role.go:47", after := #[{ on := 14, ground := Ground.data }, { on := 6, ground := Ground.guard }], guard := some (6, false) }) (v := ?_) rfl (by kernel_rfl) (by kernel_rfl) (by kernel_rfl) (fun _ _ _ h => h) (Or.inl ⟨by rfl, ?_⟩) (by assumption) ?_
      rotate_left
      · (intro wY hSw; (try dsimp only at hSw); go_simp; try with_reducible rfl)
      simp only [Act.put, List.setIfInBounds_toArray, List.set_cons_zero, List.set_cons_succ]
      refine wpAnyH_ready (rs := [10]) (by kernel_rfl) (by simp) ?_
      refine AllReadyH.cons (o := { dst := some 44, op := Op.call { callee := Callee.value (Operand.func 24), args := #[Operand.tmp 41, Operand.tmp 42, Operand.tmp 43], argTypes := #[3, 24, 3] }, type := 28, pos := "l10_role.go:47", after := #[{ on := 7, ground := Ground.data }, { on := 8, ground := Ground.data }, { on := 9, ground := Ground.data }, { on := 6, ground := Ground.chain }, { on := 6, ground := Ground.guard }], guard := some (6, false) }) rfl (fun K hK => ?_) ?_
      · go_simp
        refine (specSayVec_any id (some ⟨b, off, none⟩) n c l (k : Int) _ (h.below (gr_trans HB.out vv))).mono ?_
        rintro e wx ⟨rfl, hbx⟩
        have vv := gr_trans vv hbx
        clear hbx
        go_wp2_with fail
        refine hK.out _ _ (HSS.out _ vv) (fun hHeld => ?_)
        clear hK K
        try simp only [Act.put, List.setIfInBounds_toArray, List.set_cons_zero, List.set_cons_succ]
        refine wpAnyH_ready (rs := [16]) (by kernel_rfl) (by simp) ?_
        refine AllReadyH.cons (o := { dst := some 50, op := Op.call { callee := Callee.value (Operand.func 38), args := #[Operand.tmp 44, Operand.tmp 49], argTypes := #[28, 28] }, type := 4, pos := "l10_role.go:47", after := #[{ on := 10, ground := Ground.data }, { on := 15, ground := Ground.data }, { on := 10, ground := Ground.chain }, { on := 6, ground := Ground.guard }], guard := some (6, false) }) rfl (fun K hK => ?_) ?_
        · go_simp
          refine (specLessVec_any (sayV id l (k : Int)).r (sayV id l (k : Int)).c (sayV id l (k : Int)).h (sayV id l (k : Int)).b (sayV id l (k : Int)).p x.v.r x.v.c x.v.h x.v.b x.v.p _).mono ?_
          rintro e wx ⟨rfl, hbx⟩
          rw [HL.out]
          have vv := gr_trans vv hbx
          clear hbx
          go_wp2_with fail
          refine hK.out _ _ (HSS.out _ vv) (fun hHeld => ?_)
          clear hK K
          try simp only [Act.put, List.setIfInBounds_toArray, List.set_cons_zero, List.set_cons_succ]
          refine wpAnyH_take (i := 17) (oi := { dst := some 51, op := Op.pick (Operand.tmp 40) (Operand.const (Value.bool true)) (Operand.tmp 50), type := 4, pos := "l10_role.go:47", after := #[{ on := 6, ground := Ground.data }, { on := 16, ground := Ground.data }], guard := none }) (v := ?_) rfl (by kernel_rfl) (by kernel_rfl) (by kernel_rfl) (fun _ _ _ h => h) (Or.inl ⟨by rfl, ?_⟩) (by assumption) ?_
          rotate_left
          · (intro wY hSw; (try dsimp only at hSw); go_simp; try with_reducible rfl)
          simp only [Act.put, List.setIfInBounds_toArray, List.set_cons_zero, List.set_cons_succ]
          refine wpAnyH_take (i := 18) (oi := { dst := some 33, op := Op.assign (Operand.tmp 51), type := 4, pos := "l10_role.go:47", after := #[{ on := 17, ground := Ground.data }, { on := 16, ground := Ground.chain }], guard := none }) (v := ?_) rfl (by kernel_rfl) (by kernel_rfl) (by kernel_rfl) (fun _ _ _ h => h) (Or.inl ⟨by rfl, ?_⟩) (by assumption) ?_
          rotate_left
          · (intro wY hSw; (try dsimp only at hSw); go_simp; try with_reducible rfl)
          simp only [Act.put, List.setIfInBounds_toArray, List.set_cons_zero, List.set_cons_succ]
          refine wpAnyH_done (by kernel_rfl) ?_ _
          clear hHeld
          go_wp2
          go_ret
          exact ⟨(by rw [HR.out]; rfl), gr_trans HB.out vv⟩
        exact AllReadyH.nil
      exact AllReadyH.nil

end Go.Proofs.Ytmlcjdfnoipihaa
