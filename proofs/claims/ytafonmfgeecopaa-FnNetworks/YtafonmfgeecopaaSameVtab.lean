/-
  The laws' own look whether two tables are the same, at two that are; whether a number is in a list.
-/
import Derived.Test.YtafonmfgeecopaaVtabSet
import Derived.Test.YtafonmfgeecopaaOidSame
namespace Go.Proofs.Ytafonmfgeecopaa
open Go.RowKit

theorem vrow_neq (x : VR) (w : World) : (binOp .neq 29 (.agg #[.int .i64 x.i, .int .i64 x.m, .int .i64 x.b]) (.agg #[.int .i64 x.i, .int .i64 x.m, .int .i64 x.b])).run Try.prog w = .ok (.bool false) w := by
  have u3 := Try.underlying3
  have a3 := Try.isAgg3
  have z3 := Try.sizeOf3
  have hS : Try.prog.underlying 29 = some (.struct (Try.prog.fieldsOf 29)) := by kernel_rfl
  have hp : Try.prog.stoodInHeld 29 = false := by kernel_rfl
  rw [run_neq_struct, show (10000 : Nat) = 9999 + 1 from rfl, run_equalIn_agg w 9999 29 _ _ hS hp]
  simp only [Program.fieldsOf, Try.underlying29]
  go_simp

set_option maxRecDepth 100000 in
set_option maxHeartbeats 4000000 in
theorem sameVtab_same (a : Option Addr) (n c : Nat) (o : Option Addr) (p q : Nat) (a' : Option Addr) (n' c' : Nat) (o' : Option Addr) (p' q' : Nat) (v : VT) (w : World) (h : VTab w a n c o p q v) (h' : VTab w a' n' c' o' p' q' v) :
    Calls Try.prog 13 #[.agg #[.slice a n c, .slice o p q], .agg #[.slice a' n' c', .slice o' p' q']] w fun r w' => r = .returned (.bool true) ∧ Below w.heap.size w w' := by
  have hs := h.rows.size
  have hs' := h'.rows.size
  have htop := Nat.le_trans h.rows.le h.rows.top
  unfold maxLen at htop
  have hnn : n' = n := by omega
  subst hnn
  clear hs hs'
  have hneq := vrow_neq
  have hgd : Try.prog.eqGuardType Try.prog.depth 29 = false := by kernel_rfl
  generalize hw1 : w.alloc (Obj.cells #[Value.slice a n' c, Value.slice o p q] 27) = w1
  generalize hw2 : w1.alloc (Obj.cells #[Value.slice a' n' c', Value.slice o' p' q'] 27) = w2
  have b01 : Below w.heap.size w w1 := by subst hw1; exact below_one _ _
  have b12 : Below w1.heap.size w1 w2 := by subst hw2; exact below_one _ _
  have b02 := gr_trans b01 b12
  obtain ⟨x0, x1⟩ := box_two hw1 b12
  obtain ⟨x2, x3⟩ := box_two hw2 (Below.refl _ w2)
  go_enter Try.func13, Try.ntmps13
  go_wp2_with fail
  refine (sameInts_any o p q v.own o' p' q' v.own _ (h.own.below b02) (h'.own.below b02)).mono ?_
  rintro e w3 ⟨rfl, m, e3⟩
  rw [show decide (v.own = v.own) = true from decide_eq_true rfl]
  have hb3 : Below w2.heap.size w2 w3 := by rw [e3]; exact gr_drewN (Below.refl _ _) m
  clear e3 x0 x1 x2 x3
  obtain ⟨x0, x1⟩ := box_two hw1 (gr_trans b12 hb3)
  go_wp2
  go_loopw [5] (fun i wr => ∃ k : Nat, k ≤ n' ∧ i = .int .i64 k ∧ Below w2.heap.size w2 wr) (fun i _ => n' - (intOf i).toNat)
  case atStart => exact ⟨0, Nat.zero_le _, rfl, hb3⟩
  case round =>
    clear x0 x1
    obtain ⟨k, hk, rfl, hb⟩ := hrel
    obtain ⟨x0, x1⟩ := box_two hw1 (gr_trans b12 hb)
    obtain ⟨x2, x3⟩ := box_two hw2 hb
    by_cases hlt : k < n'
    · obtain ⟨x, b, off, hx, rfl, c0, c1, c2⟩ := vrow_at (h.rows.below (gr_trans b02 hb)) k hlt
      obtain ⟨y, b', off', hy, rfl, d0, d1, d2⟩ := vrow_at (h'.rows.below (gr_trans b02 hb)) k hlt
      rw [hx] at hy
      cases hy
      have i1 : (0 : Int) ≤ (k : Int) := by omega
      have i2 : (k : Int) < (n' : Int) := by omega
      have vv : Below wr.heap.size wr wr.drew := gr_drew (Below.refl _ _)
      have HS : Hid (∀ W, Below wr.heap.size wr W → (W.cell? ⟨w.heap.size, 0, none⟩ = some (.slice (some ⟨b, off, none⟩) n' c)) ∧ (W.cell? ⟨w1.heap.size, 0, none⟩ = some (.slice (some ⟨b', off', none⟩) n' c')) ∧ (W.cell? ⟨b, off + k * 3, none⟩ = some (.int .i64 x.i) ∧ W.cell? ⟨b, off + k * 3 + 1, none⟩ = some (.int .i64 x.m) ∧ W.cell? ⟨b, off + k * 3 + 2, none⟩ = some (.int .i64 x.b)) ∧ (W.cell? ⟨b', off' + k * 3, none⟩ = some (.int .i64 x.i) ∧ W.cell? ⟨b', off' + k * 3 + 1, none⟩ = some (.int .i64 x.m) ∧ W.cell? ⟨b', off' + k * 3 + 2, none⟩ = some (.int .i64 x.b))) := hide (fun W hW => ⟨kept_cell x0 hW, kept_cell x2 hW, ⟨kept_cell c0 hW, kept_cell c1 hW, kept_cell c2 hW⟩, kept_cell d0 hW, kept_cell d1 hW, kept_cell d2 hW⟩)
      have HB := hide hb
      clear hb hx c0 c1 c2 d0 d1 d2 x1 x2 x3
      go_wp2_with fail
      refine wp_region_held_drew (S := (fun W => (W.cell? ⟨w.heap.size, 0, none⟩ = some (.slice (some ⟨b, off, none⟩) n' c)) ∧ (W.cell? ⟨w1.heap.size, 0, none⟩ = some (.slice (some ⟨b', off', none⟩) n' c')) ∧ (W.cell? ⟨b, off + k * 3, none⟩ = some (.int .i64 x.i) ∧ W.cell? ⟨b, off + k * 3 + 1, none⟩ = some (.int .i64 x.m) ∧ W.cell? ⟨b, off + k * 3 + 2, none⟩ = some (.int .i64 x.b)) ∧ (W.cell? ⟨b', off' + k * 3, none⟩ = some (.int .i64 x.i) ∧ W.cell? ⟨b', off' + k * 3 + 1, none⟩ = some (.int .i64 x.m) ∧ W.cell? ⟨b', off' + k * 3 + 2, none⟩ = some (.int .i64 x.b)))) (by kernel_rfl) (HS.out _ vv) (fun hHeld => ?_)
      refine wpAnyH_take (i := 0) (oi := { dst := some 28, op := Op.fieldAddr 27 (Operand.tmp 2) 0, type := 0, pos := "laws.go:69", after := #[], guard := none }) (v := ?_) rfl (by kernel_rfl) (by kernel_rfl) (by kernel_rfl) (fun _ _ _ h => h) (Or.inl ⟨by rfl, ?_⟩) (by assumption) ?_
      rotate_left
      · (intro wY hSw; (try dsimp only at hSw); go_simp; try with_reducible rfl)
      simp only [Act.put, List.setIfInBounds_toArray, List.set_cons_zero, List.set_cons_succ]
      refine wpAnyH_take (i := 1) (oi := { dst := some 29, op := Op.load 24 (Operand.tmp 28), type := 24, pos := "laws.go:69", after := #[{ on := 0, ground := Ground.data }], guard := none }) (v := ?_) rfl (by kernel_rfl) (by kernel_rfl) (by kernel_rfl) (fun _ _ _ h => h) (Or.inl ⟨by rfl, ?_⟩) (by assumption) ?_
      rotate_left
      · (intro wY hSw; (try dsimp only at hSw); go_simp; try with_reducible rfl)
      simp only [Act.put, List.setIfInBounds_toArray, List.set_cons_zero, List.set_cons_succ]
      refine wpAnyH_take (i := 2) (oi := { dst := some 30, op := Op.move (Operand.tmp 5), type := 3, pos := "laws.go:69", after := #[], guard := none }) (v := ?_) rfl (by kernel_rfl) (by kernel_rfl) (by kernel_rfl) (fun _ _ _ h => h) (Or.inl ⟨by rfl, ?_⟩) (by assumption) ?_
      rotate_left
      · (intro wY hSw; (try dsimp only at hSw); go_simp; try with_reducible rfl)
      simp only [Act.put, List.setIfInBounds_toArray, List.set_cons_zero, List.set_cons_succ]
      refine wpAnyH_take (i := 3) (oi := { dst := some 31, op := Op.indexAddr 24 (Operand.tmp 29) (Operand.tmp 30), type := 0, pos := "laws.go:69", after := #[{ on := 1, ground := Ground.data }, { on := 2, ground := Ground.data }], guard := none }) (v := ?_) rfl (by kernel_rfl) (by kernel_rfl) (by kernel_rfl) (fun _ _ _ h => h) (Or.inl ⟨by rfl, ?_⟩) (by assumption) ?_
      rotate_left
      · (intro wY hSw; (try dsimp only at hSw); go_simp; try with_reducible rfl)
      simp only [Act.put, List.setIfInBounds_toArray, List.set_cons_zero, List.set_cons_succ]
      refine wpAnyH_take (i := 4) (oi := { dst := some 32, op := Op.load 29 (Operand.tmp 31), type := 29, pos := "laws.go:69", after := #[{ on := 3, ground := Ground.data }], guard := none }) (v := ?_) rfl (by kernel_rfl) (by kernel_rfl) (by kernel_rfl) (fun _ _ _ h => h) (Or.inl ⟨by rfl, ?_⟩) (by assumption) ?_
      rotate_left
      · (intro wY hSw; (try dsimp only at hSw); go_simp; try with_reducible rfl)
      simp only [Act.put, List.setIfInBounds_toArray, List.set_cons_zero, List.set_cons_succ]
      refine wpAnyH_take (i := 5) (oi := { dst := some 33, op := Op.fieldAddr 27 (Operand.tmp 3) 0, type := 0, pos := "laws.go:69", after := #[], guard := none }) (v := ?_) rfl (by kernel_rfl) (by kernel_rfl) (by kernel_rfl) (fun _ _ _ h => h) (Or.inl ⟨by rfl, ?_⟩) (by assumption) ?_
      rotate_left
      · (intro wY hSw; (try dsimp only at hSw); go_simp; try with_reducible rfl)
      simp only [Act.put, List.setIfInBounds_toArray, List.set_cons_zero, List.set_cons_succ]
      refine wpAnyH_take (i := 6) (oi := { dst := some 34, op := Op.load 24 (Operand.tmp 33), type := 24, pos := "laws.go:69", after := #[{ on := 5, ground := Ground.data }], guard := none }) (v := ?_) rfl (by kernel_rfl) (by kernel_rfl) (by kernel_rfl) (fun _ _ _ h => h) (Or.inl ⟨by rfl, ?_⟩) (by assumption) ?_
      rotate_left
      · (intro wY hSw; (try dsimp only at hSw); go_simp; try with_reducible rfl)
      simp only [Act.put, List.setIfInBounds_toArray, List.set_cons_zero, List.set_cons_succ]
      refine wpAnyH_take (i := 7) (oi := { dst := some 35, op := Op.move (Operand.tmp 5), type := 3, pos := "laws.go:69", after := #[], guard := none }) (v := ?_) rfl (by kernel_rfl) (by kernel_rfl) (by kernel_rfl) (fun _ _ _ h => h) (Or.inl ⟨by rfl, ?_⟩) (by assumption) ?_
      rotate_left
      · (intro wY hSw; (try dsimp only at hSw); go_simp; try with_reducible rfl)
      simp only [Act.put, List.setIfInBounds_toArray, List.set_cons_zero, List.set_cons_succ]
      refine wpAnyH_take (i := 8) (oi := { dst := some 36, op := Op.indexAddr 24 (Operand.tmp 34) (Operand.tmp 35), type := 0, pos := "laws.go:69", after := #[{ on := 6, ground := Ground.data }, { on := 7, ground := Ground.data }], guard := none }) (v := ?_) rfl (by kernel_rfl) (by kernel_rfl) (by kernel_rfl) (fun _ _ _ h => h) (Or.inl ⟨by rfl, ?_⟩) (by assumption) ?_
      rotate_left
      · (intro wY hSw; (try dsimp only at hSw); go_simp; try with_reducible rfl)
      simp only [Act.put, List.setIfInBounds_toArray, List.set_cons_zero, List.set_cons_succ]
      refine wpAnyH_take (i := 9) (oi := { dst := some 37, op := Op.load 29 (Operand.tmp 36), type := 29, pos := "laws.go:69", after := #[{ on := 8, ground := Ground.data }], guard := none }) (v := ?_) rfl (by kernel_rfl) (by kernel_rfl) (by kernel_rfl) (fun _ _ _ h => h) (Or.inl ⟨by rfl, ?_⟩) (by assumption) ?_
      rotate_left
      · (intro wY hSw; (try dsimp only at hSw); go_simp; try with_reducible rfl)
      simp only [Act.put, List.setIfInBounds_toArray, List.set_cons_zero, List.set_cons_succ]
      refine wpAnyH_take (i := 10) (oi := { dst := some 38, op := Op.binOp BinOp.neq 29 (Operand.tmp 32) (Operand.tmp 37) 29, type := 4, pos := "laws.go:69", after := #[{ on := 4, ground := Ground.data }, { on := 9, ground := Ground.data }], guard := none }) (v := ?_) rfl (by kernel_rfl) (by kernel_rfl) (by kernel_rfl) (fun _ _ _ h => h) (Or.inl ⟨by rfl, ?_⟩) (by assumption) ?_
      rotate_left
      · (intro wY hSw; (try dsimp only at hSw); go_simp; try with_reducible rfl)
      simp only [Act.put, List.setIfInBounds_toArray, List.set_cons_zero, List.set_cons_succ]
      refine wpAnyH_done (by kernel_rfl) ?_ _
      have b1 := gr_trans HB.out vv
      clear HS hHeld vv
      go_wp2
      go_roundw
      case rel => exact ⟨k + 1, by omega, by go_num, b1⟩
      case measure => simp [intOf]; omega
    · have HB := hide (gr_trans b02 hb)
      have hk' : k = n' := by omega
      subst hk'
      go_wp2
      go_ret
      exact ⟨rfl, HB.out⟩

set_option maxRecDepth 100000 in
set_option maxHeartbeats 1000000 in
theorem has_yes (ao : Option Addr) (n c : Nat) (l : List Int) (x : Int) (w : World) (h : IRow w ao n c l) (hx : x ∈ l) :
    Calls Try.prog 17 #[.slice ao n c, .int .i64 x] w fun r w' => r = .returned (.bool true) ∧ w' = w := by
  have hle := h.le
  have htop := h.top
  unfold maxLen at htop
  have hsz := hide h.size
  have HX := hide hx
  clear hx
  go_enter Try.func17, Try.ntmps17
  go_wp2
  go_loop [5] (fun i => ∃ k : Nat, k ≤ n ∧ i = .int .i64 k ∧ ∀ (j : Nat) (y : Int), j < k → l[j]? = some y → (y == x) = false) (fun i => n - (intOf i).toNat)
  case atStart => exact ⟨0, Nat.zero_le _, rfl, fun j y hj => by omega⟩
  case round =>
    obtain ⟨k, hk, rfl, hno⟩ := hrel
    by_cases hlt : k < n
    · obtain ⟨y, b, off, hy, rfl, c0⟩ := irow_at h k hlt
      cases t1 : (y == x)
      · have HO : Hid (∀ (j : Nat) (z : Int), j < k + 1 → l[j]? = some z → (z == x) = false) := hide (by
          intro j z hj hz
          by_cases e : j = k
          · subst e
            rw [hy] at hz
            cases hz
            exact t1
          · exact hno j z (by omega) hz)
        clear hno hy
        go_wp2
        go_round
        case rel => exact ⟨k + 1, by omega, by go_num, HO.out⟩
        case measure => simp [intOf]; omega
      · clear hno hy
        go_wp2
        go_ret
        exact ⟨rfl, rfl⟩
    · exfalso
      obtain ⟨j, hj⟩ := List.mem_iff_getElem?.1 HX.out
      have hjl := (List.getElem?_eq_some_iff.1 hj).1
      have := hno j x (by have := hsz.out; omega) hj
      simp at this

end Go.Proofs.Ytafonmfgeecopaa
