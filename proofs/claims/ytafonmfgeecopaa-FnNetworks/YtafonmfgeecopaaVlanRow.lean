/-
  The place of a row, the program's own, by slices.IndexFunc over what has a number; a row that is looked for; its members.
-/
import Derived.Test.YtafonmfgeecopaaVtabAt
import Derived.Deep.RegionHeld3
namespace Go.Proofs.Ytafonmfgeecopaa
open Go.RowKit

theorem cell1 {w : World} {g : Nat} {T : TypeId} {v : Value} (h : w.heap[g]? = some (.cells #[v] T)) : w.cell? ⟨g, 0, none⟩ = some v := by simp [World.cell?, h]

theorem number_of (v : Value) (w : World) : (method 229 29 v "loop.example/g00326/impl.number").run Try.prog w = .ok (116, v) w := by kernel_rfl

set_option maxRecDepth 100000 in
set_option maxHeartbeats 400000 in
theorem implNumber_any (r : VR) (w : World) : Calls Try.prog 116 #[.agg #[.int .i64 r.i, .int .i64 r.m, .int .i64 r.b]] w fun e w' => e = .returned (.int .i64 r.i) ∧ Below w.heap.size w w' := by
  go_enter Try.func116, Try.ntmps116
  go_wp2
  go_ret
  exact ⟨rfl, below_one _ _⟩

set_option maxRecDepth 100000 in
set_option maxHeartbeats 400000 in
theorem implRowsOf_any (a : Option Addr) (n c : Nat) (o : Option Addr) (p q : Nat) (w : World) : Calls Try.prog 51 #[.agg #[.slice a n c, .slice o p q]] w fun e w' => e = .returned (.slice a n c) ∧ Below w.heap.size w w' := by
  go_enter Try.func51, Try.ntmps51
  go_wp2
  go_ret
  exact ⟨rfl, below_one _ _⟩

set_option maxRecDepth 100000 in
set_option maxHeartbeats 2000000 in
theorem implPlace1_any (r : VR) (id : Int) (g : Nat) (w : World) (c : w.heap[g]? = some (.cells #[.int .i64 id] 3)) :
    Calls Try.prog 88 #[.agg #[.int .i64 r.i, .int .i64 r.m, .int .i64 r.b], .pointer (some ⟨g, 0, none⟩)] w fun e w' => e = .returned (.bool (r.i == id)) ∧ Below w.heap.size w w' := by
  have hm := number_of
  generalize hw1 : w.alloc (Obj.cells #[.int .i64 r.i, .int .i64 r.m, .int .i64 r.b] 29) = w1
  have q : Below w.heap.size w w1 := by subst hw1; exact below_one _ _
  have k0 : w1.heap[w.heap.size]? = some (.cells #[.int .i64 r.i, .int .i64 r.m, .int .i64 r.b] 29) := by rw [← hw1]; exact block_last _ _
  have HS : Hid (∀ W, Below w1.heap.size w1 W → (W.cell? ⟨w.heap.size, 0, none⟩ = some (.int .i64 r.i) ∧ W.cell? ⟨w.heap.size, 1, none⟩ = some (.int .i64 r.m) ∧ W.cell? ⟨w.heap.size, 2, none⟩ = some (.int .i64 r.b)) ∧ W.cell? ⟨g, 0, none⟩ = some (.int .i64 id)) := hide (fun W hW => ⟨(cells3 (kept_block k0 hW)).1, cell1 (kept_block (kept_block c q) hW)⟩)
  clear k0
  have vv : Below w1.heap.size w1 w1.drew := gr_drew (Below.refl _ _)
  go_enter Try.func88, Try.ntmps88
  go_wp2_with fail
  refine wp_region_held_drew (S := (fun W => (W.cell? ⟨w.heap.size, 0, none⟩ = some (.int .i64 r.i) ∧ W.cell? ⟨w.heap.size, 1, none⟩ = some (.int .i64 r.m) ∧ W.cell? ⟨w.heap.size, 2, none⟩ = some (.int .i64 r.b)) ∧ W.cell? ⟨g, 0, none⟩ = some (.int .i64 id))) (by kernel_rfl) (HS.out _ vv) (fun hHeld => ?_)
  refine wpAnyH_take (i := 0) (oi := { dst := some 4, op := Op.load 29 (Operand.tmp 2), type := 29, pos := "l09_vlan.go:152", after := #[], guard := none }) (v := ?_) rfl (by kernel_rfl) (by kernel_rfl) (by kernel_rfl) (fun _ _ _ h => h) (Or.inl ⟨by rfl, ?_⟩) (by assumption) ?_
  rotate_left
  · (intro wY hSw; (try dsimp only at hSw); go_simp; try with_reducible rfl)
  simp only [Act.put, List.setIfInBounds_toArray, List.set_cons_zero, List.set_cons_succ]
  refine wpAnyH_take (i := 1) (oi := { dst := some 5, op := Op.makeInterface 29 (Operand.tmp 4), type := 20, pos := "l09_vlan.go:152", after := #[{ on := 0, ground := Ground.data }], guard := none }) (v := ?_) rfl (by kernel_rfl) (by kernel_rfl) (by kernel_rfl) (fun _ _ _ h => h) (Or.inl ⟨by rfl, ?_⟩) (by assumption) ?_
  rotate_left
  · (intro wY hSw; (try dsimp only at hSw); go_simp; try with_reducible rfl)
  simp only [Act.put, List.setIfInBounds_toArray, List.set_cons_zero, List.set_cons_succ]
  refine wpAnyH_take (i := 3) (oi := { dst := some 7, op := Op.load 3 (Operand.tmp 1), type := 3, pos := "l09_vlan.go:152", after := #[], guard := none }) (v := ?_) rfl (by kernel_rfl) (by kernel_rfl) (by kernel_rfl) (fun _ _ _ h => h) (Or.inl ⟨by rfl, ?_⟩) (by assumption) ?_
  rotate_left
  · (intro wY hSw; (try dsimp only at hSw); go_simp; try with_reducible rfl)
  simp only [Act.put, List.setIfInBounds_toArray, List.set_cons_zero, List.set_cons_succ]
  refine wpAnyH_ready (rs := [2]) (by kernel_rfl) (by simp) ?_
  refine AllReadyH.cons (o := { dst := some 6, op := Op.call { callee := Callee.invoke (Operand.tmp 5) "loop.example/g00326/impl.number", args := #[], argTypes := #[] }, type := 3, pos := "l09_vlan.go:152", after := #[{ on := 1, ground := Ground.data }], guard := none }) rfl (fun K hK => ?_) ?_
  · go_simp
    refine (implNumber_any r _).mono ?_
    rintro e wz ⟨rfl, hbz⟩
    have vv := gr_trans vv hbz
    go_wp2_with fail
    refine hK.out _ _ (HS.out _ vv) (fun hHeld => ?_)
    clear hK K
    try simp only [Act.put, List.setIfInBounds_toArray, List.set_cons_zero, List.set_cons_succ]
    refine wpAnyH_take (i := 4) (oi := { dst := some 8, op := Op.binOp BinOp.eql 3 (Operand.tmp 6) (Operand.tmp 7) 3, type := 4, pos := "l09_vlan.go:152", after := #[{ on := 2, ground := Ground.data }, { on := 3, ground := Ground.data }], guard := none }) (v := ?_) rfl (by kernel_rfl) (by kernel_rfl) (by kernel_rfl) (fun _ _ _ h => h) (Or.inl ⟨by rfl, ?_⟩) (by assumption) ?_
    rotate_left
    · (intro wY hSw; (try dsimp only at hSw); go_simp; try with_reducible rfl)
    simp only [Act.put, List.setIfInBounds_toArray, List.set_cons_zero, List.set_cons_succ]
    refine wpAnyH_take (i := 5) (oi := { dst := some 3, op := Op.assign (Operand.tmp 8), type := 4, pos := "l09_vlan.go:152", after := #[{ on := 4, ground := Ground.data }, { on := 2, ground := Ground.chain }, { on := 0, ground := Ground.phase }, { on := 1, ground := Ground.phase }, { on := 2, ground := Ground.phase }, { on := 3, ground := Ground.phase }, { on := 4, ground := Ground.phase }], guard := none }) (v := ?_) rfl (by kernel_rfl) (by kernel_rfl) (by kernel_rfl) (fun _ _ _ h => h) (Or.inl ⟨by rfl, ?_⟩) (by assumption) ?_
    rotate_left
    · (intro wY hSw; (try dsimp only at hSw); go_simp; try with_reducible rfl)
    simp only [Act.put, List.setIfInBounds_toArray, List.set_cons_zero, List.set_cons_succ]
    refine wpAnyH_done (by kernel_rfl) ?_ _
    have HB := hide (gr_trans q vv)
    clear HS vv q
    go_wp2
    go_ret
    exact ⟨rfl, HB.out⟩
  exact AllReadyH.nil

set_option maxRecDepth 100000 in
set_option maxHeartbeats 2000000 in
theorem implWithout1_any (r : VR) (id : Int) (g : Nat) (w : World) (c : w.heap[g]? = some (.cells #[.int .i64 id] 3)) :
    Calls Try.prog 92 #[.agg #[.int .i64 r.i, .int .i64 r.m, .int .i64 r.b], .pointer (some ⟨g, 0, none⟩)] w fun e w' => e = .returned (.bool (r.i == id)) ∧ Below w.heap.size w w' := by
  have hm := number_of
  generalize hw1 : w.alloc (Obj.cells #[.int .i64 r.i, .int .i64 r.m, .int .i64 r.b] 29) = w1
  have q : Below w.heap.size w w1 := by subst hw1; exact below_one _ _
  have k0 : w1.heap[w.heap.size]? = some (.cells #[.int .i64 r.i, .int .i64 r.m, .int .i64 r.b] 29) := by rw [← hw1]; exact block_last _ _
  have HS : Hid (∀ W, Below w1.heap.size w1 W → (W.cell? ⟨w.heap.size, 0, none⟩ = some (.int .i64 r.i) ∧ W.cell? ⟨w.heap.size, 1, none⟩ = some (.int .i64 r.m) ∧ W.cell? ⟨w.heap.size, 2, none⟩ = some (.int .i64 r.b)) ∧ W.cell? ⟨g, 0, none⟩ = some (.int .i64 id)) := hide (fun W hW => ⟨(cells3 (kept_block k0 hW)).1, cell1 (kept_block (kept_block c q) hW)⟩)
  clear k0
  have vv : Below w1.heap.size w1 w1.drew := gr_drew (Below.refl _ _)
  go_enter Try.func92, Try.ntmps92
  go_wp2_with fail
  refine wp_region_held_drew (S := (fun W => (W.cell? ⟨w.heap.size, 0, none⟩ = some (.int .i64 r.i) ∧ W.cell? ⟨w.heap.size, 1, none⟩ = some (.int .i64 r.m) ∧ W.cell? ⟨w.heap.size, 2, none⟩ = some (.int .i64 r.b)) ∧ W.cell? ⟨g, 0, none⟩ = some (.int .i64 id))) (by kernel_rfl) (HS.out _ vv) (fun hHeld => ?_)
  refine wpAnyH_take (i := 0) (oi := { dst := some 4, op := Op.load 29 (Operand.tmp 2), type := 29, pos := "l09_vlan.go:173", after := #[], guard := none }) (v := ?_) rfl (by kernel_rfl) (by kernel_rfl) (by kernel_rfl) (fun _ _ _ h => h) (Or.inl ⟨by rfl, ?_⟩) (by assumption) ?_
  rotate_left
  · (intro wY hSw; (try dsimp only at hSw); go_simp; try with_reducible rfl)
  simp only [Act.put, List.setIfInBounds_toArray, List.set_cons_zero, List.set_cons_succ]
  refine wpAnyH_take (i := 1) (oi := { dst := some 5, op := Op.makeInterface 29 (Operand.tmp 4), type := 20, pos := "l09_vlan.go:173", after := #[{ on := 0, ground := Ground.data }], guard := none }) (v := ?_) rfl (by kernel_rfl) (by kernel_rfl) (by kernel_rfl) (fun _ _ _ h => h) (Or.inl ⟨by rfl, ?_⟩) (by assumption) ?_
  rotate_left
  · (intro wY hSw; (try dsimp only at hSw); go_simp; try with_reducible rfl)
  simp only [Act.put, List.setIfInBounds_toArray, List.set_cons_zero, List.set_cons_succ]
  refine wpAnyH_take (i := 3) (oi := { dst := some 7, op := Op.load 3 (Operand.tmp 1), type := 3, pos := "l09_vlan.go:173", after := #[], guard := none }) (v := ?_) rfl (by kernel_rfl) (by kernel_rfl) (by kernel_rfl) (fun _ _ _ h => h) (Or.inl ⟨by rfl, ?_⟩) (by assumption) ?_
  rotate_left
  · (intro wY hSw; (try dsimp only at hSw); go_simp; try with_reducible rfl)
  simp only [Act.put, List.setIfInBounds_toArray, List.set_cons_zero, List.set_cons_succ]
  refine wpAnyH_ready (rs := [2]) (by kernel_rfl) (by simp) ?_
  refine AllReadyH.cons (o := { dst := some 6, op := Op.call { callee := Callee.invoke (Operand.tmp 5) "loop.example/g00326/impl.number", args := #[], argTypes := #[] }, type := 3, pos := "l09_vlan.go:173", after := #[{ on := 1, ground := Ground.data }], guard := none }) rfl (fun K hK => ?_) ?_
  · go_simp
    refine (implNumber_any r _).mono ?_
    rintro e wz ⟨rfl, hbz⟩
    have vv := gr_trans vv hbz
    go_wp2_with fail
    refine hK.out _ _ (HS.out _ vv) (fun hHeld => ?_)
    clear hK K
    try simp only [Act.put, List.setIfInBounds_toArray, List.set_cons_zero, List.set_cons_succ]
    refine wpAnyH_take (i := 4) (oi := { dst := some 8, op := Op.binOp BinOp.eql 3 (Operand.tmp 6) (Operand.tmp 7) 3, type := 4, pos := "l09_vlan.go:173", after := #[{ on := 2, ground := Ground.data }, { on := 3, ground := Ground.data }], guard := none }) (v := ?_) rfl (by kernel_rfl) (by kernel_rfl) (by kernel_rfl) (fun _ _ _ h => h) (Or.inl ⟨by rfl, ?_⟩) (by assumption) ?_
    rotate_left
    · (intro wY hSw; (try dsimp only at hSw); go_simp; try with_reducible rfl)
    simp only [Act.put, List.setIfInBounds_toArray, List.set_cons_zero, List.set_cons_succ]
    refine wpAnyH_take (i := 5) (oi := { dst := some 3, op := Op.assign (Operand.tmp 8), type := 4, pos := "l09_vlan.go:173", after := #[{ on := 4, ground := Ground.data }, { on := 2, ground := Ground.chain }, { on := 0, ground := Ground.phase }, { on := 1, ground := Ground.phase }, { on := 2, ground := Ground.phase }, { on := 3, ground := Ground.phase }, { on := 4, ground := Ground.phase }], guard := none }) (v := ?_) rfl (by kernel_rfl) (by kernel_rfl) (by kernel_rfl) (fun _ _ _ h => h) (Or.inl ⟨by rfl, ?_⟩) (by assumption) ?_
    rotate_left
    · (intro wY hSw; (try dsimp only at hSw); go_simp; try with_reducible rfl)
    simp only [Act.put, List.setIfInBounds_toArray, List.set_cons_zero, List.set_cons_succ]
    refine wpAnyH_done (by kernel_rfl) ?_ _
    have HB := hide (gr_trans q vv)
    clear HS vv q
    go_wp2
    go_ret
    exact ⟨rfl, HB.out⟩
  exact AllReadyH.nil

set_option maxRecDepth 100000 in
set_option maxHeartbeats 2000000 in
theorem rowIndex_any (a : Option Addr) (n c : Nat) (l : List VR) (id : Int) (g : Nat) (w : World) (h : GRow vrowF w a n c l) (cg : w.heap[g]? = some (.cells #[.int .i64 id] 3)) :
    Calls Try.prog 87 #[.slice a n c, .func (.func 88) #[] #[.pointer (some ⟨g, 0, none⟩)]] w fun r w' => r = .returned (.int .i64 (rowAt l id)) ∧ Below w.heap.size w w' := by
  have hle := h.le
  have htop := h.top
  unfold maxLen at htop
  have hsz := h.size
  go_enter Try.func87, Try.ntmps87
  go_wp2
  go_loopw [8] (fun i wr => ∃ k : Nat, k ≤ n ∧ i = .int .i64 k ∧ (∀ (j : Nat) (y : VR), j < k → l[j]? = some y → (y.i == id) = false) ∧ Below w.heap.size w wr) (fun i _ => n - (intOf i).toNat)
  case atStart => exact ⟨0, Nat.zero_le _, rfl, fun j y hj => by omega, Below.refl _ _⟩
  case round =>
    obtain ⟨k, hk, rfl, hno, hb⟩ := hrel
    by_cases hlt : k < n
    · obtain ⟨x, b, off, hx, rfl, c0, c1, c2⟩ := vrow_at (h.below hb) k hlt
      cases t1 : (x.i == id)
      · have HO := hide (vno_next hno hx t1)
        have HA := hide t1
        have HB := hide hb
        clear t1 hno hb hx
        go_wp2_with fail
        refine (implPlace1_any x id g _ (kept_block cg HB.out)).mono ?_
        rintro r w1 ⟨rfl, hb1⟩
        rw [HA.out]
        have HB1 := hide (gr_trans HB.out hb1)
        clear hb1 c0 c1 c2
        go_wp2
        go_roundw
        case rel => exact ⟨k + 1, by omega, by go_num, HO.out, HB1.out⟩
        case measure => simp [intOf]; omega
      · have HF := hide (rowAt_found hno hx t1)
        have HA := hide t1
        have HB := hide hb
        clear t1 hno hb hx
        go_wp2_with fail
        refine (implPlace1_any x id g _ (kept_block cg HB.out)).mono ?_
        rintro r w1 ⟨rfl, hb1⟩
        rw [HA.out]
        have HB1 := hide (gr_trans HB.out hb1)
        clear hb1 c0 c1 c2
        go_wp2
        go_ret
        exact ⟨(by rw [HF.out]; rfl), HB1.out⟩
    · have hkn : k = n := by omega
      have HF := hide (rowAt_none (l := l) (id := id) (fun i y hy => hno i y (by have := (List.getElem?_eq_some_iff.1 hy).1; omega) hy))
      have HB := hide hb
      clear hno hb
      subst hkn
      go_wp2
      go_ret
      exact ⟨(by rw [HF.out]; rfl), HB.out⟩

set_option maxRecDepth 100000 in
set_option maxHeartbeats 2000000 in
theorem rowIndexW_any (a : Option Addr) (n c : Nat) (l : List VR) (id : Int) (g : Nat) (w : World) (h : GRow vrowF w a n c l) (cg : w.heap[g]? = some (.cells #[.int .i64 id] 3)) :
    Calls Try.prog 87 #[.slice a n c, .func (.func 92) #[] #[.pointer (some ⟨g, 0, none⟩)]] w fun r w' => r = .returned (.int .i64 (rowAt l id)) ∧ Below w.heap.size w w' := by
  have hle := h.le
  have htop := h.top
  unfold maxLen at htop
  have hsz := h.size
  go_enter Try.func87, Try.ntmps87
  go_wp2
  go_loopw [8] (fun i wr => ∃ k : Nat, k ≤ n ∧ i = .int .i64 k ∧ (∀ (j : Nat) (y : VR), j < k → l[j]? = some y → (y.i == id) = false) ∧ Below w.heap.size w wr) (fun i _ => n - (intOf i).toNat)
  case atStart => exact ⟨0, Nat.zero_le _, rfl, fun j y hj => by omega, Below.refl _ _⟩
  case round =>
    obtain ⟨k, hk, rfl, hno, hb⟩ := hrel
    by_cases hlt : k < n
    · obtain ⟨x, b, off, hx, rfl, c0, c1, c2⟩ := vrow_at (h.below hb) k hlt
      cases t1 : (x.i == id)
      · have HO := hide (vno_next hno hx t1)
        have HA := hide t1
        have HB := hide hb
        clear t1 hno hb hx
        go_wp2_with fail
        refine (implWithout1_any x id g _ (kept_block cg HB.out)).mono ?_
        rintro r w1 ⟨rfl, hb1⟩
        rw [HA.out]
        have HB1 := hide (gr_trans HB.out hb1)
        clear hb1 c0 c1 c2
        go_wp2
        go_roundw
        case rel => exact ⟨k + 1, by omega, by go_num, HO.out, HB1.out⟩
        case measure => simp [intOf]; omega
      · have HF := hide (rowAt_found hno hx t1)
        have HA := hide t1
        have HB := hide hb
        clear t1 hno hb hx
        go_wp2_with fail
        refine (implWithout1_any x id g _ (kept_block cg HB.out)).mono ?_
        rintro r w1 ⟨rfl, hb1⟩
        rw [HA.out]
        have HB1 := hide (gr_trans HB.out hb1)
        clear hb1 c0 c1 c2
        go_wp2
        go_ret
        exact ⟨(by rw [HF.out]; rfl), HB1.out⟩
    · have hkn : k = n := by omega
      have HF := hide (rowAt_none (l := l) (id := id) (fun i y hy => hno i y (by have := (List.getElem?_eq_some_iff.1 hy).1; omega) hy))
      have HB := hide hb
      clear hno hb
      subst hkn
      go_wp2
      go_ret
      exact ⟨(by rw [HF.out]; rfl), HB.out⟩

set_option maxRecDepth 100000 in
set_option maxHeartbeats 1000000 in
theorem implPlace_any (a : Option Addr) (n c : Nat) (l : List VR) (id : Int) (w : World) (h : GRow vrowF w a n c l) :
    Calls Try.prog 58 #[.slice a n c, .int .i64 id] w fun r w' => r = .returned (.int .i64 (rowAt l id)) ∧ Below w.heap.size w w' := by
  have hmf : ∀ (fn : Fn) (first cap : Array Value) (w : World), (Instr.makeFunc fn first cap).run Try.prog w = .ok (.func fn first cap) w := fun _ _ _ _ => rfl
  have q := below_one w (.cells #[.int .i64 id] 3)
  go_enter Try.func58, Try.ntmps58
  go_wp2_with fail
  refine (rowIndex_any a n c l id _ _ (h.below q) (block_last w _)).mono ?_
  rintro r w1 ⟨rfl, hb1⟩
  have HB := hide (gr_trans q hb1)
  clear hb1 q
  go_wp2
  go_ret
  exact ⟨rfl, HB.out⟩

set_option maxRecDepth 100000 in
set_option maxHeartbeats 1000000 in
theorem implRowAt_any (a : Option Addr) (n c : Nat) (l : List VR) (o : Option Addr) (p q : Nat) (id : Int) (w : World) (h : GRow vrowF w a n c l) :
    Calls Try.prog 14 #[.agg #[.slice a n c, .slice o p q], .int .i64 id] w fun r w' => r = .returned (.int .i64 (rowAt l id)) ∧ Below w.heap.size w w' := by
  have q0 := below_one w (.cells #[.slice a n c, .slice o p q] 27)
  go_enter Try.func14, Try.ntmps14
  go_wp2_with fail
  refine (implRowsOf_any a n c o p q _).mono ?_
  rintro r w1 ⟨rfl, hb1⟩
  have q1 := gr_trans q0 hb1
  clear hb1
  go_wp2_with fail
  refine (implPlace_any a n c l id _ (h.below q1)).mono ?_
  rintro r w2 ⟨rfl, hb2⟩
  have HB := hide (gr_trans q1 hb2)
  clear hb2 q1 q0
  go_wp2
  go_ret
  exact ⟨rfl, HB.out⟩

/-- The row that is found; the zero one. -/
def findRow (l : List VR) (id : Int) : VR := (l.find? (fun r => r.i == id)).getD ⟨0, 0, 0⟩

set_option maxRecDepth 100000 in
set_option maxHeartbeats 2000000 in
theorem implFind_any (a : Option Addr) (n c : Nat) (l : List VR) (id : Int) (w : World) (h : GRow vrowF w a n c l) :
    Calls Try.prog 71 #[.slice a n c, .int .i64 id] w fun r w' => r = .returned (.tuple #[.agg #[.int .i64 (findRow l id).i, .int .i64 (findRow l id).m, .int .i64 (findRow l id).b], .bool (l.find? (fun r => r.i == id)).isSome]) ∧ Below w.heap.size w w' := by
  have hle := h.le
  have htop := h.top
  unfold maxLen at htop
  have hsz := h.size
  have q0 := below_one w (.cells #[.int .i64 0, .int .i64 0, .int .i64 0] 29)
  have k0 := block_last w (.cells #[.int .i64 0, .int .i64 0, .int .i64 0] 29)
  unfold findRow
  cases hr : rowIdx l id with
  | none =>
    rw [rowIdx_find hr]
    have hat : rowAt l id = -1 := by unfold rowAt; rw [hr]
    clear hr
    go_enter Try.func71, Try.ntmps71
    go_wp2_with fail
    refine (implPlace_any a n c l id _ (h.below q0)).mono ?_
    rintro r w1 ⟨rfl, hb1⟩
    rw [hat]
    obtain ⟨⟨x0, x1, x2⟩, f0, f1, f2⟩ := cells3 (kept_block k0 hb1)
    have HB := hide (below_set (below_set (below_set (gr_trans q0 hb1) (Nat.le_refl _) 0 (.int .i64 0)) (Nat.le_refl _) 1 (.int .i64 0)) (Nat.le_refl _) 2 (.int .i64 0))
    clear hb1 q0 hat
    go_wp2
    exact bodyPost_ret (v := .tuple #[.agg #[.int .i64 0, .int .i64 0, .int .i64 0], .bool false]) (by simp [results, Try.results71, go_sem, *]) rfl ⟨rfl, HB.out⟩
  | some k =>
    obtain ⟨x, hx, -, hf⟩ := rowIdx_some hr
    rw [hf]
    simp only [Option.getD_some, Option.isSome_some]
    have hat : rowAt l id = (k : Int) := by unfold rowAt; rw [hr]
    have hkn : k < n := by have := (List.getElem?_eq_some_iff.1 hx).1; omega
    clear hr hf
    go_enter Try.func71, Try.ntmps71
    go_wp2_with fail
    refine (implPlace_any a n c l id _ (h.below q0)).mono ?_
    rintro r w1 ⟨rfl, hb1⟩
    rw [hat]
    obtain ⟨y, b, off, hy, rfl, c0, c1, c2⟩ := vrow_at (h.below (gr_trans q0 hb1)) k hkn
    rw [hx] at hy
    cases hy
    obtain ⟨⟨x0, x1, x2⟩, f0, f1, f2⟩ := cells3 (kept_block k0 hb1)
    have HB := hide (below_set (below_set (below_set (gr_trans q0 hb1) (Nat.le_refl _) 0 (.int .i64 x.i)) (Nat.le_refl _) 1 (.int .i64 x.m)) (Nat.le_refl _) 2 (.int .i64 x.b))
    clear hb1 q0 hat hx
    go_wp2
    exact bodyPost_ret (v := .tuple #[.agg #[.int .i64 x.i, .int .i64 x.m, .int .i64 x.b], .bool true]) (by simp [results, Try.results71, go_sem, *]) rfl ⟨rfl, HB.out⟩

theorem egress_find (v : VT) (id : Int) : egressOf v id = (findRow v.rows id).m := by
  unfold egressOf findRow
  cases v.rows.find? (fun r => r.i == id) <;> rfl

set_option maxRecDepth 100000 in
set_option maxHeartbeats 2000000 in
theorem implEgress_any (a : Option Addr) (n c : Nat) (o : Option Addr) (p q : Nat) (v : VT) (id : Int) (w : World) (h : GRow vrowF w a n c v.rows) :
    Calls Try.prog 34 #[.agg #[.slice a n c, .slice o p q], .int .i64 id] w fun r w' => r = .returned (.int .i64 (egressOf v id)) ∧ Below w.heap.size w w' := by
  rw [egress_find]
  generalize hx : findRow v.rows id = x
  have HX := hide hx
  clear hx
  have q0 := below_one w (.cells #[.slice a n c, .slice o p q] 27)
  go_enter Try.func34, Try.ntmps34
  go_wp2_with fail
  refine (implRowsOf_any a n c o p q _).mono ?_
  rintro r w1 ⟨rfl, hb1⟩
  have q1 := gr_trans q0 hb1
  clear hb1
  go_wp2_with fail
  refine (implFind_any a n c v.rows id _ (h.below q1)).mono ?_
  rw [HX.out]
  generalize (v.rows.find? (fun r => r.i == id)).isSome = d
  rintro r w2 ⟨rfl, hb2⟩
  have q2 := gr_trans q1 hb2
  clear hb2 q1 q0
  have HB := hide q2
  clear q2
  go_wp2
  exact bodyPost_ret (v := .int .i64 x.m) (by simp [results, Try.results34, go_sem, *]) rfl ⟨rfl, gr_trans HB.out (below_one _ _)⟩

end Go.Proofs.Ytafonmfgeecopaa
