/-
  Clones of slices, a copy of a table, and a change that stands only where both are right: the program's own.
-/
import Derived.Test.YtafonmfgeecopaaVlanTab
import Derived.Test.YtafonmfgeecopaaVtabSet
namespace Go.Proofs.Ytafonmfgeecopaa
open Go.RowKit

set_option maxRecDepth 100000 in
set_option maxHeartbeats 1000000 in
theorem cloneI_any (ao : Option Addr) (n cap : Nat) (l : List Int) (w : World) (h : GRow intF w ao n cap l) (hn : n ≤ 16777216) :
    Calls Try.prog 53 #[.slice ao n cap] w fun r w' => ∃ ao' cap', r = .returned (.slice ao' n cap') ∧ w'.ownsRow w.heap.size 3 1 (.slice ao' n cap') n (intF.all l) ∧ Below w.heap.size w w' := by
  cases ao with
  | none =>
    have hc0 := h.nil rfl
    have hn0 : n = 0 := by have := h.le; omega
    subst hc0 hn0
    have hl : l = [] := List.eq_nil_of_length_eq_zero h.size
    subst hl
    have heq : ∀ W, (binOp .eql 25 (.slice none 0 0) (.slice none 0 0)).run Try.prog W = .ok (.bool true) W := fun _ => by kernel_rfl
    go_enter Try.func53, Try.ntmps53
    go_wp2
    go_ret
    exact ⟨none, 0, rfl, World.ownsRow_nil _ _ _ _, Below.refl _ _⟩
  | some a =>
    have heq : ∀ W, (binOp .eql 25 (.slice (some a) n cap) (.slice none 0 0)).run Try.prog W = .ok (.bool false) W := fun _ => by kernel_rfl
    go_enter Try.func53, Try.ntmps53
    go_wp2_with (at_builtin; refine wpList_append_flat (F := intF) _ rfl _ _ 25 3 rfl w.heap.size Try.underlying25 Try.infoI64 rfl (by decide) _ 0 [] rfl (flat_nil intF w _ 3 w.heap.size (block_last w _) (Nat.le_refl _)) (some a) n cap l rfl (h.below (below_one _ _)) (by omega) (by simp) ?_)
    intro ao' cap' w' how hr hgr hb
    have how : w'.ownsRow w.heap.size 3 1 (.slice ao' n cap') n (intF.all l) := by
      try simp only [Nat.zero_add, List.nil_append] at how
      exact how
    have HO := hide how
    have HB := hide ((below_one w _).trans hb)
    clear how hgr hb hr
    go_wp2
    go_ret
    exact ⟨ao', cap', (by simp), HO.out, HB.out⟩

set_option maxRecDepth 100000 in
set_option maxHeartbeats 1000000 in
theorem cloneV_any (ao : Option Addr) (n cap : Nat) (l : List VR) (w : World) (h : GRow vrowF w ao n cap l) (hn : n ≤ 16777216) :
    Calls Try.prog 89 #[.slice ao n cap] w fun r w' => ∃ ao' cap', r = .returned (.slice ao' n cap') ∧ w'.ownsRow w.heap.size 29 3 (.slice ao' n cap') n (vrowF.all l) ∧ Below w.heap.size w w' := by
  cases ao with
  | none =>
    have hc0 := h.nil rfl
    have hn0 : n = 0 := by have := h.le; omega
    subst hc0 hn0
    have hl : l = [] := List.eq_nil_of_length_eq_zero h.size
    subst hl
    have heq : ∀ W, (binOp .eql 24 (.slice none 0 0) (.slice none 0 0)).run Try.prog W = .ok (.bool true) W := fun _ => by kernel_rfl
    go_enter Try.func89, Try.ntmps89
    go_wp2
    go_ret
    exact ⟨none, 0, rfl, World.ownsRow_nil _ _ _ _, Below.refl _ _⟩
  | some a =>
    have heq : ∀ W, (binOp .eql 24 (.slice (some a) n cap) (.slice none 0 0)).run Try.prog W = .ok (.bool false) W := fun _ => by kernel_rfl
    go_enter Try.func89, Try.ntmps89
    go_wp2_with (at_builtin; refine wpList_append_flat (F := vrowF) _ rfl _ _ 24 29 rfl w.heap.size Try.underlying24 vrowInfo rfl (by decide) _ 0 [] rfl (flat_nil vrowF w _ 29 w.heap.size (block_last w _) (Nat.le_refl _)) (some a) n cap l rfl (h.below (below_one _ _)) (by omega) (by simp) ?_)
    intro ao' cap' w' how hr hgr hb
    have how : w'.ownsRow w.heap.size 29 3 (.slice ao' n cap') n (vrowF.all l) := by
      try simp only [Nat.zero_add, List.nil_append] at how
      exact how
    have HO := hide how
    have HB := hide ((below_one w _).trans hb)
    clear how hgr hb hr
    go_wp2
    go_ret
    exact ⟨ao', cap', (by simp), HO.out, HB.out⟩

set_option maxRecDepth 100000 in
set_option maxHeartbeats 1000000 in
theorem cloneO_any (ao : Option Addr) (n cap : Nat) (l : List VR) (w : World) (h : GRow vrowF w ao n cap l) (hn : n ≤ 16777216) :
    Calls Try.prog 91 #[.slice ao n cap] w fun r w' => ∃ ao' cap', r = .returned (.slice ao' n cap') ∧ w'.ownsRow w.heap.size 29 3 (.slice ao' n cap') n (vrowF.all l) ∧ Below w.heap.size w w' := by
  cases ao with
  | none =>
    have hc0 := h.nil rfl
    have hn0 : n = 0 := by have := h.le; omega
    subst hc0 hn0
    have hl : l = [] := List.eq_nil_of_length_eq_zero h.size
    subst hl
    have heq : ∀ W, (binOp .eql 65 (.slice none 0 0) (.slice none 0 0)).run Try.prog W = .ok (.bool true) W := fun _ => by kernel_rfl
    go_enter Try.func91, Try.ntmps91
    go_wp2
    go_ret
    exact ⟨none, 0, rfl, World.ownsRow_nil _ _ _ _, Below.refl _ _⟩
  | some a =>
    have heq : ∀ W, (binOp .eql 65 (.slice (some a) n cap) (.slice none 0 0)).run Try.prog W = .ok (.bool false) W := fun _ => by kernel_rfl
    go_enter Try.func91, Try.ntmps91
    go_wp2_with (at_builtin; refine wpList_append_flat (F := vrowF) _ rfl _ _ 65 29 rfl w.heap.size Try.underlying65 vrowInfo rfl (by decide) _ 0 [] rfl (flat_nil vrowF w _ 29 w.heap.size (block_last w _) (Nat.le_refl _)) (some a) n cap l rfl (h.below (below_one _ _)) (by omega) (by simp) ?_)
    intro ao' cap' w' how hr hgr hb
    have how : w'.ownsRow w.heap.size 29 3 (.slice ao' n cap') n (vrowF.all l) := by
      try simp only [Nat.zero_add, List.nil_append] at how
      exact how
    have HO := hide how
    have HB := hide ((below_one w _).trans hb)
    clear how hgr hb hr
    go_wp2
    go_ret
    exact ⟨ao', cap', (by simp), HO.out, HB.out⟩

set_option maxRecDepth 100000 in
set_option maxHeartbeats 4000000 in
theorem implCopyV_made (a : Option Addr) (n c : Nat) (o : Option Addr) (p q : Nat) (v : VT) (w : World) (h : VTab w a n c o p q v) (hn : n ≤ 16777216) (hp : p ≤ 16777216) :
    Calls Try.prog 59 #[.agg #[.slice a n c, .slice o p q]] w fun r w' => ∃ a' c' o' q', r = .returned (.agg #[.slice a' n c', .slice o' p q']) ∧ VOwn w' w.heap.size a' n c' o' p q' v ∧ Below w.heap.size w w' := by
  generalize hw1 : w.alloc (Obj.cells #[Value.slice a n c, Value.slice o p q] 27) = w1
  generalize hw2 : w1.alloc (Obj.cells #[Value.slice none 0 0, Value.slice none 0 0] 27) = w2
  have s1 : w1.heap.size = w.heap.size + 1 := by subst hw1; simp
  have s2 : w2.heap.size = w.heap.size + 1 + 1 := by subst hw2; simp [s1]
  have hk1 : w2.heap[w1.heap.size]? = some (.cells #[.slice none 0 0, .slice none 0 0] 27) := by rw [← hw2]; exact block_last _ _
  have b01 : Below w.heap.size w w1 := by subst hw1; exact below_one _ _
  have vb : Below w1.heap.size w1 w2.drew := by subst hw2; exact gr_drew (below_one _ _)
  have bw : Below w.heap.size w w2 := by subst hw2; exact gr_trans b01 (below_one _ _)
  have vv : Below w2.heap.size w2 w2.drew := gr_drew (Below.refl _ _)
  have HL : Hid (∀ b, some w1.heap.size = some b → b < w2.heap.size) := hide (by intro b hb; cases hb; omega)
  clear s1 s2
  go_enter Try.func59, Try.ntmps59
  go_wp2_with fail
  refine wp_region_held_drew (S := (fun W => W.cell? ⟨w.heap.size, 0, none⟩ = some (.slice a n c) ∧ W.cell? ⟨w.heap.size, 1, none⟩ = some (.slice o p q))) (by kernel_rfl) (box_two hw1 vb) (fun hHeld => ?_)
  refine wpAnyH_take (i := 0) (oi := { dst := some 3, op := Op.fieldAddr 27 (Operand.tmp 1) 0, type := 0, pos := "l09_vlan.go:115", after := #[], guard := none }) (v := ?_) rfl (by kernel_rfl) (by kernel_rfl) (by kernel_rfl) (fun _ _ _ h => h) (Or.inl ⟨by rfl, ?_⟩) (by assumption) ?_
  rotate_left
  · (intro wY hSw; (try dsimp only at hSw); go_simp; try with_reducible rfl)
  simp only [Act.put, List.setIfInBounds_toArray, List.set_cons_zero, List.set_cons_succ]
  refine wpAnyH_take (i := 1) (oi := { dst := some 4, op := Op.load 24 (Operand.tmp 3), type := 24, pos := "l09_vlan.go:115", after := #[{ on := 0, ground := Ground.data }], guard := none }) (v := ?_) rfl (by kernel_rfl) (by kernel_rfl) (by kernel_rfl) (fun _ _ _ h => h) (Or.inl ⟨by rfl, ?_⟩) (by assumption) ?_
  rotate_left
  · (intro wY hSw; (try dsimp only at hSw); go_simp; try with_reducible rfl)
  simp only [Act.put, List.setIfInBounds_toArray, List.set_cons_zero, List.set_cons_succ]
  refine wpAnyH_take (i := 3) (oi := { dst := some 6, op := Op.fieldAddr 27 (Operand.tmp 1) 1, type := 0, pos := "l09_vlan.go:115", after := #[], guard := none }) (v := ?_) rfl (by kernel_rfl) (by kernel_rfl) (by kernel_rfl) (fun _ _ _ h => h) (Or.inl ⟨by rfl, ?_⟩) (by assumption) ?_
  rotate_left
  · (intro wY hSw; (try dsimp only at hSw); go_simp; try with_reducible rfl)
  simp only [Act.put, List.setIfInBounds_toArray, List.set_cons_zero, List.set_cons_succ]
  refine wpAnyH_take (i := 4) (oi := { dst := some 7, op := Op.load 25 (Operand.tmp 6), type := 25, pos := "l09_vlan.go:115", after := #[{ on := 3, ground := Ground.data }], guard := none }) (v := ?_) rfl (by kernel_rfl) (by kernel_rfl) (by kernel_rfl) (fun _ _ _ h => h) (Or.inl ⟨by rfl, ?_⟩) (by assumption) ?_
  rotate_left
  · (intro wY hSw; (try dsimp only at hSw); go_simp; try with_reducible rfl)
  simp only [Act.put, List.setIfInBounds_toArray, List.set_cons_zero, List.set_cons_succ]
  refine wpAnyH_ready (rs := [2]) (by kernel_rfl) (by simp) ?_
  refine AllReadyH.cons (o := { dst := some 5, op := Op.call { callee := Callee.value (Operand.func 89), args := #[Operand.tmp 4], argTypes := #[24] }, type := 24, pos := "l09_vlan.go:115", after := #[{ on := 1, ground := Ground.data }], guard := none }) rfl (fun K hK => ?_) ?_
  · go_simp
    refine (cloneV_any a n c v.rows _ (h.rows.below (gr_trans bw vv)) hn).mono ?_
    rintro e wx ⟨aR, cR, rfl, how, hbx⟩
    have hR := gown_lt how (base' := w2.heap.size) vv.size
    try have hI := gown_below hI hbx
    have vv := gr_trans vv hbx
    have vb := gr_trans vb hbx
    clear how hbx
    go_wp2_with fail
    refine hK.out _ _ (box_two hw1 vb) (fun hHeld => ?_)
    clear hK K
    try simp only [Act.put, List.setIfInBounds_toArray, List.set_cons_zero, List.set_cons_succ]
    refine wpAnyH_ready (rs := [5]) (by kernel_rfl) (by simp) ?_
    refine AllReadyH.cons (o := { dst := some 8, op := Op.call { callee := Callee.value (Operand.func 53), args := #[Operand.tmp 7], argTypes := #[25] }, type := 25, pos := "l09_vlan.go:115", after := #[{ on := 4, ground := Ground.data }, { on := 2, ground := Ground.chain }], guard := none }) rfl (fun K hK => ?_) ?_
    · go_simp
      refine (cloneI_any o p q v.own _ ((h.own.below (gr_trans bw vv)).flat) hp).mono ?_
      rintro e wx ⟨aI, cI', rfl, how, hbx⟩
      have hI := gown_lt how (base' := w2.heap.size) vv.size
      try have hR := gown_below hR hbx
      have vv := gr_trans vv hbx
      have vb := gr_trans vb hbx
      clear how hbx
      go_wp2_with fail
      refine hK.out _ _ (box_two hw1 vb) (fun hHeld => ?_)
      clear hK K
      try simp only [Act.put, List.setIfInBounds_toArray, List.set_cons_zero, List.set_cons_succ]
      refine wpAnyH_take (i := 6) (oi := { dst := some 9, op := Op.build 27 #[(0, Operand.tmp 5), (1, Operand.tmp 8)], type := 27, pos := "l09_vlan.go:115", after := #[{ on := 2, ground := Ground.data }, { on := 5, ground := Ground.data }], guard := none }) (v := ?_) rfl (by kernel_rfl) (by kernel_rfl) (by kernel_rfl) (fun _ _ _ h => h) (Or.inl ⟨by rfl, ?_⟩) (by assumption) ?_
      rotate_left
      · (intro wY hSw; (try dsimp only at hSw); go_simp; try with_reducible rfl)
      simp only [Act.put, List.setIfInBounds_toArray, List.set_cons_zero, List.set_cons_succ]
      refine wpAnyH_ready (rs := [7]) (by kernel_rfl) (by simp) ?_
      refine AllReadyH.cons (o := { dst := none, op := Op.store 27 (Operand.tmp 2) (Operand.tmp 9), type := 0, pos := "l09_vlan.go:115", after := #[{ on := 6, ground := Ground.data }, { on := 5, ground := Ground.chain }, { on := 0, ground := Ground.phase }, { on := 1, ground := Ground.phase }, { on := 2, ground := Ground.phase }, { on := 3, ground := Ground.phase }, { on := 4, ground := Ground.phase }, { on := 5, ground := Ground.phase }, { on := 6, ground := Ground.phase }], guard := none }) rfl (fun K hK => ?_) ?_
      · obtain ⟨⟨g0, g1⟩, f0, f1⟩ := cells2 (kept_block hk1 vv)
        go_simp
        have hR := gown_apart (gown_apart hR (grown_set (rb := w1.heap.size) 0 (.slice aR n cR)) HL.out) (grown_set (rb := w1.heap.size) 1 (.slice aI p cI')) HL.out
        have hI := gown_apart (gown_apart hI (grown_set (rb := w1.heap.size) 0 (.slice aR n cR)) HL.out) (grown_set (rb := w1.heap.size) 1 (.slice aI p cI')) HL.out
        have vb := below_set (below_set vb (Nat.le_refl _) 0 (.slice aR n cR)) (Nat.le_refl _) 1 (.slice aI p cI')
        refine hK.out _ _ (box_two hw1 vb) (fun hHeld => ?_)
        clear hK K
        try simp only [Act.put, List.setIfInBounds_toArray, List.set_cons_zero, List.set_cons_succ]
        refine wpAnyH_done (by kernel_rfl) ?_ _
        have HR := hide hR
        have HI := hide hI
        clear hR hI
        go_wp2
        refine bodyPost_ret (v := .agg #[.slice aR n cR, .slice aI p cI']) (by simp [results, Try.results59, go_sem, *]) rfl ⟨_, _, _, _, rfl, ⟨gown_lt HR.out bw.size, gown_lt (by rw [← intF_all]; exact HI.out) bw.size, h.own.byte⟩, gr_trans b01 vb⟩
      exact AllReadyH.nil
    exact AllReadyH.nil
  exact AllReadyH.nil

/-- A change stands only where both are right. -/
def ifRight (v x : VT) : VT × Bool := if vtabOk v v.own.length && vtabOk x v.own.length then (x, true) else (v, false)

set_option maxRecDepth 100000 in
set_option maxHeartbeats 4000000 in
theorem implIfRight_made (B : Nat) (a : Option Addr) (n c : Nat) (o : Option Addr) (p q : Nat) (v : VT) (a2 : Option Addr) (n2 c2 : Nat) (o2 : Option Addr) (p2 q2 : Nat) (x : VT) (w : World) (h : VTab w a n c o p q v) (hx : VOwn w B a2 n2 c2 o2 p2 q2 x) (hB : B ≤ w.heap.size) (hn : n ≤ 16777216) (hp : p ≤ 16777216) (hR : ∀ r ∈ v.rows, r.Rng) (hRx : ∀ r ∈ x.rows, r.Rng) :
    Calls Try.prog 50 #[.agg #[.slice a n c, .slice o p q], .agg #[.slice a2 n2 c2, .slice o2 p2 q2]] w fun e w' => ∃ a' n' c' o' p' q', e = .returned (.tuple #[.agg #[.slice a' n' c', .slice o' p' q'], .bool (ifRight v x).2]) ∧ VOwn w' B a' n' c' o' p' q' (ifRight v x).1 ∧ Below w.heap.size w w' := by
  generalize hw1 : w.alloc (Obj.cells #[Value.slice a n c, Value.slice o p q] 27) = w1
  generalize hw2 : w1.alloc (Obj.cells #[Value.slice a2 n2 c2, Value.slice o2 p2 q2] 27) = w2
  generalize hw3 : w2.alloc (Obj.cells #[Value.slice none 0 0, Value.slice none 0 0] 27) = w3
  have b01 : Below w.heap.size w w1 := by subst hw1; exact below_one _ _
  have b12 : Below w1.heap.size w1 w2 := by subst hw2; exact below_one _ _
  have b23 : Below w2.heap.size w2 w3 := by subst hw3; exact below_one _ _
  have b13 := gr_trans b12 b23
  have b03 := gr_trans b01 b13
  have b02 := gr_trans b01 b12
  have k2 : w3.heap[w2.heap.size]? = some (.cells #[.slice none 0 0, .slice none 0 0] 27) := by rw [← hw3]; exact block_last _ _
  have z3 : Hid (w2.heap.size < w3.heap.size) := hide (by rw [← hw3]; simp)
  obtain ⟨e0, e1⟩ := box_two hw1 b13
  obtain ⟨e2, e3⟩ := box_two hw2 b23
  have h3 := h.below b03
  have hx3 := hx.tab.below b03
  have hl := h.own.size
  unfold ifRight
  rw [hl]
  have HL := hide hl
  clear hl
  cases t1 : vtabOk v p
  · rw [Bool.false_and, if_neg Bool.false_ne_true]
    have T1 := hide t1
    clear t1
    go_enter Try.func50, Try.ntmps50
    go_wp2_with fail
    refine (implVtabOk_any a n c o p q v (p : Int) _ h3 hR).mono ?_
    rintro e w4 ⟨rfl, hb4⟩
    rw [T1.out]
    obtain ⟨y0, y1⟩ := box_two hw1 (gr_trans b13 hb4)
    clear e0 e1 e2 e3
    go_wp2_with fail
    refine (implCopyV_made a n c o p q v _ (h3.below hb4) hn hp).mono ?_
    rintro e w5 ⟨a', c', o', q', rfl, hO, hb5⟩
    obtain ⟨⟨g0, g1⟩, f0, f1⟩ := cells2 (kept_block k2 (gr_trans hb4 hb5))
    have HB := hide (below_set (below_set (gr_trans b03 (gr_trans hb4 hb5)) b02.size 0 (.slice a' n c')) b02.size 1 (.slice o' p q'))
    have HO := hide ((hO.set2 (g := w2.heap.size) (Nat.lt_of_lt_of_le z3.out hb4.size) (.slice a' n c') (.slice o' p q')).lt (base' := B) (Nat.le_trans hB (Nat.le_trans b03.size hb4.size)))
    clear hO hb4 hb5 y0 y1
    go_wp2
    exact bodyPost_ret (v := .tuple #[.agg #[.slice a' n c', .slice o' p q'], .bool false]) (by simp [results, Try.results50, go_sem, *]) rfl ⟨_, _, _, _, _, _, rfl, HO.out, HB.out⟩
  · cases t2 : vtabOk x p
    · rw [Bool.and_false, if_neg Bool.false_ne_true]
      have T1 := hide t1
      have T2 := hide t2
      clear t1 t2
      go_enter Try.func50, Try.ntmps50
      go_wp2_with fail
      refine (implVtabOk_any a n c o p q v (p : Int) _ h3 hR).mono ?_
      rintro e w4 ⟨rfl, hb4⟩
      rw [T1.out]
      obtain ⟨y0, y1⟩ := box_two hw1 (gr_trans b13 hb4)
      obtain ⟨y2, y3⟩ := box_two hw2 (gr_trans b23 hb4)
      clear e0 e1 e2 e3
      go_wp2_with fail
      refine (implVtabOk_any a2 n2 c2 o2 p2 q2 x (p : Int) _ (hx3.below hb4) hRx).mono ?_
      rintro e w5 ⟨rfl, hb5⟩
      rw [T2.out]
      have hb5 := gr_trans hb4 hb5
      obtain ⟨y0, y1⟩ := box_two hw1 (gr_trans b13 hb5)
      go_wp2_with fail
      refine (implCopyV_made a n c o p q v _ (h3.below hb5) hn hp).mono ?_
      rintro e w6 ⟨a', c', o', q', rfl, hO, hb6⟩
      obtain ⟨⟨g0, g1⟩, f0, f1⟩ := cells2 (kept_block k2 (gr_trans hb5 hb6))
      have HB := hide (below_set (below_set (gr_trans b03 (gr_trans hb5 hb6)) b02.size 0 (.slice a' n c')) b02.size 1 (.slice o' p q'))
      have HO := hide ((hO.set2 (g := w2.heap.size) (Nat.lt_of_lt_of_le z3.out hb5.size) (.slice a' n c') (.slice o' p q')).lt (base' := B) (Nat.le_trans hB (Nat.le_trans b03.size hb5.size)))
      clear hO hb4 hb5 hb6 y0 y1 y2 y3
      go_wp2
      exact bodyPost_ret (v := .tuple #[.agg #[.slice a' n c', .slice o' p q'], .bool false]) (by simp [results, Try.results50, go_sem, *]) rfl ⟨_, _, _, _, _, _, rfl, HO.out, HB.out⟩
    · rw [Bool.and_true, if_pos rfl]
      have T1 := hide t1
      have T2 := hide t2
      clear t1 t2
      go_enter Try.func50, Try.ntmps50
      go_wp2_with fail
      refine (implVtabOk_any a n c o p q v (p : Int) _ h3 hR).mono ?_
      rintro e w4 ⟨rfl, hb4⟩
      rw [T1.out]
      obtain ⟨y0, y1⟩ := box_two hw1 (gr_trans b13 hb4)
      obtain ⟨y2, y3⟩ := box_two hw2 (gr_trans b23 hb4)
      clear e0 e1 e2 e3
      go_wp2_with fail
      refine (implVtabOk_any a2 n2 c2 o2 p2 q2 x (p : Int) _ (hx3.below hb4) hRx).mono ?_
      rintro e w5 ⟨rfl, hb5⟩
      rw [T2.out]
      have hb5 := gr_trans hb4 hb5
      obtain ⟨y2, y3⟩ := box_two hw2 (gr_trans b23 hb5)
      obtain ⟨⟨g0, g1⟩, f0, f1⟩ := cells2 (kept_block k2 hb5)
      have HB := hide (below_set (below_set (gr_trans b03 hb5) b02.size 0 (.slice a2 n2 c2)) b02.size 1 (.slice o2 p2 q2))
      have HO := hide (hx.below HB.out)
      clear hb4 hb5
      go_wp2
      exact bodyPost_ret (v := .tuple #[.agg #[.slice a2 n2 c2, .slice o2 p2 q2], .bool true]) (by simp [results, Try.results50, go_sem, *]) rfl ⟨_, _, _, _, _, _, rfl, HO.out, HB.out⟩

end Go.Proofs.Ytafonmfgeecopaa
