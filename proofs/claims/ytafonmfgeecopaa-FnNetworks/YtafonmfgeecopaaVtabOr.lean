/-
  A table, if it is right; else a copy of the other one: as the specification has it.
-/
import Derived.Test.YtafonmfgeecopaaVtabCopy
namespace Go.Proofs.Ytafonmfgeecopaa
open Go.RowKit

theorem VOwn.below {w w' : World} {base : Nat} {a : Option Addr} {n c : Nat} {o : Option Addr} {p q : Nat} {v : VT} (h : VOwn w base a n c o p q v) (hb : Below w.heap.size w w') : VOwn w' base a n c o p q v :=
  ⟨gown_below h.rows hb, gown_below h.own hb, h.i64⟩

theorem VOwn.lt {w : World} {base base' : Nat} {a : Option Addr} {n c : Nat} {o : Option Addr} {p q : Nat} {v : VT} (h : VOwn w base a n c o p q v) (hle : base' ≤ base) : VOwn w base' a n c o p q v :=
  ⟨gown_lt h.rows hle, gown_lt h.own hle, h.i64⟩

/-- What the call owns stays while an elder block is written. -/
theorem VOwn.set2 {w : World} {base : Nat} {a : Option Addr} {n c : Nat} {o : Option Addr} {p q : Nat} {v : VT} (h : VOwn w base a n c o p q v) {g : Nat} (hg : g < base) (u1 u2 : Value) : VOwn ((w.setCell ⟨g, 0, none⟩ u1).setCell ⟨g, 1, none⟩ u2) base a n c o p q v := by
  have hl : ∀ b, some g = some b → b < base := by intro b hb; cases hb; exact hg
  exact ⟨gown_apart (gown_apart h.rows (grown_set (rb := g) 0 u1) hl) (grown_set (rb := g) 1 u2) hl, gown_apart (gown_apart h.own (grown_set (rb := g) 0 u1) hl) (grown_set (rb := g) 1 u2) hl, h.i64⟩

set_option maxRecDepth 100000 in
set_option maxHeartbeats 1000000 in
theorem specOr_yes (a : Option Addr) (n c : Nat) (o : Option Addr) (p q : Nat) (x : VT) (a2 : Option Addr) (n2 c2 : Nat) (o2 : Option Addr) (p2 q2 : Nat) (w : World) (h : VTab w a n c o p q x) (hok : vtabOk x p2 = true) :
    Calls Try.prog 55 #[.agg #[.slice a n c, .slice o p q], .agg #[.slice a2 n2 c2, .slice o2 p2 q2]] w fun r w' => r = .returned (.tuple #[.agg #[.slice a n c, .slice o p q], .bool true]) ∧ Below w.heap.size w w' := by
  generalize hw1 : w.alloc (Obj.cells #[Value.slice a n c, Value.slice o p q] 27) = w1
  generalize hw2 : w1.alloc (Obj.cells #[Value.slice a2 n2 c2, Value.slice o2 p2 q2] 27) = w2
  generalize hw3 : w2.alloc (Obj.cells #[Value.slice none 0 0, Value.slice none 0 0] 27) = w3
  have b01 : Below w.heap.size w w1 := by subst hw1; exact below_one _ _
  have b12 : Below w1.heap.size w1 w2 := by subst hw2; exact below_one _ _
  have b23 : Below w2.heap.size w2 w3 := by subst hw3; exact below_one _ _
  have b13 := gr_trans b12 b23
  have b03 := gr_trans b01 b13
  have k2 : w3.heap[w2.heap.size]? = some (.cells #[.slice none 0 0, .slice none 0 0] 27) := by rw [← hw3]; exact block_last _ _
  have hb1 := box_two hw1 b13
  have hb2 := box_two hw2 b23
  have h3 := h.below b03
  go_enter Try.func55, Try.ntmps55
  go_wp2_with (refine (specVtabOk_any a n c o p q x (p2 : Int) _ h3).mono ?_; rintro r w4 ⟨rfl, hb4⟩; rw [hok]; have hc1 := box_two hw1 (gr_trans b13 hb4); obtain ⟨⟨g0, g1⟩, f0, f1⟩ := cells2 (kept_block k2 hb4))
  have hbW : Below w.heap.size w ((w4.setCell ⟨w2.heap.size, 0, none⟩ (.slice a n c)).setCell ⟨w2.heap.size, 1, none⟩ (.slice o p q)) := below_set (below_set (gr_trans b03 hb4) (gr_trans b01 b12).size _ _) (gr_trans b01 b12).size _ _
  exact bodyPost_ret (v := .tuple #[.agg #[.slice a n c, .slice o p q], .bool true]) (by simp [results, Try.results55, go_sem, *]) rfl ⟨rfl, hbW⟩

set_option maxRecDepth 100000 in
set_option maxHeartbeats 1000000 in
theorem specOr_no (a : Option Addr) (n c : Nat) (o : Option Addr) (p q : Nat) (x : VT) (a2 : Option Addr) (n2 c2 : Nat) (o2 : Option Addr) (p2 q2 : Nat) (v : VT) (w : World) (h : VTab w a n c o p q x) (h2 : VTab w a2 n2 c2 o2 p2 q2 v) (hok : vtabOk x p2 = false) (hn : n2 ≤ 16777216) (hp : p2 ≤ 16777216) :
    Calls Try.prog 55 #[.agg #[.slice a n c, .slice o p q], .agg #[.slice a2 n2 c2, .slice o2 p2 q2]] w fun r w' => ∃ a' c' o' q', r = .returned (.tuple #[.agg #[.slice a' n2 c', .slice o' p2 q'], .bool false]) ∧ VOwn w' w.heap.size a' n2 c' o' p2 q' v ∧ Below w.heap.size w w' := by
  generalize hw1 : w.alloc (Obj.cells #[Value.slice a n c, Value.slice o p q] 27) = w1
  generalize hw2 : w1.alloc (Obj.cells #[Value.slice a2 n2 c2, Value.slice o2 p2 q2] 27) = w2
  generalize hw3 : w2.alloc (Obj.cells #[Value.slice none 0 0, Value.slice none 0 0] 27) = w3
  have b01 : Below w.heap.size w w1 := by subst hw1; exact below_one _ _
  have b12 : Below w1.heap.size w1 w2 := by subst hw2; exact below_one _ _
  have b23 : Below w2.heap.size w2 w3 := by subst hw3; exact below_one _ _
  have b13 := gr_trans b12 b23
  have b03 := gr_trans b01 b13
  have k2 : w3.heap[w2.heap.size]? = some (.cells #[.slice none 0 0, .slice none 0 0] 27) := by rw [← hw3]; exact block_last _ _
  have z3 : w2.heap.size < w3.heap.size := by rw [← hw3]; simp
  have hb1 := box_two hw1 b13
  have hb2 := box_two hw2 b23
  have h3 := h.below b03
  have h4 := h2.below b03
  go_enter Try.func55, Try.ntmps55
  go_wp2_with (refine (specVtabOk_any a n c o p q x (p2 : Int) _ h3).mono ?_; rintro r w4 ⟨rfl, hb4⟩; rw [hok]; have hc2 := box_two hw2 (gr_trans b23 hb4))
  go_wp2_with (refine (specCopyV_made a2 n2 c2 o2 p2 q2 v _ (h4.below hb4) hn hp).mono ?_; rintro r w5 ⟨a', c', o', q', rfl, hO, hb5⟩; obtain ⟨⟨g0, g1⟩, f0, f1⟩ := cells2 (kept_block k2 (gr_trans hb4 hb5)))
  have hbW : Below w.heap.size w ((w5.setCell ⟨w2.heap.size, 0, none⟩ (.slice a' n2 c')).setCell ⟨w2.heap.size, 1, none⟩ (.slice o' p2 q')) := below_set (below_set (gr_trans b03 (gr_trans hb4 hb5)) (gr_trans b01 b12).size _ _) (gr_trans b01 b12).size _ _
  have hO' := (hO.set2 (g := w2.heap.size) (by have := hb4.size; omega) (.slice a' n2 c') (.slice o' p2 q')).lt (base' := w.heap.size) (by have := hb4.size; have := b03.size; omega)
  have HO := hide hO'
  clear hO hO'
  exact bodyPost_ret (v := .tuple #[.agg #[.slice a' n2 c', .slice o' p2 q'], .bool false]) (by simp [results, Try.results55, go_sem, *]) rfl ⟨_, _, _, _, rfl, HO.out, hbW⟩

end Go.Proofs.Ytafonmfgeecopaa
