/-
  What the laws of chapter 9 draw.
-/
import Derived.Test.YtafonmfgeecopaaDrawVtab2
namespace Go.Proofs.Ytafonmfgeecopaa
open Go.RowKit

theorem VOwn.wentBy {w w' : World} {base : Nat} {a : Option Addr} {n c : Nat} {o : Option Addr} {p q : Nat} {v : VT} {C : Nat} {a0 : Option Addr} {l0 c0 : Nat} {z0 : List Int} (h : VOwn w base a n c o p q v) (g : Went w w' C a0 l0 c0 z0) (hC : C < base) : VOwn w' base a n c o p q v := by
  have hl : ∀ b, Option.some C = Option.some b → b < base := by intro b e; cases e; exact hC
  exact ⟨gown_apart h.rows g.grown hl, gown_apart h.own g.grown hl, h.i64⟩

set_option maxRecDepth 100000 in
set_option maxHeartbeats 1000000 in
theorem l9Tab_any (C : Nat) (a0 : Option Addr) (l0 c0 : Nat) (z0 : List Int) (w : World) (hc : Cur w C a0 l0 c0 z0) :
    Calls Try.prog 45 #[.pointer (some ⟨C, 0, none⟩)] w fun e w' => ∃ a n c o p q v pp, e = .returned (.agg #[.slice a n c, .slice o p q]) ∧ VOwn w' w.heap.size a n c o p q v ∧ Fine v pp 13 ∧ 1 ≤ pp ∧ pp ≤ 4 ∧ Went w w' C a0 l0 c0 z0 := by
  have hlt := hc.lt
  generalize hw1 : w.alloc (Obj.cells #[Value.slice none 0 0, Value.slice none 0 0] 27) = w1
  have b01 : Below w.heap.size w w1 := by subst hw1; exact below_one _ _
  have kR : w1.heap[w.heap.size]? = some (.cells #[.slice none 0 0, .slice none 0 0] 27) := by rw [← hw1]; exact block_last _ _
  have z1 : Hid (w.heap.size < w1.heap.size) := hide (by rw [← hw1]; simp)
  have wn1 := Went.start hc b01
  go_enter Try.func45, Try.ntmps45
  go_wp2_with fail
  refine (l9Any_any C a0 l0 c0 z0 _ wn1.cur).mono ?_
  rintro e w3 ⟨a, n, c, o, p, q, v, ports, pp, rfl, t, hF, hp1, hp4, -, wt⟩
  have kR := kept_grown kR wt.grown (by intro k e; cases e; omega)
  have wn := wn1.trans wt
  have HF := hide hF
  clear wt hF wn1
  generalize hwX : w3.alloc (Obj.cells #[Value.slice a n c, Value.slice o p q] 27) = wX
  have b3X : Below w3.heap.size w3 wX := by subst hwX; exact below_one _ _
  have kX : wX.heap[w3.heap.size]? = some (.cells #[.slice a n c, .slice o p q] 27) := by rw [← hwX]; exact block_last _ _
  have kR := kept_block kR b3X
  obtain ⟨⟨x0, x1⟩, x2, x3⟩ := cells2 kX
  obtain ⟨⟨g0, g1⟩, f0, f1⟩ := cells2 kR
  have HO := hide (((t.below b3X).boxed kR (.slice a n c) (.slice o p q)).lt (base' := w.heap.size) (Nat.le_of_lt z1.out))
  have HW := hide ((wn.made b3X).madeAt (below_set (below_set (Below.refl w.heap.size wX) (Nat.le_refl _) 0 (.slice a n c)) (Nat.le_refl _) 1 (.slice o p q)) hlt (Nat.le_refl _))
  clear t wn b3X
  go_wp2
  exact bodyPost_ret (v := .agg #[.slice a n c, .slice o p q]) (by simp [results, Try.results45, go_sem, *]) rfl ⟨_, _, _, _, _, _, _, _, rfl, HO.out, HF.out, hp1, hp4, HW.out⟩

set_option maxRecDepth 100000 in
set_option maxHeartbeats 1000000 in
theorem drawVtabNew_any (a0 : Option Addr) (l0 c0 : Nat) (z0 : List Int) (w : World) (h0 : Row w a0 l0 c0 z0) (hs : l0 ≤ 1048576) :
    Calls Try.prog 18 #[.slice a0 l0 c0] w fun e w' => ∃ ports : Int, e = .returned (.int .i64 ports) ∧ (-1 ≤ ports ∧ ports ≤ 7) ∧ Below w.heap.size w w' := by
  go_enter Try.func18, Try.ntmps18
  go_wp2_with fail
  refine (new_any a0 l0 c0 z0 _ h0 hs).mono ?_
  rintro e w2 ⟨rfl, hc, hb2⟩
  have hlt := hc.lt
  go_wp2_with fail
  refine (pick_any w.heap.size a0 l0 c0 z0 [1, 3, 6, 0, 7, -1] _ _ w2 hc rfl rfl (by simp) (by simp)).mono ?_
  rintro e w3 ⟨x, hx, rfl, wt⟩
  have hx : -1 ≤ x ∧ x ≤ 7 := by simp at hx; omega
  have HB := hide (hb2.trans (below_of_grown wt.grown (Nat.le_refl _) (Nat.le_of_lt hlt)))
  clear wt hc hb2
  go_wp2
  go_ret
  exact ⟨x, rfl, hx, HB.out⟩

set_option maxRecDepth 100000 in
set_option maxHeartbeats 1000000 in
theorem drawVtabOk_any (a0 : Option Addr) (l0 c0 : Nat) (z0 : List Int) (w : World) (h0 : Row w a0 l0 c0 z0) (hs : l0 ≤ 1048576) :
    Calls Try.prog 20 #[.slice a0 l0 c0] w fun e w' => ∃ a n c o p q v pp ports, e = .returned (.tuple #[.agg #[.slice a n c, .slice o p q], .int .i64 ports]) ∧ VOwn w' w.heap.size a n c o p q v ∧ Fine v pp 13 ∧ 1 ≤ pp ∧ pp ≤ 4 ∧ Below w.heap.size w w' := by
  generalize hw1 : w.alloc (Obj.cells #[Value.slice none 0 0, Value.slice none 0 0] 27) = w1
  have b01 : Below w.heap.size w w1 := by subst hw1; exact below_one _ _
  have kR : w1.heap[w.heap.size]? = some (.cells #[.slice none 0 0, .slice none 0 0] 27) := by rw [← hw1]; exact block_last _ _
  have z1 : Hid (w.heap.size < w1.heap.size) := hide (by rw [← hw1]; simp)
  go_enter Try.func20, Try.ntmps20
  go_wp2_with fail
  refine (new_any a0 l0 c0 z0 _ (h0.below b01) hs).mono ?_
  rintro e w2 ⟨rfl, hc, hb2⟩
  have hC : w1.heap.size < w2.heap.size := hc.lt
  have kR := kept_block kR hb2
  have bw := gr_trans b01 hb2
  have HC := hide hC
  clear hC hb2
  go_wp2_with fail
  refine (l9Any_any w1.heap.size a0 l0 c0 z0 _ hc).mono ?_
  rintro e w3 ⟨a, n, c, o, p, q, v, ports, pp, rfl, t, hF, hp1, hp4, -, wt⟩
  have kR := kept_grown kR wt.grown (by intro k e; cases e; have := z1.out; omega)
  have bw := bw.trans (below_of_grown wt.grown (by have := z1.out; omega) (Nat.le_of_lt HC.out))
  have HF := hide hF
  clear wt hF
  obtain ⟨⟨g0, g1⟩, f0, f1⟩ := cells2 kR
  have HO := hide ((t.boxed kR (.slice a n c) (.slice o p q)).lt (base' := w.heap.size) (Nat.le_trans (Nat.le_of_lt z1.out) (Nat.le_of_lt HC.out)))
  have HB := hide (below_set (below_set bw (Nat.le_refl _) 0 (.slice a n c)) (Nat.le_refl _) 1 (.slice o p q))
  clear t hc
  go_wp2
  exact bodyPost_ret (v := .tuple #[.agg #[.slice a n c, .slice o p q], .int .i64 ports]) (by simp [results, Try.results20, go_sem, *]) rfl ⟨_, _, _, _, _, _, _, _, _, rfl, HO.out, HF.out, hp1, hp4, HB.out⟩

set_option maxRecDepth 100000 in
set_option maxHeartbeats 1000000 in
theorem drawRowAt_any (a0 : Option Addr) (l0 c0 : Nat) (z0 : List Int) (w : World) (h0 : Row w a0 l0 c0 z0) (hs : l0 ≤ 1048576) :
    Calls Try.prog 67 #[.slice a0 l0 c0] w fun e w' => ∃ a n c o p q v pp, ∃ id : Int, e = .returned (.tuple #[.agg #[.slice a n c, .slice o p q], .int .i64 id]) ∧ VOwn w' w.heap.size a n c o p q v ∧ Fine v pp 13 ∧ 1 ≤ pp ∧ pp ≤ 4 ∧ (0 ≤ id ∧ id ≤ 9) ∧ Below w.heap.size w w' := by
  generalize hw1 : w.alloc (Obj.cells #[Value.slice none 0 0, Value.slice none 0 0] 27) = w1
  have b01 : Below w.heap.size w w1 := by subst hw1; exact below_one _ _
  have kR : w1.heap[w.heap.size]? = some (.cells #[.slice none 0 0, .slice none 0 0] 27) := by rw [← hw1]; exact block_last _ _
  have z1 : Hid (w.heap.size < w1.heap.size) := hide (by rw [← hw1]; simp)
  go_enter Try.func67, Try.ntmps67
  go_wp2_with fail
  refine (new_any a0 l0 c0 z0 _ (h0.below b01) hs).mono ?_
  rintro e w2 ⟨rfl, hc, hb2⟩
  have hC : w1.heap.size < w2.heap.size := hc.lt
  have kR := kept_block kR hb2
  have bw := gr_trans b01 hb2
  have HC := hide hC
  clear hC hb2
  go_wp2_with fail
  refine (l9Tab_any w1.heap.size a0 l0 c0 z0 _ hc).mono ?_
  rintro e w3 ⟨a, n, c, o, p, q, v, pp, rfl, t, hF, hp1, hp4, wt⟩
  have kR := kept_grown kR wt.grown (by intro k e; cases e; have := z1.out; omega)
  have bw := bw.trans (below_of_grown wt.grown (by have := z1.out; omega) (Nat.le_of_lt HC.out))
  have hc := wt.cur
  have hC3 : w1.heap.size < w3.heap.size := hc.lt
  have HF := hide hF
  clear wt hF hC3
  go_wp2_with fail
  refine (pick_any w1.heap.size a0 l0 c0 z0 [1, 2, 3, 0, 9] _ _ w3 hc rfl rfl (by simp) (by simp)).mono ?_
  rintro e w4 ⟨id, hid, rfl, wt⟩
  have hid : 0 ≤ id ∧ id ≤ 9 := by simp at hid; omega
  have kR := kept_grown kR wt.grown (by intro k e; cases e; have := z1.out; omega)
  have t := t.wentBy wt HC.out
  have bw := bw.trans (below_of_grown wt.grown (by have := z1.out; omega) (Nat.le_of_lt hc.lt))
  have hc := wt.cur
  clear wt
  obtain ⟨⟨g0, g1⟩, f0, f1⟩ := cells2 kR
  have HO := hide ((t.boxed kR (.slice a n c) (.slice o p q)).lt (base' := w.heap.size) (Nat.le_trans (Nat.le_of_lt z1.out) (Nat.le_of_lt HC.out)))
  have HB := hide (below_set (below_set bw (Nat.le_refl _) 0 (.slice a n c)) (Nat.le_refl _) 1 (.slice o p q))
  clear t hc
  go_wp2
  exact bodyPost_ret (v := .tuple #[.agg #[.slice a n c, .slice o p q], .int .i64 id]) (by simp [results, Try.results67, go_sem, *]) rfl ⟨_, _, _, _, _, _, _, _, id, rfl, HO.out, HF.out, hp1, hp4, hid, HB.out⟩

set_option maxRecDepth 100000 in
set_option maxHeartbeats 1000000 in
theorem drawClassOf_any (a0 : Option Addr) (l0 c0 : Nat) (z0 : List Int) (w : World) (h0 : Row w a0 l0 c0 z0) (hs : l0 ≤ 1048576) :
    Calls Try.prog 28 #[.slice a0 l0 c0] w fun e w' => ∃ a n c o p q v pp, ∃ port tag : Int, e = .returned (.tuple #[.agg #[.slice a n c, .slice o p q], .int .i64 port, .int .i64 tag]) ∧ VOwn w' w.heap.size a n c o p q v ∧ Fine v pp 13 ∧ 1 ≤ pp ∧ pp ≤ 4 ∧ (-1 ≤ port ∧ port ≤ 6) ∧ (0 ≤ tag ∧ tag ≤ 9) ∧ Below w.heap.size w w' := by
  generalize hw1 : w.alloc (Obj.cells #[Value.slice none 0 0, Value.slice none 0 0] 27) = w1
  have b01 : Below w.heap.size w w1 := by subst hw1; exact below_one _ _
  have kR : w1.heap[w.heap.size]? = some (.cells #[.slice none 0 0, .slice none 0 0] 27) := by rw [← hw1]; exact block_last _ _
  have z1 : Hid (w.heap.size < w1.heap.size) := hide (by rw [← hw1]; simp)
  go_enter Try.func28, Try.ntmps28
  go_wp2_with fail
  refine (new_any a0 l0 c0 z0 _ (h0.below b01) hs).mono ?_
  rintro e w2 ⟨rfl, hc, hb2⟩
  have hC : w1.heap.size < w2.heap.size := hc.lt
  have kR := kept_block kR hb2
  have bw := gr_trans b01 hb2
  have HC := hide hC
  clear hC hb2
  go_wp2_with fail
  refine (l9Tab_any w1.heap.size a0 l0 c0 z0 _ hc).mono ?_
  rintro e w3 ⟨a, n, c, o, p, q, v, pp, rfl, t, hF, hp1, hp4, wt⟩
  have kR := kept_grown kR wt.grown (by intro k e; cases e; have := z1.out; omega)
  have bw := bw.trans (below_of_grown wt.grown (by have := z1.out; omega) (Nat.le_of_lt HC.out))
  have hc := wt.cur
  have hC3 : w1.heap.size < w3.heap.size := hc.lt
  have HF := hide hF
  clear wt hF hC3
  go_wp2_with fail
  refine (pick_any w1.heap.size a0 l0 c0 z0 [0, 1, 2, 3, -1, 6] _ _ w3 hc rfl rfl (by simp) (by simp)).mono ?_
  rintro e w4 ⟨port, hport, rfl, wt⟩
  have hport : -1 ≤ port ∧ port ≤ 6 := by simp at hport; omega
  have kR := kept_grown kR wt.grown (by intro k e; cases e; have := z1.out; omega)
  have t := t.wentBy wt HC.out
  have bw := bw.trans (below_of_grown wt.grown (by have := z1.out; omega) (Nat.le_of_lt hc.lt))
  have hc := wt.cur
  clear wt
  go_wp2_with fail
  refine (pick_any w1.heap.size a0 l0 c0 z0 [0, 0, 1, 2, 3, 9] _ _ w4 hc rfl rfl (by simp) (by simp)).mono ?_
  rintro e w5 ⟨tag, htag, rfl, wt⟩
  have htag : 0 ≤ tag ∧ tag ≤ 9 := by simp at htag; omega
  have kR := kept_grown kR wt.grown (by intro k e; cases e; have := z1.out; omega)
  have t := t.wentBy wt HC.out
  have bw := bw.trans (below_of_grown wt.grown (by have := z1.out; omega) (Nat.le_of_lt hc.lt))
  have hc := wt.cur
  clear wt
  obtain ⟨⟨g0, g1⟩, f0, f1⟩ := cells2 kR
  have HO := hide ((t.boxed kR (.slice a n c) (.slice o p q)).lt (base' := w.heap.size) (Nat.le_trans (Nat.le_of_lt z1.out) (Nat.le_of_lt HC.out)))
  have HB := hide (below_set (below_set bw (Nat.le_refl _) 0 (.slice a n c)) (Nat.le_refl _) 1 (.slice o p q))
  clear t hc
  go_wp2
  exact bodyPost_ret (v := .tuple #[.agg #[.slice a n c, .slice o p q], .int .i64 port, .int .i64 tag]) (by simp [results, Try.results28, go_sem, *]) rfl ⟨_, _, _, _, _, _, _, _, port, tag, rfl, HO.out, HF.out, hp1, hp4, hport, htag, HB.out⟩

set_option maxRecDepth 100000 in
set_option maxHeartbeats 1000000 in
theorem drawShownTag_any (a0 : Option Addr) (l0 c0 : Nat) (z0 : List Int) (w : World) (h0 : Row w a0 l0 c0 z0) (hs : l0 ≤ 1048576) :
    Calls Try.prog 31 #[.slice a0 l0 c0] w fun e w' => ∃ a n c o p q v pp, ∃ id port : Int, e = .returned (.tuple #[.agg #[.slice a n c, .slice o p q], .int .i64 id, .int .i64 port]) ∧ VOwn w' w.heap.size a n c o p q v ∧ Fine v pp 13 ∧ 1 ≤ pp ∧ pp ≤ 4 ∧ (0 ≤ id ∧ id ≤ 9) ∧ (-1 ≤ port ∧ port ≤ 9) ∧ Below w.heap.size w w' := by
  generalize hw1 : w.alloc (Obj.cells #[Value.slice none 0 0, Value.slice none 0 0] 27) = w1
  have b01 : Below w.heap.size w w1 := by subst hw1; exact below_one _ _
  have kR : w1.heap[w.heap.size]? = some (.cells #[.slice none 0 0, .slice none 0 0] 27) := by rw [← hw1]; exact block_last _ _
  have z1 : Hid (w.heap.size < w1.heap.size) := hide (by rw [← hw1]; simp)
  go_enter Try.func31, Try.ntmps31
  go_wp2_with fail
  refine (new_any a0 l0 c0 z0 _ (h0.below b01) hs).mono ?_
  rintro e w2 ⟨rfl, hc, hb2⟩
  have hC : w1.heap.size < w2.heap.size := hc.lt
  have kR := kept_block kR hb2
  have bw := gr_trans b01 hb2
  have HC := hide hC
  clear hC hb2
  go_wp2_with fail
  refine (l9Tab_any w1.heap.size a0 l0 c0 z0 _ hc).mono ?_
  rintro e w3 ⟨a, n, c, o, p, q, v, pp, rfl, t, hF, hp1, hp4, wt⟩
  have kR := kept_grown kR wt.grown (by intro k e; cases e; have := z1.out; omega)
  have bw := bw.trans (below_of_grown wt.grown (by have := z1.out; omega) (Nat.le_of_lt HC.out))
  have hc := wt.cur
  have hC3 : w1.heap.size < w3.heap.size := hc.lt
  have HF := hide hF
  clear wt hF hC3
  go_wp2_with fail
  refine (pick_any w1.heap.size a0 l0 c0 z0 [1, 2, 3, 9] _ _ w3 hc rfl rfl (by simp) (by simp)).mono ?_
  rintro e w4 ⟨id, hid, rfl, wt⟩
  have hid : 0 ≤ id ∧ id ≤ 9 := by simp at hid; omega
  have kR := kept_grown kR wt.grown (by intro k e; cases e; have := z1.out; omega)
  have t := t.wentBy wt HC.out
  have bw := bw.trans (below_of_grown wt.grown (by have := z1.out; omega) (Nat.le_of_lt hc.lt))
  have hc := wt.cur
  clear wt
  go_wp2_with fail
  refine (pick_any w1.heap.size a0 l0 c0 z0 [0, 1, 2, 3, -1, 9] _ _ w4 hc rfl rfl (by simp) (by simp)).mono ?_
  rintro e w5 ⟨port, hport, rfl, wt⟩
  have hport : -1 ≤ port ∧ port ≤ 9 := by simp at hport; omega
  have kR := kept_grown kR wt.grown (by intro k e; cases e; have := z1.out; omega)
  have t := t.wentBy wt HC.out
  have bw := bw.trans (below_of_grown wt.grown (by have := z1.out; omega) (Nat.le_of_lt hc.lt))
  have hc := wt.cur
  clear wt
  obtain ⟨⟨g0, g1⟩, f0, f1⟩ := cells2 kR
  have HO := hide ((t.boxed kR (.slice a n c) (.slice o p q)).lt (base' := w.heap.size) (Nat.le_trans (Nat.le_of_lt z1.out) (Nat.le_of_lt HC.out)))
  have HB := hide (below_set (below_set bw (Nat.le_refl _) 0 (.slice a n c)) (Nat.le_refl _) 1 (.slice o p q))
  clear t hc
  go_wp2
  exact bodyPost_ret (v := .tuple #[.agg #[.slice a n c, .slice o p q], .int .i64 id, .int .i64 port]) (by simp [results, Try.results31, go_sem, *]) rfl ⟨_, _, _, _, _, _, _, _, id, port, rfl, HO.out, HF.out, hp1, hp4, hid, hport, HB.out⟩

set_option maxRecDepth 100000 in
set_option maxHeartbeats 1000000 in
theorem drawSetPvid_any (a0 : Option Addr) (l0 c0 : Nat) (z0 : List Int) (w : World) (h0 : Row w a0 l0 c0 z0) (hs : l0 ≤ 1048576) :
    Calls Try.prog 23 #[.slice a0 l0 c0] w fun e w' => ∃ a n c o p q v pp, ∃ port id : Int, e = .returned (.tuple #[.agg #[.slice a n c, .slice o p q], .int .i64 port, .int .i64 id]) ∧ VOwn w' w.heap.size a n c o p q v ∧ Fine v pp 13 ∧ 1 ≤ pp ∧ pp ≤ 4 ∧ (-1 ≤ port ∧ port ≤ 6) ∧ (0 ≤ id ∧ id ≤ 9) ∧ Below w.heap.size w w' := by
  generalize hw1 : w.alloc (Obj.cells #[Value.slice none 0 0, Value.slice none 0 0] 27) = w1
  have b01 : Below w.heap.size w w1 := by subst hw1; exact below_one _ _
  have kR : w1.heap[w.heap.size]? = some (.cells #[.slice none 0 0, .slice none 0 0] 27) := by rw [← hw1]; exact block_last _ _
  have z1 : Hid (w.heap.size < w1.heap.size) := hide (by rw [← hw1]; simp)
  go_enter Try.func23, Try.ntmps23
  go_wp2_with fail
  refine (new_any a0 l0 c0 z0 _ (h0.below b01) hs).mono ?_
  rintro e w2 ⟨rfl, hc, hb2⟩
  have hC : w1.heap.size < w2.heap.size := hc.lt
  have kR := kept_block kR hb2
  have bw := gr_trans b01 hb2
  have HC := hide hC
  clear hC hb2
  go_wp2_with fail
  refine (l9Tab_any w1.heap.size a0 l0 c0 z0 _ hc).mono ?_
  rintro e w3 ⟨a, n, c, o, p, q, v, pp, rfl, t, hF, hp1, hp4, wt⟩
  have kR := kept_grown kR wt.grown (by intro k e; cases e; have := z1.out; omega)
  have bw := bw.trans (below_of_grown wt.grown (by have := z1.out; omega) (Nat.le_of_lt HC.out))
  have hc := wt.cur
  have hC3 : w1.heap.size < w3.heap.size := hc.lt
  have HF := hide hF
  clear wt hF hC3
  go_wp2_with fail
  refine (pick_any w1.heap.size a0 l0 c0 z0 [0, 1, 2, -1, 6] _ _ w3 hc rfl rfl (by simp) (by simp)).mono ?_
  rintro e w4 ⟨port, hport, rfl, wt⟩
  have hport : -1 ≤ port ∧ port ≤ 6 := by simp at hport; omega
  have kR := kept_grown kR wt.grown (by intro k e; cases e; have := z1.out; omega)
  have t := t.wentBy wt HC.out
  have bw := bw.trans (below_of_grown wt.grown (by have := z1.out; omega) (Nat.le_of_lt hc.lt))
  have hc := wt.cur
  clear wt
  go_wp2_with fail
  refine (pick_any w1.heap.size a0 l0 c0 z0 [1, 2, 3, 9] _ _ w4 hc rfl rfl (by simp) (by simp)).mono ?_
  rintro e w5 ⟨id, hid, rfl, wt⟩
  have hid : 0 ≤ id ∧ id ≤ 9 := by simp at hid; omega
  have kR := kept_grown kR wt.grown (by intro k e; cases e; have := z1.out; omega)
  have t := t.wentBy wt HC.out
  have bw := bw.trans (below_of_grown wt.grown (by have := z1.out; omega) (Nat.le_of_lt hc.lt))
  have hc := wt.cur
  clear wt
  obtain ⟨⟨g0, g1⟩, f0, f1⟩ := cells2 kR
  have HO := hide ((t.boxed kR (.slice a n c) (.slice o p q)).lt (base' := w.heap.size) (Nat.le_trans (Nat.le_of_lt z1.out) (Nat.le_of_lt HC.out)))
  have HB := hide (below_set (below_set bw (Nat.le_refl _) 0 (.slice a n c)) (Nat.le_refl _) 1 (.slice o p q))
  clear t hc
  go_wp2
  exact bodyPost_ret (v := .tuple #[.agg #[.slice a n c, .slice o p q], .int .i64 port, .int .i64 id]) (by simp [results, Try.results23, go_sem, *]) rfl ⟨_, _, _, _, _, _, _, _, port, id, rfl, HO.out, HF.out, hp1, hp4, hport, hid, HB.out⟩

set_option maxRecDepth 100000 in
set_option maxHeartbeats 1000000 in
theorem drawDropRow_any (a0 : Option Addr) (l0 c0 : Nat) (z0 : List Int) (w : World) (h0 : Row w a0 l0 c0 z0) (hs : l0 ≤ 1048576) :
    Calls Try.prog 21 #[.slice a0 l0 c0] w fun e w' => ∃ a n c o p q v pp, ∃ id : Int, e = .returned (.tuple #[.agg #[.slice a n c, .slice o p q], .int .i64 id]) ∧ VOwn w' w.heap.size a n c o p q v ∧ Fine v pp 13 ∧ 1 ≤ pp ∧ pp ≤ 4 ∧ (0 ≤ id ∧ id ≤ 9) ∧ Below w.heap.size w w' := by
  generalize hw1 : w.alloc (Obj.cells #[Value.slice none 0 0, Value.slice none 0 0] 27) = w1
  have b01 : Below w.heap.size w w1 := by subst hw1; exact below_one _ _
  have kR : w1.heap[w.heap.size]? = some (.cells #[.slice none 0 0, .slice none 0 0] 27) := by rw [← hw1]; exact block_last _ _
  have z1 : Hid (w.heap.size < w1.heap.size) := hide (by rw [← hw1]; simp)
  go_enter Try.func21, Try.ntmps21
  go_wp2_with fail
  refine (drawRowAt_any a0 l0 c0 z0 _ (h0.below b01) hs).mono ?_
  rintro e w3 ⟨a, n, c, o, p, q, v, pp, id, rfl, t, hF, hp1, hp4, hid, hb⟩
  have kR := kept_block kR hb
  have bw := gr_trans b01 hb
  have HF := hide hF
  clear hF hb
  obtain ⟨⟨g0, g1⟩, f0, f1⟩ := cells2 kR
  have HO := hide ((t.boxed kR (.slice a n c) (.slice o p q)).lt (base' := w.heap.size) (Nat.le_of_lt z1.out))
  have HB := hide (below_set (below_set bw (Nat.le_refl _) 0 (.slice a n c)) (Nat.le_refl _) 1 (.slice o p q))
  clear t
  go_wp2
  exact bodyPost_ret (v := .tuple #[.agg #[.slice a n c, .slice o p q], .int .i64 id]) (by simp [results, Try.results21, go_sem, *]) rfl ⟨_, _, _, _, _, _, _, _, _, rfl, HO.out, HF.out, hp1, hp4, hid, HB.out⟩

set_option maxRecDepth 100000 in
set_option maxHeartbeats 1000000 in
theorem drawEgressOf_any (a0 : Option Addr) (l0 c0 : Nat) (z0 : List Int) (w : World) (h0 : Row w a0 l0 c0 z0) (hs : l0 ≤ 1048576) :
    Calls Try.prog 32 #[.slice a0 l0 c0] w fun e w' => ∃ a n c o p q v pp, ∃ id : Int, e = .returned (.tuple #[.agg #[.slice a n c, .slice o p q], .int .i64 id]) ∧ VOwn w' w.heap.size a n c o p q v ∧ Fine v pp 13 ∧ 1 ≤ pp ∧ pp ≤ 4 ∧ (0 ≤ id ∧ id ≤ 9) ∧ Below w.heap.size w w' := by
  generalize hw1 : w.alloc (Obj.cells #[Value.slice none 0 0, Value.slice none 0 0] 27) = w1
  have b01 : Below w.heap.size w w1 := by subst hw1; exact below_one _ _
  have kR : w1.heap[w.heap.size]? = some (.cells #[.slice none 0 0, .slice none 0 0] 27) := by rw [← hw1]; exact block_last _ _
  have z1 : Hid (w.heap.size < w1.heap.size) := hide (by rw [← hw1]; simp)
  go_enter Try.func32, Try.ntmps32
  go_wp2_with fail
  refine (drawRowAt_any a0 l0 c0 z0 _ (h0.below b01) hs).mono ?_
  rintro e w3 ⟨a, n, c, o, p, q, v, pp, id, rfl, t, hF, hp1, hp4, hid, hb⟩
  have kR := kept_block kR hb
  have bw := gr_trans b01 hb
  have HF := hide hF
  clear hF hb
  obtain ⟨⟨g0, g1⟩, f0, f1⟩ := cells2 kR
  have HO := hide ((t.boxed kR (.slice a n c) (.slice o p q)).lt (base' := w.heap.size) (Nat.le_of_lt z1.out))
  have HB := hide (below_set (below_set bw (Nat.le_refl _) 0 (.slice a n c)) (Nat.le_refl _) 1 (.slice o p q))
  clear t
  go_wp2
  exact bodyPost_ret (v := .tuple #[.agg #[.slice a n c, .slice o p q], .int .i64 id]) (by simp [results, Try.results32, go_sem, *]) rfl ⟨_, _, _, _, _, _, _, _, _, rfl, HO.out, HF.out, hp1, hp4, hid, HB.out⟩

/-- While a table and a row are handed out. -/
structure DT (w wr : World) (R1 X Y B : Nat) (a : Option Addr) (n c : Nat) (o : Option Addr) (p q : Nat) (v : VT) (r : VR) (x0 x1 y0 y1 y2 : Value) : Prop where
  kX : wr.heap[X]? = some (.cells #[.slice a n c, .slice o p q] 27)
  kY : wr.heap[Y]? = some (.cells #[.int .i64 r.i, .int .i64 r.m, .int .i64 r.b] 29)
  kR : wr.heap[w.heap.size]? = some (.cells #[x0, x1] 27)
  kS : wr.heap[R1]? = some (.cells #[y0, y1, y2] 29)
  own : VOwn wr B a n c o p q v
  bw : Below w.heap.size w wr
  hB : w.heap.size ≤ B
  hR : w.heap.size < R1
  hX : R1 < X
  hY : R1 < Y

theorem DT.out1 {w wr : World} {R1 X Y B : Nat} {a : Option Addr} {n c : Nat} {o : Option Addr} {p q : Nat} {v : VT} {r : VR} {x0 x1 y0 y1 y2 : Value} (h : DT w wr R1 X Y B a n c o p q v r x0 x1 y0 y1 y2) : DT w ((wr.setCell ⟨w.heap.size, 0, none⟩ (.slice a n c)).setCell ⟨w.heap.size, 1, none⟩ (.slice o p q)) R1 X Y B a n c o p q v r (.slice a n c) (.slice o p q) y0 y1 y2 := by
  have h1 := h.hR
  have h2 := h.hX
  have h3 := h.hY
  exact ⟨kept_set (kept_set h.kX (by omega)) (by omega), kept_set (kept_set h.kY (by omega)) (by omega), boxed2 h.kR _ _, kept_set (kept_set h.kS (by omega)) (by omega), h.own.boxed h.kR _ _, below_set (below_set h.bw (Nat.le_refl _) _ _) (Nat.le_refl _) _ _, h.hB, h1, h2, h3⟩

theorem own_vrow {w : World} {base : Nat} {a : Option Addr} {n c : Nat} {o : Option Addr} {p q : Nat} {v : VT} (h : VOwn w base a n c o p q v) {Y : Nat} (hY : Y < base) (u0 u1 u2 : Value) : VOwn (((w.setCell ⟨Y, 0, none⟩ u0).setCell ⟨Y, 1, none⟩ u1).setCell ⟨Y, 2, none⟩ u2) base a n c o p q v := by
  have hl : ∀ b, Option.some Y = Option.some b → b < base := by intro b hb; cases hb; exact hY
  have g : w.grownBy (((w.setCell ⟨Y, 0, none⟩ u0).setCell ⟨Y, 1, none⟩ u1).setCell ⟨Y, 2, none⟩ u2) (Option.some Y) := grownTr (grownTr (grown_set _ _) (grown_set _ _)) (grown_set _ _)
  exact ⟨gown_apart h.rows g hl, gown_apart h.own g hl, h.i64⟩

theorem boxed3 {w : World} {X : Nat} {x y z : Value} {T : TypeId} (hX : w.heap[X]? = some (.cells #[x, y, z] T)) (u0 u1 u2 : Value) : (((w.setCell ⟨X, 0, none⟩ u0).setCell ⟨X, 1, none⟩ u1).setCell ⟨X, 2, none⟩ u2).heap[X]? = some (.cells #[u0, u1, u2] T) :=
  set_block5 (j := 2) (set_block5 (j := 1) (set_block5 (j := 0) hX u0) u1) u2

end Go.Proofs.Ytafonmfgeecopaa
