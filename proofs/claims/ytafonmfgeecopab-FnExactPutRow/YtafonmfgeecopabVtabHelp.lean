/-
  The law file's own helpers on tables by their contracts: a copy, whether two are the same, their size, the marks that are put and read again.
-/
import Derived.Test.YtafonmfgeecopabVrowHelp
import Derived.Test.YtafonmfgeecopabVtabSet
import Derived.Test.YtafonmfgeecopabVtabRowM
namespace Go.Proofs.Ytafonmfgeecopab
open Go.RowKit

/-- Nothing turned but blocks from B on and below E, and what is new. -/
structure Between (B E : Nat) (w w' : World) : Prop where
  below : Below B w w'
  block : ∀ i, i < w.heap.size → E ≤ i → w'.heap[i]? = w.heap[i]?

theorem Between.of_below {B E : Nat} {w w' : World} (h : Below w.heap.size w w') (hB : B ≤ w.heap.size) : Between B E w w' := ⟨h.mono hB, fun i hi _ => h.block i hi⟩

theorem Between.of_grown {B E : Nat} {w w' : World} {row : Option Nat} (h : w.grownBy w' row) (hB : B ≤ w.heap.size) (hr : ∀ k, row = some k → B ≤ k ∧ k < E) : Between B E w w' :=
  ⟨(Below.refl _ _).grown h hB (fun k hk => (hr k hk).1), fun i hi hE => h.block i hi (fun e => by have := hr i e.symm; omega)⟩

theorem Between.trans {B E : Nat} {w w1 w2 : World} (h : Between B E w w1) (k : Between B E w1 w2) : Between B E w w2 :=
  ⟨h.below.trans k.below, fun i hi hE => (k.block i (Nat.lt_of_lt_of_le hi h.below.size) hE).trans (h.block i hi hE)⟩

theorem Between.own {B E : Nat} {w w' : World} (h : Between B E w w') {base k : Nat} {e : TypeId} {v : Value} {n : Nat} {xs : List Value} (ho : w.ownsRow base e k v n xs) (hE : E ≤ base) : w'.ownsRow base e k v n xs := by
  have hlt := ho.lt
  obtain ⟨hl, ho | ⟨g, cap, cur, rfl, hg, hh, h1, h2, h3, h4⟩⟩ := ho
  · exact ⟨hl, .inl ho⟩
  · refine ⟨hl, .inr ⟨g, cap, cur, rfl, hg, ?_, h1, h2, h3, h4⟩⟩
    rw [h.block g (hlt g rfl).2 (by omega)]
    exact hh

theorem VOwn.between {w w' : World} {base : Nat} {a : Option Addr} {n c : Nat} {o : Option Addr} {p q : Nat} {v : VT} (h : VOwn w base a n c o p q v) {B E : Nat} (hb : Between B E w w') (hE : E ≤ base) : VOwn w' base a n c o p q v :=
  ⟨hb.own h.rows hE, hb.own h.own hE, h.i64⟩

set_option maxRecDepth 100000 in
set_option maxHeartbeats 1000000 in
theorem toVtab_made (a : Option Addr) (n c : Nat) (o : Option Addr) (p q : Nat) (v : VT) (w : World) (h : VTab w a n c o p q v) (hn : n ≤ 1048576) (hp : p ≤ 1048576) :
    Calls Try.prog 9 #[.agg #[.slice a n c, .slice o p q]] w fun e w' => ∃ a' c' o' q', e = .returned (.agg #[.slice a' n c', .slice o' p q']) ∧ VOwn w' w.heap.size a' n c' o' p q' v ∧ Below w.heap.size w w' := by
  generalize hw1 : w.alloc (Obj.cells #[Value.slice a n c, Value.slice o p q] 25) = w1
  generalize hw2 : w1.alloc (Obj.cells #[Value.slice none 0 0, Value.slice none 0 0] 30) = w2
  generalize hw3 : w2.alloc (Obj.cells #[Value.slice none 0 0, Value.slice none 0 0] 30) = w3
  have b01 : Below w.heap.size w w1 := by subst hw1; exact below_one _ _
  have b12 : Below w1.heap.size w1 w2 := by subst hw2; exact below_one _ _
  have b23 : Below w2.heap.size w2 w3 := by subst hw3; exact below_one _ _
  have b02 := gr_trans b01 b12
  have b03 := gr_trans b02 b23
  have b13 := gr_trans b12 b23
  have k1 : w2.heap[w1.heap.size]? = some (.cells #[.slice none 0 0, .slice none 0 0] 30) := by rw [← hw2]; exact block_last _ _
  have k2 : w3.heap[w2.heap.size]? = some (.cells #[.slice none 0 0, .slice none 0 0] 30) := by rw [← hw3]; exact block_last _ _
  have z2 : w1.heap.size < w2.heap.size := by rw [← hw2]; simp
  have z3 : w2.heap.size < w3.heap.size := by rw [← hw3]; simp
  have Z2 := hide z2
  have Z3 := hide z3
  clear z2 z3
  obtain ⟨x0, x1⟩ := box_two hw1 b13
  go_enter Try.func9, Try.ntmps9
  go_wp2_with fail
  refine (toVrows_made a n c v.rows _ (h.rows.below b03) hn).mono ?_
  rintro e w4 ⟨a4, c4, rfl, hR, -, hb4⟩
  have k4 := kept_block k2 hb4
  obtain ⟨⟨g0, g1⟩, f0, f1⟩ := cells2 k4
  generalize hw5 : w4.setCell ⟨w2.heap.size, 0, none⟩ (.slice a4 n c4) = w5
  have b45 : Below w2.heap.size w4 w5 := by subst hw5; exact below_set (Below.refl _ _) (Nat.le_refl _) _ _
  have b25 : Below w2.heap.size w2 w5 := (gr_trans b23 hb4).trans b45
  have b15 := gr_trans b12 b25
  have b05 := gr_trans b02 b25
  have hR5 : w5.ownsRow w3.heap.size 38 3 (.slice a4 n c4) n (vrowF.all v.rows) := by
    rw [← hw5]
    exact gown_apart hR (grown_set (rb := w2.heap.size) 0 _) (by intro b hb; cases hb; exact Z3.out)
  have k5 : w5.heap[w2.heap.size]? = some (.cells #[.slice a4 n c4, .slice none 0 0] 30) := by
    have := set_block5 (j := 0) k4 (.slice a4 n c4)
    rw [hw5] at this
    exact this
  have s35 : Hid (w3.heap.size ≤ w5.heap.size) := hide (by have := hb4.size; have := b45.size; omega)
  obtain ⟨y0, y1⟩ := box_two hw1 b15
  clear hR x0 x1
  go_wp2_with fail
  clear g0 g1 f0 f1
  refine (copyI_made o p q v.own _ (h.own.below b05) (by omega)).mono ?_
  rintro e w6 ⟨a6, c6, rfl, hI, -, hb6⟩
  have k6 := kept_block k5 hb6
  obtain ⟨⟨g0, g1⟩, f0, f1⟩ := cells2 k6
  generalize hw7 : w6.setCell ⟨w2.heap.size, 1, none⟩ (.slice a6 p c6) = w7
  have b67 : Below w2.heap.size w6 w7 := by subst hw7; exact below_set (Below.refl _ _) (Nat.le_refl _) _ _
  have b27 : Below w2.heap.size w2 w7 := (b25.trans (hb6.mono b25.size)).trans b67
  have b07 := gr_trans b02 b27
  have hR7 : w7.ownsRow w3.heap.size 38 3 (.slice a4 n c4) n (vrowF.all v.rows) := by
    rw [← hw7]
    exact gown_apart (gown_below hR5 hb6) (grown_set (rb := w2.heap.size) 1 _) (by intro b hb; cases hb; exact Z3.out)
  have hI7 : w7.ownsRow w3.heap.size 3 1 (.slice a6 p c6) p (cI v.own) := by
    rw [← hw7]
    exact gown_apart (gown_lt hI s35.out) (grown_set (rb := w2.heap.size) 1 _) (by intro b hb; cases hb; exact Z3.out)
  have k7 : w7.heap[w2.heap.size]? = some (.cells #[.slice a4 n c4, .slice a6 p c6] 30) := by
    have := set_block5 (j := 1) k6 (.slice a6 p c6)
    rw [hw7] at this
    exact this
  have k71 := kept_block k1 b27
  clear hI hR5 y0 y1
  obtain ⟨⟨u0, u1⟩, -⟩ := cells2 k7
  obtain ⟨⟨t0, t1⟩, e0, e1⟩ := cells2 k71
  have hV : VOwn w7 w3.heap.size a4 n c4 a6 p c6 v := ⟨hR7, hI7, h.own.byte⟩
  have HO := hide ((hV.set2 (g := w1.heap.size) (Nat.lt_trans Z2.out Z3.out) (.slice a4 n c4) (.slice a6 p c6)).lt (base' := w.heap.size) b03.size)
  have HB := hide (below_set (below_set b07 b01.size 0 (.slice a4 n c4)) b01.size 1 (.slice a6 p c6))
  clear hV hR7 hI7
  go_wp2
  exact bodyPost_ret (v := .agg #[.slice a4 n c4, .slice a6 p c6]) (by simp [results, Try.results9, go_sem, *]) rfl ⟨_, _, _, _, rfl, HO.out, HB.out⟩

set_option maxRecDepth 100000 in
set_option maxHeartbeats 1000000 in
theorem eqVtab_same (a : Option Addr) (n c : Nat) (o : Option Addr) (p q : Nat) (a2 : Option Addr) (n2 c2 : Nat) (o2 : Option Addr) (p2 q2 : Nat) (v : VT) (w : World) (h : VTab w a n c o p q v) (h2 : VTab w a2 n2 c2 o2 p2 q2 v) :
    Calls Try.prog 11 #[.agg #[.slice a n c, .slice o p q], .agg #[.slice a2 n2 c2, .slice o2 p2 q2]] w fun e w' => e = .returned (.bool true) ∧ Below w.heap.size w w' := by
  generalize hw1 : w.alloc (Obj.cells #[Value.slice a n c, Value.slice o p q] 30) = w1
  generalize hw2 : w1.alloc (Obj.cells #[Value.slice a2 n2 c2, Value.slice o2 p2 q2] 30) = w2
  have b01 : Below w.heap.size w w1 := by subst hw1; exact below_one _ _
  have b12 : Below w1.heap.size w1 w2 := by subst hw2; exact below_one _ _
  have b02 := gr_trans b01 b12
  obtain ⟨x0, x1⟩ := box_two hw1 b12
  obtain ⟨x2, x3⟩ := box_two hw2 (Below.refl _ w2)
  go_enter Try.func11, Try.ntmps11
  go_wp2_with fail
  refine (eqVrows_same a n c a2 n2 c2 v.rows _ (h.rows.below b02) (h2.rows.below b02)).mono ?_
  rintro e w3 ⟨rfl, hb3⟩
  obtain ⟨y0, y1⟩ := box_two hw1 (gr_trans b12 hb3)
  obtain ⟨y2, y3⟩ := box_two hw2 hb3
  have b03 := gr_trans b02 hb3
  clear x0 x1 x2 x3
  go_wp2_with fail
  refine (eqI_same o p q o2 p2 q2 v.own _ (h.own.below b03) (h2.own.below b03)).mono ?_
  rintro e w4 ⟨rfl, m, rfl⟩
  have HB := hide (gr_drewN b03 m)
  clear y0 y1 y2 y3
  go_wp2
  go_ret
  exact ⟨rfl, HB.out⟩

set_option maxRecDepth 100000 in
set_option maxHeartbeats 1000000 in
theorem szVtab_any (a : Option Addr) (n c : Nat) (o : Option Addr) (p q : Nat) (w : World) (hl : n ≤ maxLen) (hl2 : p ≤ maxLen) :
    Calls Try.prog 7 #[.agg #[.slice a n c, .slice o p q], .int .i64 1048576] w fun e w' => e = .returned (.int .i64 (if (n : Int) + (p : Int) ≤ 1048576 then 1048576 - n - p else -1)) ∧ Below w.heap.size w w' := by
  generalize hw1 : w.alloc (Obj.cells #[Value.slice a n c, Value.slice o p q] 25) = w1
  have b01 : Below w.heap.size w w1 := by subst hw1; exact below_one _ _
  obtain ⟨x0, x1⟩ := box_two hw1 (Below.refl _ w1)
  generalize hV : (if (n : Int) + (p : Int) ≤ 1048576 then (1048576 : Int) - n - p else -1) = V
  have HV := hide hV
  clear hV
  go_enter Try.func7, Try.ntmps7
  go_wp2_with fail
  refine (szVrows_any a n c 1048576 _ hl (by omega) (by omega)).mono ?_
  rintro e w2 ⟨rfl, e2⟩
  obtain rfl := e2.symm
  by_cases h1 : (n : Int) ≤ 1048576
  · rw [if_pos h1]
    have j1 : ¬ ((1048576 : Int) - (n : Int) < 0) := by omega
    go_wp2_with fail
    refine (szInts9_any o p q (1048576 - n) _ hl2 (by omega) (by omega)).mono ?_
    rintro e w2 ⟨rfl, e2⟩
    obtain rfl := e2.symm
    by_cases h2 : (p : Int) ≤ 1048576 - n
    · rw [if_pos h2]
      have j2 : ¬ ((1048576 : Int) - (n : Int) - (p : Int) < 0) := by omega
      have HE : Hid (V = (1048576 : Int) - n - p) := hide (by rw [← HV.out, if_pos (by omega)])
      go_wp2
      go_ret
      exact ⟨(by rw [HE.out]; rfl), b01⟩
    · rw [if_neg h2]
      have HE : Hid (V = -1) := hide (by rw [← HV.out, if_neg (by omega)])
      go_wp2
      go_ret
      exact ⟨(by rw [HE.out]; rfl), b01⟩
  · rw [if_neg h1]
    have HE : Hid (V = -1) := hide (by rw [← HV.out, if_neg (by omega)])
    go_wp2
    go_ret
    exact ⟨(by rw [HE.out]; rfl), b01⟩

/-- The marks of a table. -/
def markT (k : Int) (n p : Nat) : VT := ⟨markRs k n, marksI (k + 3 * n) p⟩

set_option maxRecDepth 100000 in
set_option maxHeartbeats 1000000 in
theorem markVtab_made (B E : Nat) (a : Option Addr) (n c : Nat) (o : Option Addr) (p q : Nat) (v : VT) (w : World) (h : VOwn w B a n c o p q v) (hB : B ≤ w.heap.size) (hE1 : ∀ k, (Value.slice a n c).ownBlock = some k → k < E) (hE2 : ∀ k, (Value.slice o p q).ownBlock = some k → k < E) (hn : n ≤ 16777216) (hp : p ≤ 16777216) :
    Calls Try.prog 15 #[.agg #[.slice a n c, .slice o p q], .int .i64 1] w fun e w' => e = .returned (.int .i64 (1 + 3 * n + p)) ∧ VOwn w' B a n c o p q (markT 1 n p) ∧ Between B E w w' := by
  have l1 := h.rows.lt
  have l2 := h.own.lt
  generalize hw1 : w.alloc (Obj.cells #[Value.slice a n c, Value.slice o p q] 30) = w1
  have b01 : Below w.heap.size w w1 := by subst hw1; exact below_one _ _
  have kb : w1.heap[w.heap.size]? = some (.cells #[.slice a n c, .slice o p q] 30) := by rw [← hw1]; exact block_last _ _
  obtain ⟨⟨x0, x1⟩, -⟩ := cells2 kb
  have h1 := h.below b01
  have bt1 : Between B E w w1 := Between.of_below b01 hB
  go_enter Try.func15, Try.ntmps15
  go_wp2_with fail
  refine (markVrows_grown B a n c v.rows 1 _ h1.rows hn (by omega) (by omega)).mono ?_
  rintro e w2 ⟨rfl, hR, hg⟩
  have bt2 := bt1.trans (Between.of_grown hg (Nat.le_trans hB b01.size) (fun k hk => ⟨(l1 k hk).1, hE1 k hk⟩))
  have hI := gown_type h1.own h1.rows (by decide) hg
  have kb2 := kept_grown kb hg (fun k hk => by have := (l1 k hk).2; omega)
  obtain ⟨⟨y0, y1⟩, -⟩ := cells2 kb2
  clear x0 x1 hg
  go_wp2_with fail
  refine (markI_grown B o p q v.own (1 + 3 * n) _ hI hp (by omega) (by omega)).mono ?_
  rintro e w3 ⟨rfl, hI3, hg⟩
  have bt3 := bt2.trans (Between.of_grown hg (Nat.le_trans hB bt2.below.size) (fun k hk => ⟨(l2 k hk).1, hE2 k hk⟩))
  have hR3 := gown_type hR hI (by decide) hg
  have HO : Hid (VOwn w3 B a n c o p q (markT 1 n p)) := hide ⟨hR3, hI3, marksI_byte _ _ (by omega) (by omega) hp⟩
  have HT := hide bt3
  clear hR hI hR3 hI3 hg y0 y1 bt2 bt3
  go_wp2
  go_ret
  exact ⟨rfl, HO.out, HT.out⟩

set_option maxRecDepth 100000 in
set_option maxHeartbeats 1000000 in
theorem heldVtab_any (a : Option Addr) (n c : Nat) (o : Option Addr) (p q : Nat) (w : World) (h : VTab w a n c o p q (markT 1 n p)) (hn : n ≤ 16777216) (hp : p ≤ 16777216) :
    Calls Try.prog 16 #[.agg #[.slice a n c, .slice o p q], .int .i64 1] w fun e w' => e = .returned (.int .i64 (1 + 3 * n + p)) ∧ Below w.heap.size w w' := by
  generalize hw1 : w.alloc (Obj.cells #[Value.slice a n c, Value.slice o p q] 30) = w1
  have b01 : Below w.heap.size w w1 := by subst hw1; exact below_one _ _
  obtain ⟨x0, x1⟩ := box_two hw1 (Below.refl _ w1)
  have j1 : ¬ ((1 : Int) + 3 * (n : Int) < 0) := by omega
  have j2 : ¬ ((1 : Int) + 3 * (n : Int) + (p : Int) < 0) := by omega
  go_enter Try.func16, Try.ntmps16
  go_wp2_with fail
  refine (heldVrows_any a n c 1 _ (h.rows.below b01) hn (by omega) (by omega)).mono ?_
  rintro e w2 ⟨rfl, hb2⟩
  obtain ⟨y0, y1⟩ := box_two hw1 hb2
  have b02 := gr_trans b01 hb2
  clear x0 x1 hb2
  go_wp2_with fail
  refine (heldI_any o p q (1 + 3 * n) _ (h.own.below b02) hp (by omega) (by omega)).mono ?_
  rintro e w3 ⟨rfl, e3⟩
  obtain rfl := e3.symm
  have HB := hide b02
  clear y0 y1 b02
  go_wp2
  go_ret
  exact ⟨rfl, HB.out⟩

end Go.Proofs.Ytafonmfgeecopab
