/-
  Packed: VtabCopy VtabOr VtabSet VtabRowM BrOwn VtabHelp VlanOk VlanTab.
-/
import Derived.Test.YtfefhilolhdonaaPK01
import Derived.Test.YtfefhilolhdonaaPVtabOkS
namespace Go.Proofs.Ytfefhilolhdonaa
open Go.RowKit

structure VOwn (w : World) (base : Nat) (a : Option Addr) (n c : Nat) (o : Option Addr) (p q : Nat) (v : VT) : Prop where
 rows : w.ownsRow base 71 3 (.slice a n c) n (vrowF.all v.rows)
 own : w.ownsRow base 3 1 (.slice o p q) p (cI v.own)
 i64 : I64s v.own

theorem VOwn.tab {w : World} {base : Nat} {a : Option Addr} {n c : Nat} {o : Option Addr} {p q : Nat} {v : VT} (h : VOwn w base a n c o p q v) : VTab w a n c o p q v := ⟨grow_own (F := vrowF) h.rows, irow_own h.own h.i64⟩

theorem VOwn.below {w w' : World} {base : Nat} {a : Option Addr} {n c : Nat} {o : Option Addr} {p q : Nat} {v : VT} (h : VOwn w base a n c o p q v) (hb : Below w.heap.size w w') : VOwn w' base a n c o p q v :=
 ⟨gown_below h.rows hb, gown_below h.own hb, h.i64⟩

theorem VOwn.lt {w : World} {base base' : Nat} {a : Option Addr} {n c : Nat} {o : Option Addr} {p q : Nat} {v : VT} (h : VOwn w base a n c o p q v) (hle : base' ≤ base) : VOwn w base' a n c o p q v :=
 ⟨gown_lt h.rows hle, gown_lt h.own hle, h.i64⟩

theorem VOwn.set2 {w : World} {base : Nat} {a : Option Addr} {n c : Nat} {o : Option Addr} {p q : Nat} {v : VT} (h : VOwn w base a n c o p q v) {g : Nat} (hg : g < base) (u1 u2 : Value) : VOwn ((w.setCell ⟨g, 0, none⟩ u1).setCell ⟨g, 1, none⟩ u2) base a n c o p q v := by
 have hl : ∀ b, some g = some b → b < base := by intro b hb; cases hb; exact hg
 exact ⟨gown_apart (gown_apart h.rows (grown_set (rb := g) 0 u1) hl) (grown_set (rb := g) 1 u2) hl, gown_apart (gown_apart h.own (grown_set (rb := g) 0 u1) hl) (grown_set (rb := g) 1 u2) hl, h.i64⟩

theorem VOwn.len {w : World} {base : Nat} {a : Option Addr} {n c : Nat} {o : Option Addr} {p q : Nat} {v : VT} (h : VOwn w base a n c o p q v) : v.rows.length = n ∧ v.own.length = p := ⟨h.tab.rows.size, h.tab.own.size⟩

theorem box_ne {w : World} {base k : Nat} {e : TypeId} {v : Value} {n : Nat} {xs : List Value} (h : w.ownsRow base e k v n xs) {X : Nat} {cs : Array Value} {T : TypeId} (hX : w.heap[X]? = some (.cells cs T)) (hne : (e : Nat) ≠ T) : ∀ b, v.ownBlock = some b → b ≠ X := by
 obtain ⟨-, h | ⟨g, cap, cur, rfl, -, hh, -⟩⟩ := h
 ·rw [h.1]; intro b hb; cases hb
 ·intro b hb e
  have : g = b := by simpa [Value.ownBlock] using hb
  subst this e
  rw [hh] at hX
  cases hX
  exact hne rfl

structure BrOwn (w : World) (base : Nat) (a : Option Addr) (n c : Nat) (fa : Option Addr) (fn fc : Nat) (ra : Option Addr) (rn rc : Nat) (oa : Option Addr) (on oc : Nat) (B : BR) : Prop where
 ports : w.ownsRow base 50 8 (.slice a n c) n (ptF.all B.ports)
 f : w.ownsRow base 79 5 (.slice fa fn fc) fn (fentF.all B.f)
 v : VOwn w base ra rn rc oa on oc B.v

theorem BrOwn.row {w : World} {base : Nat} {a : Option Addr} {n c : Nat} {fa : Option Addr} {fn fc : Nat} {ra : Option Addr} {rn rc : Nat} {oa : Option Addr} {on oc : Nat} {B : BR} (h : BrOwn w base a n c fa fn fc ra rn rc oa on oc B) : BrRow w a n c fa fn fc ra rn rc oa on oc B :=
 ⟨grow_own (F := ptF) h.ports, grow_own (F := fentF) h.f, h.v.tab⟩

theorem BrOwn.below {w w' : World} {base : Nat} {a : Option Addr} {n c : Nat} {fa : Option Addr} {fn fc : Nat} {ra : Option Addr} {rn rc : Nat} {oa : Option Addr} {on oc : Nat} {B : BR} (h : BrOwn w base a n c fa fn fc ra rn rc oa on oc B) (hb : Below w.heap.size w w') : BrOwn w' base a n c fa fn fc ra rn rc oa on oc B :=
 ⟨gown_below h.ports hb, gown_below h.f hb, h.v.below hb⟩

theorem BrOwn.lt {w : World} {base base' : Nat} {a : Option Addr} {n c : Nat} {fa : Option Addr} {fn fc : Nat} {ra : Option Addr} {rn rc : Nat} {oa : Option Addr} {on oc : Nat} {B : BR} (h : BrOwn w base a n c fa fn fc ra rn rc oa on oc B) (hle : base' ≤ base) : BrOwn w base' a n c fa fn fc ra rn rc oa on oc B :=
 ⟨gown_lt h.ports hle, gown_lt h.f hle, h.v.lt hle⟩

theorem BrOwn.boxed {w : World} {base : Nat} {a : Option Addr} {n c : Nat} {fa : Option Addr} {fn fc : Nat} {ra : Option Addr} {rn rc : Nat} {oa : Option Addr} {on oc : Nat} {B : BR} (h : BrOwn w base a n c fa fn fc ra rn rc oa on oc B) {X : Nat} {cs : Array Value} (hX : w.heap[X]? = some (.cells cs 29)) (j : Nat) (u : Value) : BrOwn (w.setCell ⟨X, j, none⟩ u) base a n c fa fn fc ra rn rc oa on oc B :=
 ⟨gown_other h.ports (grown_set (rb := X) j u) (box_ne h.ports hX (by decide)), gown_other h.f (grown_set (rb := X) j u) (box_ne h.f hX (by decide)),
  ⟨gown_other h.v.rows (grown_set (rb := X) j u) (box_ne h.v.rows hX (by decide)), gown_other h.v.own (grown_set (rb := X) j u) (box_ne h.v.own hX (by decide)), h.v.i64⟩⟩

theorem box11 {w : World} {g : Nat} {cs : Array Value} {T : TypeId} (h : w.heap[g]? = some (.cells cs T)) (j : Nat) (u : Value) : (w.setCell ⟨g, j, none⟩ u).heap[g]? = some (.cells (cs.setIfInBounds j u) T) := set_block5 (j := j) h u

set_option maxRecDepth 100000 in
set_option maxHeartbeats 1000000 in
theorem toVtab_made (a : Option Addr) (n c : Nat) (o : Option Addr) (p q : Nat) (v : VT) (w : World) (h : VTab w a n c o p q v) (hn : n ≤ 1048576) (hp : p ≤ 1048576) :
  Calls Try.prog 37 #[.agg #[.slice a n c, .slice o p q]] w fun e w' => ∃ a' c' o' q', e = .returned (.agg #[.slice a' n c', .slice o' p q']) ∧ VOwn w' w.heap.size a' n c' o' p q' v ∧ Below w.heap.size w w' := by
 generalize hw1 : w.alloc (Obj.cells #[Value.slice a n c, Value.slice o p q] 38) = w1
 generalize hw2 : w1.alloc (Obj.cells #[Value.slice none 0 0, Value.slice none 0 0] 27) = w2
 generalize hw3 : w2.alloc (Obj.cells #[Value.slice none 0 0, Value.slice none 0 0] 27) = w3
 have b01 : Below w.heap.size w w1 := by subst hw1; exact below_one _ _
 have b12 : Below w1.heap.size w1 w2 := by subst hw2; exact below_one _ _
 have b23 : Below w2.heap.size w2 w3 := by subst hw3; exact below_one _ _
 have b02 := gr_trans b01 b12
 have b03 := gr_trans b02 b23
 have b13 := gr_trans b12 b23
 have k1 : w2.heap[w1.heap.size]? = some (.cells #[.slice none 0 0, .slice none 0 0] 27) := by rw [← hw2]; exact block_last _ _
 have k2 : w3.heap[w2.heap.size]? = some (.cells #[.slice none 0 0, .slice none 0 0] 27) := by rw [← hw3]; exact block_last _ _
 have z2 : w1.heap.size < w2.heap.size := by rw [← hw2]; simp
 have z3 : w2.heap.size < w3.heap.size := by rw [← hw3]; simp
 have Z2 := hide z2
 have Z3 := hide z3
 clear z2 z3
 obtain ⟨x0, x1⟩ := box_two hw1 b13
 go_enter Try.func37, Try.ntmps37
 go_wp2_with fail
 refine (toVrows_made a n c v.rows _ (h.rows.below b03) hn).mono ?_
 rintro e w4 ⟨a4, c4, rfl, hR, -, hb4⟩
 have k4 := kept_block k2 hb4
 obtain ⟨⟨g0, g1⟩, f0, f1⟩ := cells2 k4
 generalize hw5 : w4.setCell ⟨w2.heap.size, 0, none⟩ (.slice a4 n c4) = w5
 have b45 : Below w2.heap.size w4 w5 := by subst hw5; exact below_set (Below.refl _ _) (Nat.le_refl _) _ _
 have b25 : Below w2.heap.size w2 w5 := (gr_trans b23 hb4).trans b45
 have b15 := gr_trans b12 b25
 have b05 := gr_trans b02 b25
 have hR5 : w5.ownsRow w3.heap.size 71 3 (.slice a4 n c4) n (vrowF.all v.rows) := by
  rw [← hw5]
  exact gown_apart hR (grown_set (rb := w2.heap.size) 0 _) (by intro b hb; cases hb; exact Z3.out)
 have k5 : w5.heap[w2.heap.size]? = some (.cells #[.slice a4 n c4, .slice none 0 0] 27) := by
  have := set_block5 (j := 0) k4 (.slice a4 n c4)
  rw [hw5] at this
  exact this
 have s35 : Hid (w3.heap.size ≤ w5.heap.size) := hide (by have := hb4.size; have := b45.size; omega)
 obtain ⟨y0, y1⟩ := box_two hw1 b15
 clear hR x0 x1
 go_wp2_with fail
 clear g0 g1 f0 f1
 refine (copyI_made o p q v.own _ (h.own.below b05) (by omega)).mono ?_
 rintro e w6 ⟨a6, c6, rfl, hI, -, hb6⟩
 have k6 := kept_block k5 hb6
 obtain ⟨⟨g0, g1⟩, f0, f1⟩ := cells2 k6
 generalize hw7 : w6.setCell ⟨w2.heap.size, 1, none⟩ (.slice a6 p c6) = w7
 have b67 : Below w2.heap.size w6 w7 := by subst hw7; exact below_set (Below.refl _ _) (Nat.le_refl _) _ _
 have b27 : Below w2.heap.size w2 w7 := (b25.trans (hb6.mono b25.size)).trans b67
 have b07 := gr_trans b02 b27
 have hR7 : w7.ownsRow w3.heap.size 71 3 (.slice a4 n c4) n (vrowF.all v.rows) := by
  rw [← hw7]
  exact gown_apart (gown_below hR5 hb6) (grown_set (rb := w2.heap.size) 1 _) (by intro b hb; cases hb; exact Z3.out)
 have hI7 : w7.ownsRow w3.heap.size 3 1 (.slice a6 p c6) p (cI v.own) := by
  rw [← hw7]
  exact gown_apart (gown_lt hI s35.out) (grown_set (rb := w2.heap.size) 1 _) (by intro b hb; cases hb; exact Z3.out)
 have k7 : w7.heap[w2.heap.size]? = some (.cells #[.slice a4 n c4, .slice a6 p c6] 27) := by
  have := set_block5 (j := 1) k6 (.slice a6 p c6)
  rw [hw7] at this
  exact this
 have k71 := kept_block k1 b27
 clear hI hR5 y0 y1
 obtain ⟨⟨u0, u1⟩, -⟩ := cells2 k7
 obtain ⟨⟨t0, t1⟩, e0, e1⟩ := cells2 k71
 have hV : VOwn w7 w3.heap.size a4 n c4 a6 p c6 v := ⟨hR7, hI7, h.own.byte⟩
 have HO := hide ((hV.set2 (g := w1.heap.size) (Nat.lt_trans Z2.out Z3.out) (.slice a4 n c4) (.slice a6 p c6)).lt (base' := w.heap.size) b03.size)
 have HB := hide (below_set (below_set b07 b01.size 0 (.slice a4 n c4)) b01.size 1 (.slice a6 p c6))
 clear hV hR7 hI7
 go_wp2
 exact bodyPost_ret (v := .agg #[.slice a4 n c4, .slice a6 p c6]) (by simp [results, Try.results37, go_sem, *]) rfl ⟨_, _, _, _, rfl, HO.out, HB.out⟩

set_option maxRecDepth 100000 in
set_option maxHeartbeats 1000000 in
theorem eqVtab_same (a : Option Addr) (n c : Nat) (o : Option Addr) (p q : Nat) (a2 : Option Addr) (n2 c2 : Nat) (o2 : Option Addr) (p2 q2 : Nat) (v : VT) (w : World) (h : VTab w a n c o p q v) (h2 : VTab w a2 n2 c2 o2 p2 q2 v) :
  Calls Try.prog 21 #[.agg #[.slice a n c, .slice o p q], .agg #[.slice a2 n2 c2, .slice o2 p2 q2]] w fun e w' => e = .returned (.bool true) ∧ Below w.heap.size w w' := by
 generalize hw1 : w.alloc (Obj.cells #[Value.slice a n c, Value.slice o p q] 27) = w1
 generalize hw2 : w1.alloc (Obj.cells #[Value.slice a2 n2 c2, Value.slice o2 p2 q2] 27) = w2
 have b01 : Below w.heap.size w w1 := by subst hw1; exact below_one _ _
 have b12 : Below w1.heap.size w1 w2 := by subst hw2; exact below_one _ _
 have b02 := gr_trans b01 b12
 obtain ⟨x0, x1⟩ := box_two hw1 b12
 obtain ⟨x2, x3⟩ := box_two hw2 (Below.refl _ w2)
 go_enter Try.func21, Try.ntmps21
 go_wp2_with fail
 refine (eqVrows_same a n c a2 n2 c2 v.rows _ (h.rows.below b02) (h2.rows.below b02)).mono ?_
 rintro e w3 ⟨rfl, hb3⟩
 obtain ⟨y0, y1⟩ := box_two hw1 (gr_trans b12 hb3)
 obtain ⟨y2, y3⟩ := box_two hw2 hb3
 have b03 := gr_trans b02 hb3
 clear x0 x1 x2 x3
 go_wp2_with fail
 refine (eqI_same o p q o2 p2 q2 v.own _ (h.own.below b03) (h2.own.below b03)).mono ?_
 rintro e w4 ⟨rfl, m, rfl⟩
 have HB := hide (gr_drewN b03 m)
 clear y0 y1 y2 y3
 go_wp2
 go_ret
 exact ⟨rfl, HB.out⟩

set_option maxRecDepth 100000 in
set_option maxHeartbeats 1000000 in
theorem szVtab_from (L : Int) (hL0 : 0 ≤ L) (hL1 : L ≤ 1048576) (a : Option Addr) (n c : Nat) (o : Option Addr) (p q : Nat) (w : World) (hl : n ≤ maxLen) (hl2 : p ≤ maxLen) :
  Calls Try.prog 30 #[.agg #[.slice a n c, .slice o p q], .int .i64 L] w fun e w' => e = .returned (.int .i64 (if (n : Int) + (p : Int) ≤ L then L - n - p else -1)) ∧ Below w.heap.size w w' := by
 generalize hw1 : w.alloc (Obj.cells #[Value.slice a n c, Value.slice o p q] 38) = w1
 have b01 : Below w.heap.size w w1 := by subst hw1; exact below_one _ _
 obtain ⟨x0, x1⟩ := box_two hw1 (Below.refl _ w1)
 generalize hV : (if (n : Int) + (p : Int) ≤ L then L - n - p else -1) = V
 have HV := hide hV
 clear hV
 go_enter Try.func30, Try.ntmps30
 go_wp2_with fail
 refine (szVrows_any a n c L _ hl (by omega) (by omega)).mono ?_
 rintro e w2 ⟨rfl, e2⟩
 obtain rfl := e2.symm
 by_cases h1 : (n : Int) ≤ L
 ·rw [if_pos h1]
  have j1 : ¬ (L - (n : Int) < 0) := by omega
  go_wp2_with fail
  refine (szInts9_any o p q (L - n) _ hl2 (by omega) (by omega)).mono ?_
  rintro e w2 ⟨rfl, e2⟩
  obtain rfl := e2.symm
  by_cases h2 : (p : Int) ≤ L - n
  ·rw [if_pos h2]
   have j2 : ¬ (L - (n : Int) - (p : Int) < 0) := by omega
   have HE : Hid (V = L - n - p) := hide (by rw [← HV.out, if_pos (by omega)])
   go_wp2
   go_ret
   exact ⟨(by rw [HE.out]; rfl), b01⟩
  ·rw [if_neg h2]
   have HE : Hid (V = -1) := hide (by rw [← HV.out, if_neg (by omega)])
   go_wp2
   go_ret
   exact ⟨(by rw [HE.out]; rfl), b01⟩
 ·rw [if_neg h1]
  have HE : Hid (V = -1) := hide (by rw [← HV.out, if_neg (by omega)])
  go_wp2
  go_ret
  exact ⟨(by rw [HE.out]; rfl), b01⟩

set_option maxRecDepth 100000 in
set_option maxHeartbeats 400000 in
theorem implIn9_any (x lo hi : Int) (w : World) :
  Calls Try.prog 16 #[.int .i64 x, .int .i64 lo, .int .i64 hi] w fun e w' => e = .returned (.bool (decide (lo ≤ x) && decide (x ≤ hi))) ∧ w' = w := by
 by_cases h1 : lo ≤ x
 ·go_enter Try.func16, Try.ntmps16
  go_wp2
  go_ret
  exact ⟨ret_bool (by simp [h1]), rfl⟩
 ·go_enter Try.func16, Try.ntmps16
  go_wp2
  go_ret
  exact ⟨ret_bool (by rw [decide_eq_false (show ¬ lo ≤ x by omega)]; rfl), rfl⟩

set_option maxRecDepth 100000 in
set_option maxHeartbeats 1000000 in
theorem portBits_any (p : Nat) (h1 : 1 ≤ p) (h6 : p ≤ 6) (w : World) :
  Calls Try.prog 43 #[.int .i64 p] w fun e w' => e = .returned (.int .i64 (allOf p)) ∧ w' = w := by
 rcases (show p = 1 ∨ p = 2 ∨ p = 3 ∨ p = 4 ∨ p = 5 ∨ p = 6 by omega) with rfl | rfl | rfl | rfl | rfl | rfl
 ·show Calls Try.prog 43 #[.int .i64 1] w _
  go_enter Try.func43, Try.ntmps43
  go_wp2
  go_ret
  exact ⟨rfl, rfl⟩
 ·show Calls Try.prog 43 #[.int .i64 2] w _
  go_enter Try.func43, Try.ntmps43
  go_wp2
  go_ret
  exact ⟨rfl, rfl⟩
 ·show Calls Try.prog 43 #[.int .i64 3] w _
  go_enter Try.func43, Try.ntmps43
  go_wp2
  go_ret
  exact ⟨rfl, rfl⟩
 ·show Calls Try.prog 43 #[.int .i64 4] w _
  go_enter Try.func43, Try.ntmps43
  go_wp2
  go_ret
  exact ⟨rfl, rfl⟩
 ·show Calls Try.prog 43 #[.int .i64 5] w _
  go_enter Try.func43, Try.ntmps43
  go_wp2
  go_ret
  exact ⟨rfl, rfl⟩
 ·show Calls Try.prog 43 #[.int .i64 6] w _
  go_enter Try.func43, Try.ntmps43
  go_wp2
  go_ret
  exact ⟨rfl, rfl⟩

def riseTo (l : List VR) (k : Nat) : Prop := ∀ (i : Nat) (x y : VR), i + 1 < k → l[i]? = some x → l[i + 1]? = some y → x.i < y.i

theorem riseTo_next {l : List VR} {k : Nat} {x y : VR} (h : riseTo l (k + 1)) (hy : l[k]? = some y) (hx : l[k + 1]? = some x) (hl : y.i < x.i) : riseTo l (k + 1 + 1) := by
 intro i a b hi ha hb
 by_cases e : i = k
 ·subst e
  rw [hy] at ha
  rw [hx] at hb
  cases ha
  cases hb
  exact hl
 ·exact h i a b (by omega) ha hb

theorem rise_iff : ∀ (l : List VR), vrises l = true ↔ riseTo l l.length
 | [] => by simp [vrises, riseTo]
 | [e] => by
  simp only [vrises, riseTo, List.length_singleton, true_iff]
  intro i x y hi
  omega
 | e :: f :: r => by
  have ih := rise_iff (f :: r)
  rw [show vrises (e :: f :: r) = (decide (e.i < f.i) && vrises (f :: r)) from rfl]
  simp only [Bool.and_eq_true, decide_eq_true_eq]
  constructor
  ·rintro ⟨h1, h2⟩ i x y hi hx hy
   have h2 := ih.1 h2
   match i, hx, hy with
   | 0, hx, hy =>
    simp at hx hy
    subst hx hy
    exact h1
   | i + 1, hx, hy => exact h2 i x y (by simp at hi ⊢; omega) (by simpa using hx) (by simpa using hy)
  ·intro h
   exact ⟨h 0 e f (by simp) rfl rfl, ih.2 (fun i x y hi hx hy => h (i + 1) x y (by simp at hi ⊢; omega) (by simpa using hx) (by simpa using hy))⟩

theorem rise_no {l : List VR} {k : Nat} {x y : VR} (hy : l[k]? = some y) (hx : l[k + 1]? = some x) (hl : ¬ y.i < x.i) : vrises l = false := by
 cases h : vrises l
 ·rfl
 ·exact absurd ((rise_iff l).1 h k y x (List.getElem?_eq_some_iff.1 hx).1 hy hx) hl

set_option maxRecDepth 100000 in
set_option maxHeartbeats 4000000 in
theorem implAscends_any (a : Option Addr) (n c : Nat) (l : List VR) (w : World) (h : GRow vrowF w a n c l) :
  Calls Try.prog 68 #[.slice a n c] w fun e w' => e = .returned (.bool (vrises l)) ∧ Below w.heap.size w w' := by
 have hle := h.le
 have htop := h.top
 unfold maxLen at htop
 have hsz := hide h.size
 have hm := number_of
 generalize hR : vrises l = R
 have HR := hide hR
 clear hR
 go_enter Try.func68, Try.ntmps68
 go_wp2
 go_loopw [3] (fun i wr => ∃ k : Nat, (k ≤ n ∨ k = 0) ∧ i = .int .i64 ((k : Int) + 1) ∧ riseTo l (k + 1) ∧ Below w.heap.size w wr) (fun i _ => n + 1 - (intOf i).toNat)
 case atStart => exact ⟨0, Or.inr rfl, rfl, fun i x y hi => by omega, Below.refl _ _⟩
 case round =>
  obtain ⟨k, hk, rfl, hto, hb⟩ := hrel
  by_cases hlt : k + 1 < n
  ·obtain ⟨y, b, off, hy, rfl, d0, d1, d2⟩ := vrow_at (h.below hb) k (by omega)
   obtain ⟨x, b', off', hx, e', c0, c1, c2⟩ := vrow_at (h.below hb) (k + 1) hlt
   cases e'
   have vv : Below wr.heap.size wr wr.drew := gr_drew (Below.refl _ _)
   have HS : Hid (∀ W, Below wr.heap.size wr W → (W.cell? ⟨b, off + k * 3, none⟩ = some (.int .i64 y.i) ∧ W.cell? ⟨b, off + k * 3 + 1, none⟩ = some (.int .i64 y.m) ∧ W.cell? ⟨b, off + k * 3 + 2, none⟩ = some (.int .i64 y.b)) ∧ (W.cell? ⟨b, off + (k + 1) * 3, none⟩ = some (.int .i64 x.i) ∧ W.cell? ⟨b, off + (k + 1) * 3 + 1, none⟩ = some (.int .i64 x.m) ∧ W.cell? ⟨b, off + (k + 1) * 3 + 2, none⟩ = some (.int .i64 x.b))) := hide (fun W hW => ⟨⟨kept_cell d0 hW, kept_cell d1 hW, kept_cell d2 hW⟩, kept_cell c0 hW, kept_cell c1 hW, kept_cell c2 hW⟩)
   have i0 : IntKind.i64.wrap (k : Int) = (k : Int) := by rw [IntKind.wrap_i64]; omega
   have i1 : (0 : Int) ≤ (k : Int) ∧ (k : Int) < (n : Int) := by omega
   have i2 : (0 : Int) ≤ (k : Int) + 1 ∧ (k : Int) + 1 < (n : Int) := by omega
   have i3 : ((k : Int) + 1).toNat = k + 1 := by omega
   by_cases hl : y.i < x.i
   ·have HO := hide (riseTo_next hto hy hx hl)
    clear hto hy hx d0 d1 d2 c0 c1 c2
    go_wp2_with fail
    refine wp_region_held_drew (S := (fun W => (W.cell? ⟨b, off + k * 3, none⟩ = some (.int .i64 y.i) ∧ W.cell? ⟨b, off + k * 3 + 1, none⟩ = some (.int .i64 y.m) ∧ W.cell? ⟨b, off + k * 3 + 2, none⟩ = some (.int .i64 y.b)) ∧ (W.cell? ⟨b, off + (k + 1) * 3, none⟩ = some (.int .i64 x.i) ∧ W.cell? ⟨b, off + (k + 1) * 3 + 1, none⟩ = some (.int .i64 x.m) ∧ W.cell? ⟨b, off + (k + 1) * 3 + 2, none⟩ = some (.int .i64 x.b)))) (by kernel_rfl) (HS.out _ vv) (fun hHeld => ?_)
    refine wpAnyH_take (i := 0) (oi := ⟨some 10, .move (.tmp 0), 97, "l09_vlan.go:143", #[], none⟩) (v := ?_) rfl (by kernel_rfl) (by kernel_rfl) (by kernel_rfl) (fun _ _ _ h => h) (Or.inl ⟨by rfl, ?_⟩) (by assumption) ?_
    rotate_left
    ·(intro wY hSw; (try dsimp only at hSw); go_simp; try with_reducible rfl)
    simp only [Act.put, lA, lB, lC]
    refine wpAnyH_take (i := 1) (oi := ⟨some 11, .move (.tmp 3), 3, "l09_vlan.go:143", #[], none⟩) (v := ?_) rfl (by kernel_rfl) (by kernel_rfl) (by kernel_rfl) (fun _ _ _ h => h) (Or.inl ⟨by rfl, ?_⟩) (by assumption) ?_
    rotate_left
    ·(intro wY hSw; (try dsimp only at hSw); go_simp; try with_reducible rfl)
    simp only [Act.put, lA, lB, lC]
    refine wpAnyH_take (i := 2) (oi := ⟨some 12, .binOp .sub 3 (.tmp 11) (.const (.int .i64 1)) 3, 3, "l09_vlan.go:143", #[⟨1, .data⟩], none⟩) (v := ?_) rfl (by kernel_rfl) (by kernel_rfl) (by kernel_rfl) (fun _ _ _ h => h) (Or.inl ⟨by rfl, ?_⟩) (by assumption) ?_
    rotate_left
    ·(intro wY hSw; (try dsimp only at hSw); go_simp; try with_reducible rfl)
    simp only [Act.put, lA, lB, lC]
    refine wpAnyH_take (i := 3) (oi := ⟨some 13, .indexAddr 97 (.tmp 10) (.tmp 12), 0, "l09_vlan.go:143", #[⟨0, .data⟩, ⟨2, .data⟩], none⟩) (v := ?_) rfl (by kernel_rfl) (by kernel_rfl) (by kernel_rfl) (fun _ _ _ h => h) (Or.inl ⟨by rfl, ?_⟩) (by assumption) ?_
    rotate_left
    ·(intro wY hSw; (try dsimp only at hSw); go_simp; try with_reducible rfl)
    simp only [Act.put, lA, lB, lC]
    refine wpAnyH_take (i := 4) (oi := ⟨some 14, .load 71 (.tmp 13), 71, "l09_vlan.go:143", #[⟨3, .data⟩], none⟩) (v := ?_) rfl (by kernel_rfl) (by kernel_rfl) (by kernel_rfl) (fun _ _ _ h => h) (Or.inl ⟨by rfl, ?_⟩) (by assumption) ?_
    rotate_left
    ·(intro wY hSw; (try dsimp only at hSw); go_simp; try with_reducible rfl)
    simp only [Act.put, lA, lB, lC]
    refine wpAnyH_take (i := 5) (oi := ⟨some 15, .makeInterface 71 (.tmp 14), 20, "l09_vlan.go:143", #[⟨4, .data⟩], none⟩) (v := ?_) rfl (by kernel_rfl) (by kernel_rfl) (by kernel_rfl) (fun _ _ _ h => h) (Or.inl ⟨by rfl, ?_⟩) (by assumption) ?_
    rotate_left
    ·(intro wY hSw; (try dsimp only at hSw); go_simp; try with_reducible rfl)
    simp only [Act.put, lA, lB, lC]
    refine wpAnyH_take (i := 7) (oi := ⟨some 17, .move (.tmp 0), 97, "l09_vlan.go:143", #[], none⟩) (v := ?_) rfl (by kernel_rfl) (by kernel_rfl) (by kernel_rfl) (fun _ _ _ h => h) (Or.inl ⟨by rfl, ?_⟩) (by assumption) ?_
    rotate_left
    ·(intro wY hSw; (try dsimp only at hSw); go_simp; try with_reducible rfl)
    simp only [Act.put, lA, lB, lC]
    refine wpAnyH_take (i := 8) (oi := ⟨some 18, .move (.tmp 3), 3, "l09_vlan.go:143", #[], none⟩) (v := ?_) rfl (by kernel_rfl) (by kernel_rfl) (by kernel_rfl) (fun _ _ _ h => h) (Or.inl ⟨by rfl, ?_⟩) (by assumption) ?_
    rotate_left
    ·(intro wY hSw; (try dsimp only at hSw); go_simp; try with_reducible rfl)
    simp only [Act.put, lA, lB, lC]
    refine wpAnyH_take (i := 9) (oi := ⟨some 19, .indexAddr 97 (.tmp 17) (.tmp 18), 0, "l09_vlan.go:143", #[⟨7, .data⟩, ⟨8, .data⟩], none⟩) (v := ?_) rfl (by kernel_rfl) (by kernel_rfl) (by kernel_rfl) (fun _ _ _ h => h) (Or.inl ⟨by rfl, ?_⟩) (by assumption) ?_
    rotate_left
    ·(intro wY hSw; (try dsimp only at hSw); go_simp; try with_reducible rfl)
    simp only [Act.put, lA, lB, lC]
    refine wpAnyH_take (i := 10) (oi := ⟨some 20, .load 71 (.tmp 19), 71, "l09_vlan.go:143", #[⟨9, .data⟩], none⟩) (v := ?_) rfl (by kernel_rfl) (by kernel_rfl) (by kernel_rfl) (fun _ _ _ h => h) (Or.inl ⟨by rfl, ?_⟩) (by assumption) ?_
    rotate_left
    ·(intro wY hSw; (try dsimp only at hSw); go_simp; try with_reducible rfl)
    simp only [Act.put, lA, lB, lC]
    refine wpAnyH_take (i := 11) (oi := ⟨some 21, .makeInterface 71 (.tmp 20), 20, "l09_vlan.go:143", #[⟨10, .data⟩], none⟩) (v := ?_) rfl (by kernel_rfl) (by kernel_rfl) (by kernel_rfl) (fun _ _ _ h => h) (Or.inl ⟨by rfl, ?_⟩) (by assumption) ?_
    rotate_left
    ·(intro wY hSw; (try dsimp only at hSw); go_simp; try with_reducible rfl)
    simp only [Act.put, lA, lB, lC]
    refine wpAnyH_ready (rs := [6]) (by kernel_rfl) (by simp) ?_
    refine AllReadyH.cons (o := ⟨some 16, .call ⟨.invoke (.tmp 15) "loop.example/g00326/impl.number", #[], #[]⟩, 3, "l09_vlan.go:143", #[⟨5, .data⟩], none⟩) rfl (fun K hK => ?_) ?_
    ·go_simp
     refine (implNumber_any y _).mono ?_
     rintro e wz ⟨rfl, hbz⟩
     have vv := gr_trans vv hbz
     go_wp2_with fail
     refine hK.out _ _ (HS.out _ vv) (fun hHeld => ?_)
     clear hK K
     try simp only [Act.put, lA, lB, lC]
     refine wpAnyH_ready (rs := [12]) (by kernel_rfl) (by simp) ?_
     refine AllReadyH.cons (o := ⟨some 22, .call ⟨.invoke (.tmp 21) "loop.example/g00326/impl.number", #[], #[]⟩, 3, "l09_vlan.go:143", #[⟨11, .data⟩, ⟨6, .chain⟩], none⟩) rfl (fun K hK => ?_) ?_
     ·go_simp
      refine (implNumber_any x _).mono ?_
      rintro e wz ⟨rfl, hbz⟩
      have vv := gr_trans vv hbz
      go_wp2_with fail
      refine hK.out _ _ (HS.out _ vv) (fun hHeld => ?_)
      clear hK K
      try simp only [Act.put, lA, lB, lC]
      refine wpAnyH_take (i := 13) (oi := ⟨some 23, .binOp .geq 3 (.tmp 16) (.tmp 22) 3, 4, "l09_vlan.go:143", #[⟨6, .data⟩, ⟨12, .data⟩], none⟩) (v := .bool false) rfl (by kernel_rfl) (by kernel_rfl) (by kernel_rfl) (fun _ _ _ h => h) (Or.inl ⟨by rfl, ?_⟩) (by assumption) ?_
      ·(intro wY hSw; (try dsimp only at hSw); go_simp; first | done | omega)
      simp only [Act.put, lA, lB, lC]
      refine wpAnyH_done (by kernel_rfl) ?_ _
      have HB1 := hide (gr_trans hb vv)
      clear HS vv hb
      go_wp2
      go_roundw
      case rel => exact ⟨k + 1, by omega, by go_num, HO.out, HB1.out⟩
      case measure => simp [intOf]; omega
     exact AllReadyH.nil
    exact AllReadyH.nil
   ·have HF := hide (rise_no hy hx hl)
    clear hto hy hx d0 d1 d2 c0 c1 c2
    go_wp2_with fail
    refine wp_region_held_drew (S := (fun W => (W.cell? ⟨b, off + k * 3, none⟩ = some (.int .i64 y.i) ∧ W.cell? ⟨b, off + k * 3 + 1, none⟩ = some (.int .i64 y.m) ∧ W.cell? ⟨b, off + k * 3 + 2, none⟩ = some (.int .i64 y.b)) ∧ (W.cell? ⟨b, off + (k + 1) * 3, none⟩ = some (.int .i64 x.i) ∧ W.cell? ⟨b, off + (k + 1) * 3 + 1, none⟩ = some (.int .i64 x.m) ∧ W.cell? ⟨b, off + (k + 1) * 3 + 2, none⟩ = some (.int .i64 x.b)))) (by kernel_rfl) (HS.out _ vv) (fun hHeld => ?_)
    refine wpAnyH_take (i := 0) (oi := ⟨some 10, .move (.tmp 0), 97, "l09_vlan.go:143", #[], none⟩) (v := ?_) rfl (by kernel_rfl) (by kernel_rfl) (by kernel_rfl) (fun _ _ _ h => h) (Or.inl ⟨by rfl, ?_⟩) (by assumption) ?_
    rotate_left
    ·(intro wY hSw; (try dsimp only at hSw); go_simp; try with_reducible rfl)
    simp only [Act.put, lA, lB, lC]
    refine wpAnyH_take (i := 1) (oi := ⟨some 11, .move (.tmp 3), 3, "l09_vlan.go:143", #[], none⟩) (v := ?_) rfl (by kernel_rfl) (by kernel_rfl) (by kernel_rfl) (fun _ _ _ h => h) (Or.inl ⟨by rfl, ?_⟩) (by assumption) ?_
    rotate_left
    ·(intro wY hSw; (try dsimp only at hSw); go_simp; try with_reducible rfl)
    simp only [Act.put, lA, lB, lC]
    refine wpAnyH_take (i := 2) (oi := ⟨some 12, .binOp .sub 3 (.tmp 11) (.const (.int .i64 1)) 3, 3, "l09_vlan.go:143", #[⟨1, .data⟩], none⟩) (v := ?_) rfl (by kernel_rfl) (by kernel_rfl) (by kernel_rfl) (fun _ _ _ h => h) (Or.inl ⟨by rfl, ?_⟩) (by assumption) ?_
    rotate_left
    ·(intro wY hSw; (try dsimp only at hSw); go_simp; try with_reducible rfl)
    simp only [Act.put, lA, lB, lC]
    refine wpAnyH_take (i := 3) (oi := ⟨some 13, .indexAddr 97 (.tmp 10) (.tmp 12), 0, "l09_vlan.go:143", #[⟨0, .data⟩, ⟨2, .data⟩], none⟩) (v := ?_) rfl (by kernel_rfl) (by kernel_rfl) (by kernel_rfl) (fun _ _ _ h => h) (Or.inl ⟨by rfl, ?_⟩) (by assumption) ?_
    rotate_left
    ·(intro wY hSw; (try dsimp only at hSw); go_simp; try with_reducible rfl)
    simp only [Act.put, lA, lB, lC]
    refine wpAnyH_take (i := 4) (oi := ⟨some 14, .load 71 (.tmp 13), 71, "l09_vlan.go:143", #[⟨3, .data⟩], none⟩) (v := ?_) rfl (by kernel_rfl) (by kernel_rfl) (by kernel_rfl) (fun _ _ _ h => h) (Or.inl ⟨by rfl, ?_⟩) (by assumption) ?_
    rotate_left
    ·(intro wY hSw; (try dsimp only at hSw); go_simp; try with_reducible rfl)
    simp only [Act.put, lA, lB, lC]
    refine wpAnyH_take (i := 5) (oi := ⟨some 15, .makeInterface 71 (.tmp 14), 20, "l09_vlan.go:143", #[⟨4, .data⟩], none⟩) (v := ?_) rfl (by kernel_rfl) (by kernel_rfl) (by kernel_rfl) (fun _ _ _ h => h) (Or.inl ⟨by rfl, ?_⟩) (by assumption) ?_
    rotate_left
    ·(intro wY hSw; (try dsimp only at hSw); go_simp; try with_reducible rfl)
    simp only [Act.put, lA, lB, lC]
    refine wpAnyH_take (i := 7) (oi := ⟨some 17, .move (.tmp 0), 97, "l09_vlan.go:143", #[], none⟩) (v := ?_) rfl (by kernel_rfl) (by kernel_rfl) (by kernel_rfl) (fun _ _ _ h => h) (Or.inl ⟨by rfl, ?_⟩) (by assumption) ?_
    rotate_left
    ·(intro wY hSw; (try dsimp only at hSw); go_simp; try with_reducible rfl)
    simp only [Act.put, lA, lB, lC]
    refine wpAnyH_take (i := 8) (oi := ⟨some 18, .move (.tmp 3), 3, "l09_vlan.go:143", #[], none⟩) (v := ?_) rfl (by kernel_rfl) (by kernel_rfl) (by kernel_rfl) (fun _ _ _ h => h) (Or.inl ⟨by rfl, ?_⟩) (by assumption) ?_
    rotate_left
    ·(intro wY hSw; (try dsimp only at hSw); go_simp; try with_reducible rfl)
    simp only [Act.put, lA, lB, lC]
    refine wpAnyH_take (i := 9) (oi := ⟨some 19, .indexAddr 97 (.tmp 17) (.tmp 18), 0, "l09_vlan.go:143", #[⟨7, .data⟩, ⟨8, .data⟩], none⟩) (v := ?_) rfl (by kernel_rfl) (by kernel_rfl) (by kernel_rfl) (fun _ _ _ h => h) (Or.inl ⟨by rfl, ?_⟩) (by assumption) ?_
    rotate_left
    ·(intro wY hSw; (try dsimp only at hSw); go_simp; try with_reducible rfl)
    simp only [Act.put, lA, lB, lC]
    refine wpAnyH_take (i := 10) (oi := ⟨some 20, .load 71 (.tmp 19), 71, "l09_vlan.go:143", #[⟨9, .data⟩], none⟩) (v := ?_) rfl (by kernel_rfl) (by kernel_rfl) (by kernel_rfl) (fun _ _ _ h => h) (Or.inl ⟨by rfl, ?_⟩) (by assumption) ?_
    rotate_left
    ·(intro wY hSw; (try dsimp only at hSw); go_simp; try with_reducible rfl)
    simp only [Act.put, lA, lB, lC]
    refine wpAnyH_take (i := 11) (oi := ⟨some 21, .makeInterface 71 (.tmp 20), 20, "l09_vlan.go:143", #[⟨10, .data⟩], none⟩) (v := ?_) rfl (by kernel_rfl) (by kernel_rfl) (by kernel_rfl) (fun _ _ _ h => h) (Or.inl ⟨by rfl, ?_⟩) (by assumption) ?_
    rotate_left
    ·(intro wY hSw; (try dsimp only at hSw); go_simp; try with_reducible rfl)
    simp only [Act.put, lA, lB, lC]
    refine wpAnyH_ready (rs := [6]) (by kernel_rfl) (by simp) ?_
    refine AllReadyH.cons (o := ⟨some 16, .call ⟨.invoke (.tmp 15) "loop.example/g00326/impl.number", #[], #[]⟩, 3, "l09_vlan.go:143", #[⟨5, .data⟩], none⟩) rfl (fun K hK => ?_) ?_
    ·go_simp
     refine (implNumber_any y _).mono ?_
     rintro e wz ⟨rfl, hbz⟩
     have vv := gr_trans vv hbz
     go_wp2_with fail
     refine hK.out _ _ (HS.out _ vv) (fun hHeld => ?_)
     clear hK K
     try simp only [Act.put, lA, lB, lC]
     refine wpAnyH_ready (rs := [12]) (by kernel_rfl) (by simp) ?_
     refine AllReadyH.cons (o := ⟨some 22, .call ⟨.invoke (.tmp 21) "loop.example/g00326/impl.number", #[], #[]⟩, 3, "l09_vlan.go:143", #[⟨11, .data⟩, ⟨6, .chain⟩], none⟩) rfl (fun K hK => ?_) ?_
     ·go_simp
      refine (implNumber_any x _).mono ?_
      rintro e wz ⟨rfl, hbz⟩
      have vv := gr_trans vv hbz
      go_wp2_with fail
      refine hK.out _ _ (HS.out _ vv) (fun hHeld => ?_)
      clear hK K
      try simp only [Act.put, lA, lB, lC]
      refine wpAnyH_take (i := 13) (oi := ⟨some 23, .binOp .geq 3 (.tmp 16) (.tmp 22) 3, 4, "l09_vlan.go:143", #[⟨6, .data⟩, ⟨12, .data⟩], none⟩) (v := .bool true) rfl (by kernel_rfl) (by kernel_rfl) (by kernel_rfl) (fun _ _ _ h => h) (Or.inl ⟨by rfl, ?_⟩) (by assumption) ?_
      ·(intro wY hSw; (try dsimp only at hSw); go_simp; first | done | omega)
      simp only [Act.put, lA, lB, lC]
      refine wpAnyH_done (by kernel_rfl) ?_ _
      have HB1 := hide (gr_trans hb vv)
      clear HS vv hb
      go_wp2
      go_ret
      exact ⟨(by rw [← HR.out, HF.out]; rfl), HB1.out⟩
     exact AllReadyH.nil
    exact AllReadyH.nil
  ·have HF : Hid (vrises l = true) := hide ((rise_iff l).2 (fun i x y hi hx hy => hto i x y (by have := hsz.out; omega) hx hy))
   have HB := hide hb
   clear hto hb
   go_wp2
   go_ret
   exact ⟨(by rw [← HR.out, HF.out]; rfl), HB.out⟩

set_option maxRecDepth 100000 in
set_option maxHeartbeats 4000000 in
theorem implVrowOk_any (r : VR) (p : Nat) (w : World) (hr : r.Rng) (hp1 : 1 ≤ p) (hp6 : p ≤ 6) :
  Calls Try.prog 69 #[.agg #[.int .i64 r.i, .int .i64 r.m, .int .i64 r.b], .int .i64 p] w fun e w' => e = .returned (.bool (vrowOk (allOf p) r)) ∧ Below w.heap.size w w' := by
 rw [← vrow_same r p hr hp6]
 generalize hw1 : w.alloc (Obj.cells #[.int .i64 r.i, .int .i64 r.m, .int .i64 r.b] 71) = w1
 have q : Below w.heap.size w w1 := by subst hw1; exact below_one _ _
 have k0 : w1.heap[w.heap.size]? = some (.cells #[.int .i64 r.i, .int .i64 r.m, .int .i64 r.b] 71) := by rw [← hw1]; exact block_last _ _
 have HS : Hid (∀ W, Below w1.heap.size w1 W → W.cell? ⟨w.heap.size, 0, none⟩ = some (.int .i64 r.i) ∧ W.cell? ⟨w.heap.size, 1, none⟩ = some (.int .i64 r.m) ∧ W.cell? ⟨w.heap.size, 2, none⟩ = some (.int .i64 r.b)) := hide (fun W hW => (cells3 (kept_block k0 hW)).1)
 clear k0
 have vv : Below w1.heap.size w1 w1.drew := gr_drew (Below.refl _ _)
 cases h1 : in3 r.i 1 99
 ·have H1 := hide h1
  clear h1
  simp only [Bool.false_and]
  go_enter Try.func69, Try.ntmps69
  go_wp2_with fail
  refine wp_region_held_drew (S := (fun W => W.cell? ⟨w.heap.size, 0, none⟩ = some (.int .i64 r.i) ∧ W.cell? ⟨w.heap.size, 1, none⟩ = some (.int .i64 r.m) ∧ W.cell? ⟨w.heap.size, 2, none⟩ = some (.int .i64 r.b))) (by kernel_rfl) (HS.out _ vv) (fun hHeld => ?_)
  refine wpAnyH_take (i := 0) (oi := ⟨some 5, .fieldAddr 71 (.tmp 2) 0, 0, "l09_vlan.go:119", #[], none⟩) (v := ?_) rfl (by kernel_rfl) (by kernel_rfl) (by kernel_rfl) (fun _ _ _ h => h) (Or.inl ⟨by rfl, ?_⟩) (by assumption) ?_
  rotate_left
  ·(intro wY hSw; (try dsimp only at hSw); go_simp; try with_reducible rfl)
  simp only [Act.put, lA, lB, lC]
  refine wpAnyH_take (i := 1) (oi := ⟨some 6, .load 3 (.tmp 5), 3, "l09_vlan.go:119", #[⟨0, .data⟩], none⟩) (v := ?_) rfl (by kernel_rfl) (by kernel_rfl) (by kernel_rfl) (fun _ _ _ h => h) (Or.inl ⟨by rfl, ?_⟩) (by assumption) ?_
  rotate_left
  ·(intro wY hSw; (try dsimp only at hSw); go_simp; try with_reducible rfl)
  simp only [Act.put, lA, lB, lC]
  refine wpAnyH_ready (rs := [2]) (by kernel_rfl) (by simp) ?_
  refine AllReadyH.cons (o := ⟨some 7, .call ⟨.value (.func 16), #[.tmp 6, .const (.int .i64 1), .const (.int .i64 99)], #[3, 3, 3]⟩, 4, "l09_vlan.go:119", #[⟨1, .data⟩], none⟩) rfl (fun K hK => ?_) ?_
  ·go_simp
   refine (implIn9_any r.i 1 99 _).mono ?_
   rintro e wz ⟨rfl, rfl⟩
   rw [show (decide (1 ≤ r.i) && decide (r.i ≤ 99)) = false from H1.out]
   go_wp2_with fail
   refine hK.out _ _ (HS.out _ vv) (fun hHeld => ?_)
   clear hK K
   try simp only [Act.put, lA, lB, lC]
   refine wpAnyH_take (i := 3) (oi := ⟨some 8, .move (.tmp 7), 4, "l09_vlan.go:119", #[⟨2, .data⟩, ⟨2, .chain⟩], none⟩) (v := ?_) rfl (by kernel_rfl) (by kernel_rfl) (by kernel_rfl) (fun _ _ _ h => h) (Or.inl ⟨by rfl, ?_⟩) (by assumption) ?_
   rotate_left
   ·(intro wY hSw; (try dsimp only at hSw); go_simp; try with_reducible rfl)
   simp only [Act.put, lA, lB, lC]
   refine wpAnyH_take (i := 4) (oi := ⟨some 9, .fieldAddr 71 (.tmp 2) 1, 0, "l09_vlan.go:119", #[⟨3, .guard⟩], some (3, true)⟩) (v := undef) rfl (by kernel_rfl) (by kernel_rfl) (by kernel_rfl) (fun _ _ _ h => h) (Or.inr ⟨by rfl, rfl⟩) (by assumption) ?_
   simp only [Act.put, lA, lB, lC]
   refine wpAnyH_take (i := 5) (oi := ⟨some 10, .load 3 (.tmp 9), 3, "l09_vlan.go:119", #[⟨4, .data⟩, ⟨3, .guard⟩], some (3, true)⟩) (v := undef) rfl (by kernel_rfl) (by kernel_rfl) (by kernel_rfl) (fun _ _ _ h => h) (Or.inr ⟨by rfl, rfl⟩) (by assumption) ?_
   simp only [Act.put, lA, lB, lC]
   refine wpAnyH_take (i := 6) (oi := ⟨some 11, .move (.tmp 1), 3, "l09_vlan.go:119", #[⟨3, .guard⟩], some (3, true)⟩) (v := undef) rfl (by kernel_rfl) (by kernel_rfl) (by kernel_rfl) (fun _ _ _ h => h) (Or.inr ⟨by rfl, rfl⟩) (by assumption) ?_
   simp only [Act.put, lA, lB, lC]
   refine wpAnyH_take (i := 7) (oi := ⟨some 12, .call ⟨.value (.func 43), #[.tmp 11], #[3]⟩, 3, "l09_vlan.go:119", #[⟨6, .data⟩, ⟨3, .chain⟩, ⟨3, .guard⟩], some (3, true)⟩) (v := undef) rfl (by kernel_rfl) (by kernel_rfl) (by kernel_rfl) (fun _ _ _ h => h) (Or.inr ⟨by rfl, rfl⟩) (by assumption) ?_
   simp only [Act.put, lA, lB, lC]
   refine wpAnyH_take (i := 8) (oi := ⟨some 13, .binOp .andNot 3 (.tmp 10) (.tmp 12) 3, 3, "l09_vlan.go:119", #[⟨5, .data⟩, ⟨7, .data⟩, ⟨3, .guard⟩], some (3, true)⟩) (v := undef) rfl (by kernel_rfl) (by kernel_rfl) (by kernel_rfl) (fun _ _ _ h => h) (Or.inr ⟨by rfl, rfl⟩) (by assumption) ?_
   simp only [Act.put, lA, lB, lC]
   refine wpAnyH_take (i := 9) (oi := ⟨some 14, .binOp .eql 3 (.tmp 13) (.const (.int .i64 0)) 3, 4, "l09_vlan.go:119", #[⟨8, .data⟩, ⟨3, .guard⟩], some (3, true)⟩) (v := undef) rfl (by kernel_rfl) (by kernel_rfl) (by kernel_rfl) (fun _ _ _ h => h) (Or.inr ⟨by rfl, rfl⟩) (by assumption) ?_
   simp only [Act.put, lA, lB, lC]
   refine wpAnyH_take (i := 10) (oi := ⟨some 15, .pick (.tmp 8) (.tmp 14) (.const (.bool false)), 4, "l09_vlan.go:119", #[⟨3, .data⟩, ⟨9, .data⟩], none⟩) (v := ?_) rfl (by kernel_rfl) (by kernel_rfl) (by kernel_rfl) (fun _ _ _ h => h) (Or.inl ⟨by rfl, ?_⟩) (by assumption) ?_
   rotate_left
   ·(intro wY hSw; (try dsimp only at hSw); go_simp; try with_reducible rfl)
   simp only [Act.put, lA, lB, lC]
   refine wpAnyH_take (i := 11) (oi := ⟨some 16, .move (.tmp 15), 4, "l09_vlan.go:119", #[⟨10, .data⟩, ⟨7, .chain⟩], none⟩) (v := ?_) rfl (by kernel_rfl) (by kernel_rfl) (by kernel_rfl) (fun _ _ _ h => h) (Or.inl ⟨by rfl, ?_⟩) (by assumption) ?_
   rotate_left
   ·(intro wY hSw; (try dsimp only at hSw); go_simp; try with_reducible rfl)
   simp only [Act.put, lA, lB, lC]
   refine wpAnyH_take (i := 12) (oi := ⟨some 17, .fieldAddr 71 (.tmp 2) 2, 0, "l09_vlan.go:119", #[⟨11, .guard⟩], some (11, true)⟩) (v := undef) rfl (by kernel_rfl) (by kernel_rfl) (by kernel_rfl) (fun _ _ _ h => h) (Or.inr ⟨by rfl, rfl⟩) (by assumption) ?_
   simp only [Act.put, lA, lB, lC]
   refine wpAnyH_take (i := 13) (oi := ⟨some 18, .load 3 (.tmp 17), 3, "l09_vlan.go:119", #[⟨12, .data⟩, ⟨11, .guard⟩], some (11, true)⟩) (v := undef) rfl (by kernel_rfl) (by kernel_rfl) (by kernel_rfl) (fun _ _ _ h => h) (Or.inr ⟨by rfl, rfl⟩) (by assumption) ?_
   simp only [Act.put, lA, lB, lC]
   refine wpAnyH_take (i := 14) (oi := ⟨some 19, .fieldAddr 71 (.tmp 2) 1, 0, "l09_vlan.go:119", #[⟨11, .guard⟩], some (11, true)⟩) (v := undef) rfl (by kernel_rfl) (by kernel_rfl) (by kernel_rfl) (fun _ _ _ h => h) (Or.inr ⟨by rfl, rfl⟩) (by assumption) ?_
   simp only [Act.put, lA, lB, lC]
   refine wpAnyH_take (i := 15) (oi := ⟨some 20, .load 3 (.tmp 19), 3, "l09_vlan.go:119", #[⟨14, .data⟩, ⟨11, .guard⟩], some (11, true)⟩) (v := undef) rfl (by kernel_rfl) (by kernel_rfl) (by kernel_rfl) (fun _ _ _ h => h) (Or.inr ⟨by rfl, rfl⟩) (by assumption) ?_
   simp only [Act.put, lA, lB, lC]
   refine wpAnyH_take (i := 16) (oi := ⟨some 21, .binOp .andNot 3 (.tmp 18) (.tmp 20) 3, 3, "l09_vlan.go:119", #[⟨13, .data⟩, ⟨15, .data⟩, ⟨11, .guard⟩], some (11, true)⟩) (v := undef) rfl (by kernel_rfl) (by kernel_rfl) (by kernel_rfl) (fun _ _ _ h => h) (Or.inr ⟨by rfl, rfl⟩) (by assumption) ?_
   simp only [Act.put, lA, lB, lC]
   refine wpAnyH_take (i := 17) (oi := ⟨some 22, .binOp .eql 3 (.tmp 21) (.const (.int .i64 0)) 3, 4, "l09_vlan.go:119", #[⟨16, .data⟩, ⟨11, .guard⟩], some (11, true)⟩) (v := undef) rfl (by kernel_rfl) (by kernel_rfl) (by kernel_rfl) (fun _ _ _ h => h) (Or.inr ⟨by rfl, rfl⟩) (by assumption) ?_
   simp only [Act.put, lA, lB, lC]
   refine wpAnyH_take (i := 18) (oi := ⟨some 23, .pick (.tmp 16) (.tmp 22) (.const (.bool false)), 4, "l09_vlan.go:119", #[⟨11, .data⟩, ⟨17, .data⟩], none⟩) (v := ?_) rfl (by kernel_rfl) (by kernel_rfl) (by kernel_rfl) (fun _ _ _ h => h) (Or.inl ⟨by rfl, ?_⟩) (by assumption) ?_
   rotate_left
   ·(intro wY hSw; (try dsimp only at hSw); go_simp; try with_reducible rfl)
   simp only [Act.put, lA, lB, lC]
   refine wpAnyH_take (i := 19) (oi := ⟨some 4, .assign (.tmp 23), 4, "l09_vlan.go:119", #[⟨18, .data⟩, ⟨11, .chain⟩, ⟨0, .phase⟩, ⟨1, .phase⟩, ⟨2, .phase⟩, ⟨3, .phase⟩, ⟨4, .phase⟩, ⟨5, .phase⟩, ⟨6, .phase⟩, ⟨7, .phase⟩, ⟨8, .phase⟩, ⟨9, .phase⟩, ⟨10, .phase⟩, ⟨11, .phase⟩, ⟨12, .phase⟩, ⟨13, .phase⟩, ⟨14, .phase⟩, ⟨15, .phase⟩, ⟨16, .phase⟩, ⟨17, .phase⟩, ⟨18, .phase⟩], none⟩) (v := ?_) rfl (by kernel_rfl) (by kernel_rfl) (by kernel_rfl) (fun _ _ _ h => h) (Or.inl ⟨by rfl, ?_⟩) (by assumption) ?_
   rotate_left
   ·(intro wY hSw; (try dsimp only at hSw); go_simp; try with_reducible rfl)
   simp only [Act.put, lA, lB, lC]
   refine wpAnyH_done (by kernel_rfl) ?_ _
   have HB := hide (gr_trans q vv)
   clear HS vv q
   go_wp2
   go_ret
   exact ⟨rfl, HB.out⟩
  exact AllReadyH.nil
 ·have H1 := hide h1
  clear h1
  cases h2 : (bits .andNot .i64 r.m (allOf p) == 0)
  ·simp only [Bool.true_and, Bool.false_and]
   go_enter Try.func69, Try.ntmps69
   go_wp2_with fail
   refine wp_region_held_drew (S := (fun W => W.cell? ⟨w.heap.size, 0, none⟩ = some (.int .i64 r.i) ∧ W.cell? ⟨w.heap.size, 1, none⟩ = some (.int .i64 r.m) ∧ W.cell? ⟨w.heap.size, 2, none⟩ = some (.int .i64 r.b))) (by kernel_rfl) (HS.out _ vv) (fun hHeld => ?_)
   refine wpAnyH_take (i := 0) (oi := ⟨some 5, .fieldAddr 71 (.tmp 2) 0, 0, "l09_vlan.go:119", #[], none⟩) (v := ?_) rfl (by kernel_rfl) (by kernel_rfl) (by kernel_rfl) (fun _ _ _ h => h) (Or.inl ⟨by rfl, ?_⟩) (by assumption) ?_
   rotate_left
   ·(intro wY hSw; (try dsimp only at hSw); go_simp; try with_reducible rfl)
   simp only [Act.put, lA, lB, lC]
   refine wpAnyH_take (i := 1) (oi := ⟨some 6, .load 3 (.tmp 5), 3, "l09_vlan.go:119", #[⟨0, .data⟩], none⟩) (v := ?_) rfl (by kernel_rfl) (by kernel_rfl) (by kernel_rfl) (fun _ _ _ h => h) (Or.inl ⟨by rfl, ?_⟩) (by assumption) ?_
   rotate_left
   ·(intro wY hSw; (try dsimp only at hSw); go_simp; try with_reducible rfl)
   simp only [Act.put, lA, lB, lC]
   refine wpAnyH_ready (rs := [2]) (by kernel_rfl) (by simp) ?_
   refine AllReadyH.cons (o := ⟨some 7, .call ⟨.value (.func 16), #[.tmp 6, .const (.int .i64 1), .const (.int .i64 99)], #[3, 3, 3]⟩, 4, "l09_vlan.go:119", #[⟨1, .data⟩], none⟩) rfl (fun K hK => ?_) ?_
   ·go_simp
    refine (implIn9_any r.i 1 99 _).mono ?_
    rintro e wz ⟨rfl, rfl⟩
    rw [show (decide (1 ≤ r.i) && decide (r.i ≤ 99)) = true from H1.out]
    go_wp2_with fail
    refine hK.out _ _ (HS.out _ vv) (fun hHeld => ?_)
    clear hK K
    try simp only [Act.put, lA, lB, lC]
    refine wpAnyH_take (i := 3) (oi := ⟨some 8, .move (.tmp 7), 4, "l09_vlan.go:119", #[⟨2, .data⟩, ⟨2, .chain⟩], none⟩) (v := ?_) rfl (by kernel_rfl) (by kernel_rfl) (by kernel_rfl) (fun _ _ _ h => h) (Or.inl ⟨by rfl, ?_⟩) (by assumption) ?_
    rotate_left
    ·(intro wY hSw; (try dsimp only at hSw); go_simp; try with_reducible rfl)
    simp only [Act.put, lA, lB, lC]
    refine wpAnyH_take (i := 4) (oi := ⟨some 9, .fieldAddr 71 (.tmp 2) 1, 0, "l09_vlan.go:119", #[⟨3, .guard⟩], some (3, true)⟩) (v := ?_) rfl (by kernel_rfl) (by kernel_rfl) (by kernel_rfl) (fun _ _ _ h => h) (Or.inl ⟨by rfl, ?_⟩) (by assumption) ?_
    rotate_left
    ·(intro wY hSw; (try dsimp only at hSw); go_simp; try with_reducible rfl)
    simp only [Act.put, lA, lB, lC]
    refine wpAnyH_take (i := 5) (oi := ⟨some 10, .load 3 (.tmp 9), 3, "l09_vlan.go:119", #[⟨4, .data⟩, ⟨3, .guard⟩], some (3, true)⟩) (v := ?_) rfl (by kernel_rfl) (by kernel_rfl) (by kernel_rfl) (fun _ _ _ h => h) (Or.inl ⟨by rfl, ?_⟩) (by assumption) ?_
    rotate_left
    ·(intro wY hSw; (try dsimp only at hSw); go_simp; try with_reducible rfl)
    simp only [Act.put, lA, lB, lC]
    refine wpAnyH_take (i := 6) (oi := ⟨some 11, .move (.tmp 1), 3, "l09_vlan.go:119", #[⟨3, .guard⟩], some (3, true)⟩) (v := ?_) rfl (by kernel_rfl) (by kernel_rfl) (by kernel_rfl) (fun _ _ _ h => h) (Or.inl ⟨by rfl, ?_⟩) (by assumption) ?_
    rotate_left
    ·(intro wY hSw; (try dsimp only at hSw); go_simp; try with_reducible rfl)
    simp only [Act.put, lA, lB, lC]
    refine wpAnyH_ready (rs := [7]) (by kernel_rfl) (by simp) ?_
    refine AllReadyH.cons (o := ⟨some 12, .call ⟨.value (.func 43), #[.tmp 11], #[3]⟩, 3, "l09_vlan.go:119", #[⟨6, .data⟩, ⟨3, .chain⟩, ⟨3, .guard⟩], some (3, true)⟩) rfl (fun K hK => ?_) ?_
    ·go_simp
     refine (portBits_any p hp1 hp6 _).mono ?_
     rintro e wz ⟨rfl, rfl⟩
     go_wp2_with fail
     refine hK.out _ _ (HS.out _ vv) (fun hHeld => ?_)
     clear hK K
     try simp only [Act.put, lA, lB, lC]
     refine wpAnyH_take (i := 8) (oi := ⟨some 13, .binOp .andNot 3 (.tmp 10) (.tmp 12) 3, 3, "l09_vlan.go:119", #[⟨5, .data⟩, ⟨7, .data⟩, ⟨3, .guard⟩], some (3, true)⟩) (v := ?_) rfl (by kernel_rfl) (by kernel_rfl) (by kernel_rfl) (fun _ _ _ h => h) (Or.inl ⟨by rfl, ?_⟩) (by assumption) ?_
     rotate_left
     ·(intro wY hSw; (try dsimp only at hSw); go_simp; try with_reducible rfl)
     simp only [Act.put, lA, lB, lC]
     refine wpAnyH_take (i := 9) (oi := ⟨some 14, .binOp .eql 3 (.tmp 13) (.const (.int .i64 0)) 3, 4, "l09_vlan.go:119", #[⟨8, .data⟩, ⟨3, .guard⟩], some (3, true)⟩) (v := .bool false) rfl (by kernel_rfl) (by kernel_rfl) (by kernel_rfl) (fun _ _ _ h => h) (Or.inl ⟨by rfl, ?_⟩) (by assumption) ?_
     ·(intro wY hSw; (try dsimp only at hSw); go_simp; first | done | omega)
     simp only [Act.put, lA, lB, lC]
     refine wpAnyH_take (i := 10) (oi := ⟨some 15, .pick (.tmp 8) (.tmp 14) (.const (.bool false)), 4, "l09_vlan.go:119", #[⟨3, .data⟩, ⟨9, .data⟩], none⟩) (v := ?_) rfl (by kernel_rfl) (by kernel_rfl) (by kernel_rfl) (fun _ _ _ h => h) (Or.inl ⟨by rfl, ?_⟩) (by assumption) ?_
     rotate_left
     ·(intro wY hSw; (try dsimp only at hSw); go_simp; try with_reducible rfl)
     simp only [Act.put, lA, lB, lC]
     refine wpAnyH_take (i := 11) (oi := ⟨some 16, .move (.tmp 15), 4, "l09_vlan.go:119", #[⟨10, .data⟩, ⟨7, .chain⟩], none⟩) (v := ?_) rfl (by kernel_rfl) (by kernel_rfl) (by kernel_rfl) (fun _ _ _ h => h) (Or.inl ⟨by rfl, ?_⟩) (by assumption) ?_
     rotate_left
     ·(intro wY hSw; (try dsimp only at hSw); go_simp; try with_reducible rfl)
     simp only [Act.put, lA, lB, lC]
     refine wpAnyH_take (i := 12) (oi := ⟨some 17, .fieldAddr 71 (.tmp 2) 2, 0, "l09_vlan.go:119", #[⟨11, .guard⟩], some (11, true)⟩) (v := undef) rfl (by kernel_rfl) (by kernel_rfl) (by kernel_rfl) (fun _ _ _ h => h) (Or.inr ⟨by rfl, rfl⟩) (by assumption) ?_
     simp only [Act.put, lA, lB, lC]
     refine wpAnyH_take (i := 13) (oi := ⟨some 18, .load 3 (.tmp 17), 3, "l09_vlan.go:119", #[⟨12, .data⟩, ⟨11, .guard⟩], some (11, true)⟩) (v := undef) rfl (by kernel_rfl) (by kernel_rfl) (by kernel_rfl) (fun _ _ _ h => h) (Or.inr ⟨by rfl, rfl⟩) (by assumption) ?_
     simp only [Act.put, lA, lB, lC]
     refine wpAnyH_take (i := 14) (oi := ⟨some 19, .fieldAddr 71 (.tmp 2) 1, 0, "l09_vlan.go:119", #[⟨11, .guard⟩], some (11, true)⟩) (v := undef) rfl (by kernel_rfl) (by kernel_rfl) (by kernel_rfl) (fun _ _ _ h => h) (Or.inr ⟨by rfl, rfl⟩) (by assumption) ?_
     simp only [Act.put, lA, lB, lC]
     refine wpAnyH_take (i := 15) (oi := ⟨some 20, .load 3 (.tmp 19), 3, "l09_vlan.go:119", #[⟨14, .data⟩, ⟨11, .guard⟩], some (11, true)⟩) (v := undef) rfl (by kernel_rfl) (by kernel_rfl) (by kernel_rfl) (fun _ _ _ h => h) (Or.inr ⟨by rfl, rfl⟩) (by assumption) ?_
     simp only [Act.put, lA, lB, lC]
     refine wpAnyH_take (i := 16) (oi := ⟨some 21, .binOp .andNot 3 (.tmp 18) (.tmp 20) 3, 3, "l09_vlan.go:119", #[⟨13, .data⟩, ⟨15, .data⟩, ⟨11, .guard⟩], some (11, true)⟩) (v := undef) rfl (by kernel_rfl) (by kernel_rfl) (by kernel_rfl) (fun _ _ _ h => h) (Or.inr ⟨by rfl, rfl⟩) (by assumption) ?_
     simp only [Act.put, lA, lB, lC]
     refine wpAnyH_take (i := 17) (oi := ⟨some 22, .binOp .eql 3 (.tmp 21) (.const (.int .i64 0)) 3, 4, "l09_vlan.go:119", #[⟨16, .data⟩, ⟨11, .guard⟩], some (11, true)⟩) (v := undef) rfl (by kernel_rfl) (by kernel_rfl) (by kernel_rfl) (fun _ _ _ h => h) (Or.inr ⟨by rfl, rfl⟩) (by assumption) ?_
     simp only [Act.put, lA, lB, lC]
     refine wpAnyH_take (i := 18) (oi := ⟨some 23, .pick (.tmp 16) (.tmp 22) (.const (.bool false)), 4, "l09_vlan.go:119", #[⟨11, .data⟩, ⟨17, .data⟩], none⟩) (v := ?_) rfl (by kernel_rfl) (by kernel_rfl) (by kernel_rfl) (fun _ _ _ h => h) (Or.inl ⟨by rfl, ?_⟩) (by assumption) ?_
     rotate_left
     ·(intro wY hSw; (try dsimp only at hSw); go_simp; try with_reducible rfl)
     simp only [Act.put, lA, lB, lC]
     refine wpAnyH_take (i := 19) (oi := ⟨some 4, .assign (.tmp 23), 4, "l09_vlan.go:119", #[⟨18, .data⟩, ⟨11, .chain⟩, ⟨0, .phase⟩, ⟨1, .phase⟩, ⟨2, .phase⟩, ⟨3, .phase⟩, ⟨4, .phase⟩, ⟨5, .phase⟩, ⟨6, .phase⟩, ⟨7, .phase⟩, ⟨8, .phase⟩, ⟨9, .phase⟩, ⟨10, .phase⟩, ⟨11, .phase⟩, ⟨12, .phase⟩, ⟨13, .phase⟩, ⟨14, .phase⟩, ⟨15, .phase⟩, ⟨16, .phase⟩, ⟨17, .phase⟩, ⟨18, .phase⟩], none⟩) (v := ?_) rfl (by kernel_rfl) (by kernel_rfl) (by kernel_rfl) (fun _ _ _ h => h) (Or.inl ⟨by rfl, ?_⟩) (by assumption) ?_
     rotate_left
     ·(intro wY hSw; (try dsimp only at hSw); go_simp; try with_reducible rfl)
     simp only [Act.put, lA, lB, lC]
     refine wpAnyH_done (by kernel_rfl) ?_ _
     have HB := hide (gr_trans q vv)
     clear HS vv q
     go_wp2
     go_ret
     exact ⟨rfl, HB.out⟩
    exact AllReadyH.nil
   exact AllReadyH.nil
  ·simp only [Bool.true_and]
   generalize hd : (bits .andNot .i64 r.b r.m == 0) = d
   go_enter Try.func69, Try.ntmps69
   go_wp2_with fail
   refine wp_region_held_drew (S := (fun W => W.cell? ⟨w.heap.size, 0, none⟩ = some (.int .i64 r.i) ∧ W.cell? ⟨w.heap.size, 1, none⟩ = some (.int .i64 r.m) ∧ W.cell? ⟨w.heap.size, 2, none⟩ = some (.int .i64 r.b))) (by kernel_rfl) (HS.out _ vv) (fun hHeld => ?_)
   refine wpAnyH_take (i := 0) (oi := ⟨some 5, .fieldAddr 71 (.tmp 2) 0, 0, "l09_vlan.go:119", #[], none⟩) (v := ?_) rfl (by kernel_rfl) (by kernel_rfl) (by kernel_rfl) (fun _ _ _ h => h) (Or.inl ⟨by rfl, ?_⟩) (by assumption) ?_
   rotate_left
   ·(intro wY hSw; (try dsimp only at hSw); go_simp; try with_reducible rfl)
   simp only [Act.put, lA, lB, lC]
   refine wpAnyH_take (i := 1) (oi := ⟨some 6, .load 3 (.tmp 5), 3, "l09_vlan.go:119", #[⟨0, .data⟩], none⟩) (v := ?_) rfl (by kernel_rfl) (by kernel_rfl) (by kernel_rfl) (fun _ _ _ h => h) (Or.inl ⟨by rfl, ?_⟩) (by assumption) ?_
   rotate_left
   ·(intro wY hSw; (try dsimp only at hSw); go_simp; try with_reducible rfl)
   simp only [Act.put, lA, lB, lC]
   refine wpAnyH_ready (rs := [2]) (by kernel_rfl) (by simp) ?_
   refine AllReadyH.cons (o := ⟨some 7, .call ⟨.value (.func 16), #[.tmp 6, .const (.int .i64 1), .const (.int .i64 99)], #[3, 3, 3]⟩, 4, "l09_vlan.go:119", #[⟨1, .data⟩], none⟩) rfl (fun K hK => ?_) ?_
   ·go_simp
    refine (implIn9_any r.i 1 99 _).mono ?_
    rintro e wz ⟨rfl, rfl⟩
    rw [show (decide (1 ≤ r.i) && decide (r.i ≤ 99)) = true from H1.out]
    go_wp2_with fail
    refine hK.out _ _ (HS.out _ vv) (fun hHeld => ?_)
    clear hK K
    try simp only [Act.put, lA, lB, lC]
    refine wpAnyH_take (i := 3) (oi := ⟨some 8, .move (.tmp 7), 4, "l09_vlan.go:119", #[⟨2, .data⟩, ⟨2, .chain⟩], none⟩) (v := ?_) rfl (by kernel_rfl) (by kernel_rfl) (by kernel_rfl) (fun _ _ _ h => h) (Or.inl ⟨by rfl, ?_⟩) (by assumption) ?_
    rotate_left
    ·(intro wY hSw; (try dsimp only at hSw); go_simp; try with_reducible rfl)
    simp only [Act.put, lA, lB, lC]
    refine wpAnyH_take (i := 4) (oi := ⟨some 9, .fieldAddr 71 (.tmp 2) 1, 0, "l09_vlan.go:119", #[⟨3, .guard⟩], some (3, true)⟩) (v := ?_) rfl (by kernel_rfl) (by kernel_rfl) (by kernel_rfl) (fun _ _ _ h => h) (Or.inl ⟨by rfl, ?_⟩) (by assumption) ?_
    rotate_left
    ·(intro wY hSw; (try dsimp only at hSw); go_simp; try with_reducible rfl)
    simp only [Act.put, lA, lB, lC]
    refine wpAnyH_take (i := 5) (oi := ⟨some 10, .load 3 (.tmp 9), 3, "l09_vlan.go:119", #[⟨4, .data⟩, ⟨3, .guard⟩], some (3, true)⟩) (v := ?_) rfl (by kernel_rfl) (by kernel_rfl) (by kernel_rfl) (fun _ _ _ h => h) (Or.inl ⟨by rfl, ?_⟩) (by assumption) ?_
    rotate_left
    ·(intro wY hSw; (try dsimp only at hSw); go_simp; try with_reducible rfl)
    simp only [Act.put, lA, lB, lC]
    refine wpAnyH_take (i := 6) (oi := ⟨some 11, .move (.tmp 1), 3, "l09_vlan.go:119", #[⟨3, .guard⟩], some (3, true)⟩) (v := ?_) rfl (by kernel_rfl) (by kernel_rfl) (by kernel_rfl) (fun _ _ _ h => h) (Or.inl ⟨by rfl, ?_⟩) (by assumption) ?_
    rotate_left
    ·(intro wY hSw; (try dsimp only at hSw); go_simp; try with_reducible rfl)
    simp only [Act.put, lA, lB, lC]
    refine wpAnyH_ready (rs := [7]) (by kernel_rfl) (by simp) ?_
    refine AllReadyH.cons (o := ⟨some 12, .call ⟨.value (.func 43), #[.tmp 11], #[3]⟩, 3, "l09_vlan.go:119", #[⟨6, .data⟩, ⟨3, .chain⟩, ⟨3, .guard⟩], some (3, true)⟩) rfl (fun K hK => ?_) ?_
    ·go_simp
     refine (portBits_any p hp1 hp6 _).mono ?_
     rintro e wz ⟨rfl, rfl⟩
     go_wp2_with fail
     refine hK.out _ _ (HS.out _ vv) (fun hHeld => ?_)
     clear hK K
     try simp only [Act.put, lA, lB, lC]
     refine wpAnyH_take (i := 8) (oi := ⟨some 13, .binOp .andNot 3 (.tmp 10) (.tmp 12) 3, 3, "l09_vlan.go:119", #[⟨5, .data⟩, ⟨7, .data⟩, ⟨3, .guard⟩], some (3, true)⟩) (v := ?_) rfl (by kernel_rfl) (by kernel_rfl) (by kernel_rfl) (fun _ _ _ h => h) (Or.inl ⟨by rfl, ?_⟩) (by assumption) ?_
     rotate_left
     ·(intro wY hSw; (try dsimp only at hSw); go_simp; try with_reducible rfl)
     simp only [Act.put, lA, lB, lC]
     refine wpAnyH_take (i := 9) (oi := ⟨some 14, .binOp .eql 3 (.tmp 13) (.const (.int .i64 0)) 3, 4, "l09_vlan.go:119", #[⟨8, .data⟩, ⟨3, .guard⟩], some (3, true)⟩) (v := .bool true) rfl (by kernel_rfl) (by kernel_rfl) (by kernel_rfl) (fun _ _ _ h => h) (Or.inl ⟨by rfl, ?_⟩) (by assumption) ?_
     ·(intro wY hSw; (try dsimp only at hSw); go_simp; first | done | omega)
     simp only [Act.put, lA, lB, lC]
     refine wpAnyH_take (i := 10) (oi := ⟨some 15, .pick (.tmp 8) (.tmp 14) (.const (.bool false)), 4, "l09_vlan.go:119", #[⟨3, .data⟩, ⟨9, .data⟩], none⟩) (v := ?_) rfl (by kernel_rfl) (by kernel_rfl) (by kernel_rfl) (fun _ _ _ h => h) (Or.inl ⟨by rfl, ?_⟩) (by assumption) ?_
     rotate_left
     ·(intro wY hSw; (try dsimp only at hSw); go_simp; try with_reducible rfl)
     simp only [Act.put, lA, lB, lC]
     refine wpAnyH_take (i := 11) (oi := ⟨some 16, .move (.tmp 15), 4, "l09_vlan.go:119", #[⟨10, .data⟩, ⟨7, .chain⟩], none⟩) (v := ?_) rfl (by kernel_rfl) (by kernel_rfl) (by kernel_rfl) (fun _ _ _ h => h) (Or.inl ⟨by rfl, ?_⟩) (by assumption) ?_
     rotate_left
     ·(intro wY hSw; (try dsimp only at hSw); go_simp; try with_reducible rfl)
     simp only [Act.put, lA, lB, lC]
     refine wpAnyH_take (i := 12) (oi := ⟨some 17, .fieldAddr 71 (.tmp 2) 2, 0, "l09_vlan.go:119", #[⟨11, .guard⟩], some (11, true)⟩) (v := ?_) rfl (by kernel_rfl) (by kernel_rfl) (by kernel_rfl) (fun _ _ _ h => h) (Or.inl ⟨by rfl, ?_⟩) (by assumption) ?_
     rotate_left
     ·(intro wY hSw; (try dsimp only at hSw); go_simp; try with_reducible rfl)
     simp only [Act.put, lA, lB, lC]
     refine wpAnyH_take (i := 13) (oi := ⟨some 18, .load 3 (.tmp 17), 3, "l09_vlan.go:119", #[⟨12, .data⟩, ⟨11, .guard⟩], some (11, true)⟩) (v := ?_) rfl (by kernel_rfl) (by kernel_rfl) (by kernel_rfl) (fun _ _ _ h => h) (Or.inl ⟨by rfl, ?_⟩) (by assumption) ?_
     rotate_left
     ·(intro wY hSw; (try dsimp only at hSw); go_simp; try with_reducible rfl)
     simp only [Act.put, lA, lB, lC]
     refine wpAnyH_take (i := 14) (oi := ⟨some 19, .fieldAddr 71 (.tmp 2) 1, 0, "l09_vlan.go:119", #[⟨11, .guard⟩], some (11, true)⟩) (v := ?_) rfl (by kernel_rfl) (by kernel_rfl) (by kernel_rfl) (fun _ _ _ h => h) (Or.inl ⟨by rfl, ?_⟩) (by assumption) ?_
     rotate_left
     ·(intro wY hSw; (try dsimp only at hSw); go_simp; try with_reducible rfl)
     simp only [Act.put, lA, lB, lC]
     refine wpAnyH_take (i := 15) (oi := ⟨some 20, .load 3 (.tmp 19), 3, "l09_vlan.go:119", #[⟨14, .data⟩, ⟨11, .guard⟩], some (11, true)⟩) (v := ?_) rfl (by kernel_rfl) (by kernel_rfl) (by kernel_rfl) (fun _ _ _ h => h) (Or.inl ⟨by rfl, ?_⟩) (by assumption) ?_
     rotate_left
     ·(intro wY hSw; (try dsimp only at hSw); go_simp; try with_reducible rfl)
     simp only [Act.put, lA, lB, lC]
     refine wpAnyH_take (i := 16) (oi := ⟨some 21, .binOp .andNot 3 (.tmp 18) (.tmp 20) 3, 3, "l09_vlan.go:119", #[⟨13, .data⟩, ⟨15, .data⟩, ⟨11, .guard⟩], some (11, true)⟩) (v := ?_) rfl (by kernel_rfl) (by kernel_rfl) (by kernel_rfl) (fun _ _ _ h => h) (Or.inl ⟨by rfl, ?_⟩) (by assumption) ?_
     rotate_left
     ·(intro wY hSw; (try dsimp only at hSw); go_simp; try with_reducible rfl)
     simp only [Act.put, lA, lB, lC]
     refine wpAnyH_take (i := 17) (oi := ⟨some 22, .binOp .eql 3 (.tmp 21) (.const (.int .i64 0)) 3, 4, "l09_vlan.go:119", #[⟨16, .data⟩, ⟨11, .guard⟩], some (11, true)⟩) (v := .bool d) rfl (by kernel_rfl) (by kernel_rfl) (by kernel_rfl) (fun _ _ _ h => h) (Or.inl ⟨by rfl, ?_⟩) (by assumption) ?_
     ·(intro wY hSw; (try dsimp only at hSw); go_simp; first | done | omega)
     simp only [Act.put, lA, lB, lC]
     refine wpAnyH_take (i := 18) (oi := ⟨some 23, .pick (.tmp 16) (.tmp 22) (.const (.bool false)), 4, "l09_vlan.go:119", #[⟨11, .data⟩, ⟨17, .data⟩], none⟩) (v := ?_) rfl (by kernel_rfl) (by kernel_rfl) (by kernel_rfl) (fun _ _ _ h => h) (Or.inl ⟨by rfl, ?_⟩) (by assumption) ?_
     rotate_left
     ·(intro wY hSw; (try dsimp only at hSw); go_simp; try with_reducible rfl)
     simp only [Act.put, lA, lB, lC]
     refine wpAnyH_take (i := 19) (oi := ⟨some 4, .assign (.tmp 23), 4, "l09_vlan.go:119", #[⟨18, .data⟩, ⟨11, .chain⟩, ⟨0, .phase⟩, ⟨1, .phase⟩, ⟨2, .phase⟩, ⟨3, .phase⟩, ⟨4, .phase⟩, ⟨5, .phase⟩, ⟨6, .phase⟩, ⟨7, .phase⟩, ⟨8, .phase⟩, ⟨9, .phase⟩, ⟨10, .phase⟩, ⟨11, .phase⟩, ⟨12, .phase⟩, ⟨13, .phase⟩, ⟨14, .phase⟩, ⟨15, .phase⟩, ⟨16, .phase⟩, ⟨17, .phase⟩, ⟨18, .phase⟩], none⟩) (v := ?_) rfl (by kernel_rfl) (by kernel_rfl) (by kernel_rfl) (fun _ _ _ h => h) (Or.inl ⟨by rfl, ?_⟩) (by assumption) ?_
     rotate_left
     ·(intro wY hSw; (try dsimp only at hSw); go_simp; try with_reducible rfl)
     simp only [Act.put, lA, lB, lC]
     refine wpAnyH_done (by kernel_rfl) ?_ _
     have HB := hide (gr_trans q vv)
     clear HS vv q
     go_wp2
     go_ret
     exact ⟨rfl, HB.out⟩
    exact AllReadyH.nil
   exact AllReadyH.nil

theorem vtab_in {v : VT} {ports : Int} (h : (decide (1 ≤ ports) && decide (ports ≤ 6)) = false) : vtabOk v ports = false := by
 unfold vtabOk in3
 rw [h]
 rfl
theorem vtab_len {v : VT} {ports : Int} (h : ¬ (v.own.length : Int) = ports) : vtabOk v ports = false := by
 unfold vtabOk
 rw [show ((v.own.length : Int) == ports) = false by simpa using h]
 simp
theorem vtab_many {v : VT} {ports : Int} (h : ¬ v.rows.length ≤ 6) : vtabOk v ports = false := by
 unfold vtabOk
 rw [decide_eq_false h]
 simp
theorem vtab_rise {v : VT} {ports : Int} (h : vrises v.rows = false) : vtabOk v ports = false := by
 unfold vtabOk
 rw [h]
 simp
theorem vtab_row {v : VT} {p k : Nat} {x : VR} (hx : v.rows[k]? = some x) (h : vrowOk (allOf p) x = false) : vtabOk v p = false := by
 have : v.rows.all (vrowOk (allOf p)) = false := by
  rw [List.all_eq_false]
  exact ⟨x, List.mem_of_getElem? hx, by rw [h]; simp⟩
 unfold vtabOk
 rw [Int.toNat_natCast, this]
 simp

def rowsTo (A : Int) (l : List VR) (k : Nat) : Prop := ∀ (i : Nat) (x : VR), i < k → l[i]? = some x → vrowOk A x = true

theorem rowsTo_next {A : Int} {l : List VR} {k : Nat} {x : VR} (h : rowsTo A l k) (hx : l[k]? = some x) (h1 : vrowOk A x = true) : rowsTo A l (k + 1) := by
 intro i z hi hz
 by_cases e : i = k
 ·subst e
  rw [hx] at hz
  cases hz
  exact h1
 ·exact h i z (by omega) hz

theorem vokTo_of {A : Int} {l : List VR} (h : rowsTo A l l.length) (hr : vrises l = true) : vokTo A l l.length := by
 refine (vokTo_iff A l).1 ⟨List.all_eq_true.2 fun x hx => ?_, hr⟩
 obtain ⟨i, hi⟩ := List.mem_iff_getElem?.1 hx
 exact h i x (List.getElem?_eq_some_iff.1 hi).1 hi

theorem rowAt_no {l : List VR} {id : Int} (h : rowIdx l id = none) : rowAt l id = -1 := by unfold rowAt; rw [h]
theorem rowAt_yes {l : List VR} {id : Int} {k : Nat} (h : rowIdx l id = some k) : rowAt l id = k := by unfold rowAt; rw [h]

set_option maxRecDepth 100000 in
set_option maxHeartbeats 4000000 in
theorem implVtabOk_any (a : Option Addr) (n c : Nat) (o : Option Addr) (p q : Nat) (v : VT) (ports : Int) (w : World) (h : VTab w a n c o p q v) (hR : ∀ r ∈ v.rows, r.Rng) :
  Calls Try.prog 40 #[.agg #[.slice a n c, .slice o p q], .int .i64 ports] w fun r w' => r = .returned (.bool (vtabOk v ports)) ∧ Below w.heap.size w w' := by
 have hle := h.rows.le
 have htop := h.rows.top
 have hle2 := h.own.le
 have htop2 := h.own.top
 unfold maxLen at htop htop2
 have hsz := hide h.rows.size
 have hsz2 := hide h.own.size
 generalize hw1 : w.alloc (Obj.cells #[Value.slice a n c, Value.slice o p q] 27) = w1
 have hW : Below w.heap.size w w1 := by subst hw1; exact below_one _ _
 obtain ⟨e0, e1⟩ := box_two hw1 (Below.refl _ w1)
 have h := h.below hW
 generalize hV : vtabOk v ports = V
 have HV := hide hV
 clear hV
 cases t1 : (decide (1 ≤ ports) && decide (ports ≤ 6))
 ·have HN := hide (vtab_in (v := v) t1)
  have T1 := hide t1
  clear t1
  go_enter Try.func40, Try.ntmps40
  go_wp2_with (refine (implIn9_any ports 1 6 _).mono ?_; rintro r w2 ⟨rfl, e2⟩; obtain rfl := e2.symm; rw [T1.out])
  go_ret
  exact ⟨ret_bool (by rw [← HV.out, HN.out]), hW⟩
 have T1 := hide t1
 simp only [Bool.and_eq_true, decide_eq_true_eq] at t1
 by_cases t2 : (p : Int) = ports
 case neg =>
  have HN := hide (vtab_len (v := v) (ports := ports) (by rw [hsz2.out]; exact t2))
  go_enter Try.func40, Try.ntmps40
  go_wp2_with (refine (implIn9_any ports 1 6 _).mono ?_; rintro r w2 ⟨rfl, e2⟩; obtain rfl := e2.symm; rw [T1.out])
  go_ret
  exact ⟨ret_bool (by rw [← HV.out, HN.out]), hW⟩
 subst t2
 by_cases t3 : n ≤ 6
 case neg =>
  have HN := hide (vtab_many (v := v) (ports := p) (by rw [hsz.out]; exact t3))
  go_enter Try.func40, Try.ntmps40
  go_wp2_with (refine (implIn9_any (p : Int) 1 6 _).mono ?_; rintro r w2 ⟨rfl, e2⟩; obtain rfl := e2.symm; rw [T1.out])
  go_ret
  exact ⟨ret_bool (by rw [← HV.out, HN.out]), hW⟩
 cases t4 : vrises v.rows
 ·have HN := hide (vtab_rise (v := v) (ports := p) t4)
  have T4 := hide t4
  clear t4
  go_enter Try.func40, Try.ntmps40
  go_wp2_with (refine (implIn9_any (p : Int) 1 6 _).mono ?_; rintro r w2 ⟨rfl, e2⟩; obtain rfl := e2.symm; rw [T1.out])
  refine (implRowsOf_any a n c o p q _).mono ?_
  rintro r w2 ⟨rfl, hb2⟩
  go_wp2_with fail
  refine (implAscends_any a n c v.rows _ (h.rows.below hb2)).mono ?_
  rintro r w3 ⟨rfl, hb3⟩
  rw [T4.out]
  have HB := hide (gr_trans hW (gr_trans hb2 hb3))
  clear hb2 hb3
  go_wp2
  go_ret
  exact ⟨ret_bool (by rw [← HV.out, HN.out]), HB.out⟩
 have T4 := hide t4
 clear t4
 go_enter Try.func40, Try.ntmps40
 go_wp2_with (refine (implIn9_any (p : Int) 1 6 _).mono ?_; rintro r w2 ⟨rfl, e2⟩; obtain rfl := e2.symm; rw [T1.out])
 refine (implRowsOf_any a n c o p q _).mono ?_
 rintro r w2 ⟨rfl, hb2⟩
 go_wp2_with fail
 refine (implAscends_any a n c v.rows _ (h.rows.below hb2)).mono ?_
 rintro r w3 ⟨rfl, hb3⟩
 rw [T4.out]
 have b13 := gr_trans hb2 hb3
 obtain ⟨x0, x1⟩ := box_two hw1 b13
 clear hb2 hb3 e0 e1
 go_wp2
 go_loopw [34] (fun i wr => ∃ k : Nat, k ≤ n ∧ i = .int .i64 k ∧ rowsTo (allOf p) v.rows k ∧ Below w1.heap.size w1 wr) (fun i _ => n - (intOf i).toNat)
 case atStart => exact ⟨0, Nat.zero_le _, rfl, fun i x hi => by omega, b13⟩
 case round =>
  obtain ⟨k, hk, rfl, hok, hb⟩ := hrel
  by_cases hlt : k < n
  ·obtain ⟨x, b, off, hx, rfl, c0, c1, c2⟩ := vrow_at (h.rows.below hb) k hlt
   have hxr : x.Rng := hR x (List.mem_of_getElem? hx)
   cases t5 : vrowOk (allOf p) x
   ·have HN := hide (vtab_row (v := v) (p := p) hx t5)
    have T5 := hide t5
    have HB := hide hb
    clear t5 hok hb hx x0 x1
    go_wp2_with fail
    refine (implVrowOk_any x p _ hxr (by omega) (by omega)).mono ?_
    rintro r w5 ⟨rfl, hb5⟩
    rw [T5.out]
    have HB1 := hide (gr_trans hW (gr_trans HB.out (gr_trans (below_one _ _) hb5)))
    clear hb5 c0 c1 c2
    go_wp2
    go_ret
    exact ⟨ret_bool (by rw [← HV.out, HN.out]), HB1.out⟩
   ·have HO := hide (rowsTo_next hok hx t5)
    have T5 := hide t5
    have HB := hide hb
    clear t5 hok hb hx x0 x1
    go_wp2_with fail
    refine (implVrowOk_any x p _ hxr (by omega) (by omega)).mono ?_
    rintro r w5 ⟨rfl, hb5⟩
    rw [T5.out]
    have HB1 := hide (gr_trans HB.out (gr_trans (below_one _ _) hb5))
    clear hb5 c0 c1 c2
    go_wp2
    go_roundw
    case rel => exact ⟨k + 1, by omega, by go_num, HO.out, HB1.out⟩
    case measure => simp [intOf]; omega
  ·have HK : Hid (vokTo (allOf p) v.rows v.rows.length) := hide (vokTo_of (fun i x hi hx => hok i x (by have := hsz.out; omega) hx) T4.out)
   obtain ⟨y0, y1⟩ := box_two hw1 hb
   have HB := hide hb
   have hkn : k = n := by omega
   clear hok hb x0 x1
   subst hkn
   go_wp2
   go_loopw [46] (fun i wr => ∃ k : Nat, k ≤ p ∧ i = .int .i64 k ∧ ownTo v k ∧ Below w1.heap.size w1 wr) (fun i _ => p - (intOf i).toNat)
   case atStart => exact ⟨0, Nat.zero_le _, rfl, fun i x hi => by omega, HB.out⟩
   case round =>
    obtain ⟨j, hj, rfl, hto, hb⟩ := hrel
    by_cases hlt : j < p
    ·obtain ⟨x, b, off, hx, rfl, c0⟩ := irow_at (h.own.below hb) j hlt
     obtain ⟨z0, z1⟩ := box_two hw1 hb
     clear y0 y1
     cases hr : rowIdx v.rows x with
     | none =>
      have HN := hide (vtab_own (p := p) (List.mem_of_getElem? hx) hr)
      have HA := hide (rowAt_no hr)
      have HB3 := hide hb
      clear hto hb hx hr
      go_wp2_with fail
      refine (implRowAt_any a k c v.rows (some ⟨b, off, none⟩) p q x _ (h.rows.below HB3.out)).mono ?_
      rintro r w5 ⟨rfl, hb5⟩
      rw [HA.out]
      have HB1 := hide (gr_trans hW (gr_trans HB3.out hb5))
      clear hb5 c0 z0 z1
      go_wp2
      go_ret
      exact ⟨ret_bool (by rw [← HV.out, HN.out]), HB1.out⟩
     | some i =>
      have HO := hide (ownTo_next hto hx (by rw [hr]; exact fun h => by cases h))
      have HA := hide (rowAt_yes hr)
      have HB3 := hide hb
      have hneg : ¬ ((i : Int) < 0) := by omega
      clear hto hb hx hr
      go_wp2_with fail
      refine (implRowAt_any a k c v.rows (some ⟨b, off, none⟩) p q x _ (h.rows.below HB3.out)).mono ?_
      rintro r w5 ⟨rfl, hb5⟩
      rw [HA.out]
      have HB1 := hide (gr_trans HB3.out hb5)
      clear hb5 c0 z0 z1
      go_wp2
      go_roundw
      case rel => exact ⟨j + 1, by omega, by go_num, HO.out, HB1.out⟩
      case measure => simp [intOf]; omega
    ·have HN : Hid (vtabOk v p = true) := hide (vtab_yes t1.1 t1.2 hsz2.out (by have := hsz.out; omega) HK.out (ownTo_all hto (by have := hsz2.out; omega)))
     have HB3 := hide (gr_trans hW hb)
     have hjn : j = p := by omega
     clear hto hb y0 y1
     subst hjn
     go_wp2
     go_ret
     exact ⟨ret_bool (by rw [← HV.out, HN.out]), HB3.out⟩

end Go.Proofs.Ytfefhilolhdonaa
