/-
  Packed: VtabCopy VtabOr VtabSet VtabRowM BrOwn VtabNewS VtabHelp.
-/
import Derived.Test.YtnichegfadgpdaaPUK01
import Derived.Test.YtnichegfadgpdaaPUK03
import Derived.Test.YtnichegfadgpdaaPUVtabOkS
namespace Go.Proofs.Ytnichegfadgpdaa
open Go.RowKit

def intF : Flat Int where
 k := 1
 cs := fun x => [.int .i64 x]
 len := fun _ => rfl
 pos := by decide
 one := fun _ v hv => by
  simp only [List.mem_cons, List.not_mem_nil, or_false] at hv
  subst hv
  rfl

theorem intF_all : ∀ (l : List Int), intF.all l = cI l
 | [] => rfl
 | x :: l => by
  have := intF_all l
  rw [Flat.all_cons, this]
  rfl

theorem gown_type {w w' : World} {base k : Nat} {e : TypeId} {v : Value} {n : Nat} {xs : List Value} (h : w.ownsRow base e k v n xs) {base2 k2 : Nat} {e2 : TypeId} {v2 : Value} {n2 : Nat} {xs2 : List Value} (h2 : w.ownsRow base2 e2 k2 v2 n2 xs2) (hne : (e : Nat) ≠ e2) (hg : w.grownBy w' v2.ownBlock) : w'.ownsRow base e k v n xs := by
 refine h.kept hg ?_
 obtain ⟨-, h | ⟨g, cap, cur, e1, -, hh, -⟩⟩ := h
 ·rw [h.1]; exact .inl rfl
 ·obtain ⟨-, h2 | ⟨g2, cap2, cur2, e2', -, hh2, -⟩⟩ := h2
  ·rw [h2.1]; exact .inr (by rw [e1]; intro hc; cases hc)
  ·refine .inr (fun hc => ?_)
   rw [e1, e2'] at hc
   have hgg : g = g2 := by simpa [Value.ownBlock] using hc
   subst hgg
   rw [hh] at hh2
   cases hh2
   exact hne rfl

structure VOwn (w : World) (base : Nat) (a : Option Addr) (n c : Nat) (o : Option Addr) (p q : Nat) (v : VT) : Prop where
 rows : w.ownsRow base 130 3 (.slice a n c) n (vrowF.all v.rows)
 own : w.ownsRow base 3 1 (.slice o p q) p (cI v.own)
 i64 : I64s v.own

theorem VOwn.tab {w : World} {base : Nat} {a : Option Addr} {n c : Nat} {o : Option Addr} {p q : Nat} {v : VT} (h : VOwn w base a n c o p q v) : VTab w a n c o p q v := ⟨grow_own (F := vrowF) h.rows, irow_own h.own h.i64⟩

theorem VOwn.below {w w' : World} {base : Nat} {a : Option Addr} {n c : Nat} {o : Option Addr} {p q : Nat} {v : VT} (h : VOwn w base a n c o p q v) (hb : Below w.heap.size w w') : VOwn w' base a n c o p q v :=
 ⟨gown_below h.rows hb, gown_below h.own hb, h.i64⟩

theorem VOwn.lt {w : World} {base base' : Nat} {a : Option Addr} {n c : Nat} {o : Option Addr} {p q : Nat} {v : VT} (h : VOwn w base a n c o p q v) (hle : base' ≤ base) : VOwn w base' a n c o p q v :=
 ⟨gown_lt h.rows hle, gown_lt h.own hle, h.i64⟩

theorem VOwn.set2 {w : World} {base : Nat} {a : Option Addr} {n c : Nat} {o : Option Addr} {p q : Nat} {v : VT} (h : VOwn w base a n c o p q v) {g : Nat} (hg : g < base) (u1 u2 : Value) : VOwn ((w.setCell ⟨g, 0, none⟩ u1).setCell ⟨g, 1, none⟩ u2) base a n c o p q v := by
 have hl : ∀ b, some g = some b → b < base := by intro b hb; cases hb; exact hg
 exact ⟨gown_apart (gown_apart h.rows (grown_set (rb := g) 0 u1) hl) (grown_set (rb := g) 1 u2) hl, gown_apart (gown_apart h.own (grown_set (rb := g) 0 u1) hl) (grown_set (rb := g) 1 u2) hl, h.i64⟩

theorem VOwn.len {w : World} {base : Nat} {a : Option Addr} {n c : Nat} {o : Option Addr} {p q : Nat} {v : VT} (h : VOwn w base a n c o p q v) : v.rows.length = n ∧ v.own.length = p := ⟨h.tab.rows.size, h.tab.own.size⟩

theorem box_ne {w : World} {base k : Nat} {e : TypeId} {v : Value} {n : Nat} {xs : List Value} (h : w.ownsRow base e k v n xs) {X : Nat} {cs : Array Value} {T : TypeId} (hX : w.heap[X]? = some (.cells cs T)) (hne : (e : Nat) ≠ T) : ∀ b, v.ownBlock = some b → b ≠ X := by
 obtain ⟨-, h | ⟨g, cap, cur, rfl, -, hh, -⟩⟩ := h
 ·rw [h.1]; intro b hb; cases hb
 ·intro b hb e
  have : g = b := by simpa [Value.ownBlock] using hb
  subst this e
  rw [hh] at hX
  cases hX
  exact hne rfl

structure BrOwn (w : World) (base : Nat) (a : Option Addr) (n c : Nat) (fa : Option Addr) (fn fc : Nat) (ra : Option Addr) (rn rc : Nat) (oa : Option Addr) (on oc : Nat) (B : BR) : Prop where
 ports : w.ownsRow base 95 8 (.slice a n c) n (ptF.all B.ports)
 f : w.ownsRow base 128 5 (.slice fa fn fc) fn (fentF.all B.f)
 v : VOwn w base ra rn rc oa on oc B.v

theorem BrOwn.row {w : World} {base : Nat} {a : Option Addr} {n c : Nat} {fa : Option Addr} {fn fc : Nat} {ra : Option Addr} {rn rc : Nat} {oa : Option Addr} {on oc : Nat} {B : BR} (h : BrOwn w base a n c fa fn fc ra rn rc oa on oc B) : BrRow w a n c fa fn fc ra rn rc oa on oc B :=
 ⟨grow_own (F := ptF) h.ports, grow_own (F := fentF) h.f, h.v.tab⟩

theorem BrOwn.below {w w' : World} {base : Nat} {a : Option Addr} {n c : Nat} {fa : Option Addr} {fn fc : Nat} {ra : Option Addr} {rn rc : Nat} {oa : Option Addr} {on oc : Nat} {B : BR} (h : BrOwn w base a n c fa fn fc ra rn rc oa on oc B) (hb : Below w.heap.size w w') : BrOwn w' base a n c fa fn fc ra rn rc oa on oc B :=
 ⟨gown_below h.ports hb, gown_below h.f hb, h.v.below hb⟩

theorem BrOwn.lt {w : World} {base base' : Nat} {a : Option Addr} {n c : Nat} {fa : Option Addr} {fn fc : Nat} {ra : Option Addr} {rn rc : Nat} {oa : Option Addr} {on oc : Nat} {B : BR} (h : BrOwn w base a n c fa fn fc ra rn rc oa on oc B) (hle : base' ≤ base) : BrOwn w base' a n c fa fn fc ra rn rc oa on oc B :=
 ⟨gown_lt h.ports hle, gown_lt h.f hle, h.v.lt hle⟩

theorem BrOwn.apart {w w' : World} {base : Nat} {a : Option Addr} {n c : Nat} {fa : Option Addr} {fn fc : Nat} {ra : Option Addr} {rn rc : Nat} {oa : Option Addr} {on oc : Nat} {B : BR} (h : BrOwn w base a n c fa fn fc ra rn rc oa on oc B) {row : Option Nat} (hg : w.grownBy w' row) (hlt : ∀ b, row = some b → b < base) : BrOwn w' base a n c fa fn fc ra rn rc oa on oc B :=
 ⟨gown_apart h.ports hg hlt, gown_apart h.f hg hlt, ⟨gown_apart h.v.rows hg hlt, gown_apart h.v.own hg hlt, h.v.i64⟩⟩

theorem BrOwn.boxed {w : World} {base : Nat} {a : Option Addr} {n c : Nat} {fa : Option Addr} {fn fc : Nat} {ra : Option Addr} {rn rc : Nat} {oa : Option Addr} {on oc : Nat} {B : BR} (h : BrOwn w base a n c fa fn fc ra rn rc oa on oc B) {X : Nat} {cs : Array Value} (hX : w.heap[X]? = some (.cells cs 62)) (j : Nat) (u : Value) : BrOwn (w.setCell ⟨X, j, none⟩ u) base a n c fa fn fc ra rn rc oa on oc B :=
 ⟨gown_other h.ports (grown_set (rb := X) j u) (box_ne h.ports hX (by decide)), gown_other h.f (grown_set (rb := X) j u) (box_ne h.f hX (by decide)),
  ⟨gown_other h.v.rows (grown_set (rb := X) j u) (box_ne h.v.rows hX (by decide)), gown_other h.v.own (grown_set (rb := X) j u) (box_ne h.v.own hX (by decide)), h.v.i64⟩⟩

theorem box11 {w : World} {g : Nat} {cs : Array Value} {T : TypeId} (h : w.heap[g]? = some (.cells cs T)) (j : Nat) (u : Value) : (w.setCell ⟨g, j, none⟩ u).heap[g]? = some (.cells (cs.setIfInBounds j u) T) := set_block5 (j := j) h u

theorem own_one {α : Type} (F : Flat α) {w : World} {g base : Nat} {x : α} {cs : Array Value} {T : TypeId} (h : w.heap[g]? = some (.cells cs T)) (hc : cs.toList = F.cs x) (hb : base ≤ g) : w.ownsRow base T F.k (.slice (some ⟨g, 0, none⟩) 1 1) 1 (F.all [x]) := by
 have hl : cs.toList.length = F.k := by rw [hc, F.len]
 refine ⟨by rw [F.all_length]; rfl, .inr ⟨g, 1, cs, rfl, hb, h, Nat.le_refl _, by unfold maxLen; omega, ?_, ?_⟩⟩
 ·have := hl
  simp at this
  rw [this, Nat.one_mul]
 ·rw [F.all_one, Nat.one_mul, ← hc, ← hl, List.take_length]

set_option maxRecDepth 100000 in
set_option maxHeartbeats 1000000 in
theorem toVtab_made (a : Option Addr) (n c : Nat) (o : Option Addr) (p q : Nat) (v : VT) (w : World) (h : VTab w a n c o p q v) (hn : n ≤ 1048576) (hp : p ≤ 1048576) :
  Calls Try.prog 60 #[.agg #[.slice a n c, .slice o p q]] w fun e w' => ∃ a' c' o' q', e = .returned (.agg #[.slice a' n c', .slice o' p q']) ∧ VOwn w' w.heap.size a' n c' o' p q' v ∧ Below w.heap.size w w' := by
 generalize hw1 : w.alloc (Obj.cells #[Value.slice a n c, Value.slice o p q] 70) = w1
 generalize hw2 : w1.alloc (Obj.cells #[Value.slice none 0 0, Value.slice none 0 0] 60) = w2
 generalize hw3 : w2.alloc (Obj.cells #[Value.slice none 0 0, Value.slice none 0 0] 60) = w3
 have b01 : Below w.heap.size w w1 := by subst hw1; exact below_one _ _
 have b12 : Below w1.heap.size w1 w2 := by subst hw2; exact below_one _ _
 have b23 : Below w2.heap.size w2 w3 := by subst hw3; exact below_one _ _
 have b02 := gr_trans b01 b12
 have b03 := gr_trans b02 b23
 have b13 := gr_trans b12 b23
 have k1 : w2.heap[w1.heap.size]? = some (.cells #[.slice none 0 0, .slice none 0 0] 60) := by rw [← hw2]; exact block_last _ _
 have k2 : w3.heap[w2.heap.size]? = some (.cells #[.slice none 0 0, .slice none 0 0] 60) := by rw [← hw3]; exact block_last _ _
 have z2 : w1.heap.size < w2.heap.size := by rw [← hw2]; simp
 have z3 : w2.heap.size < w3.heap.size := by rw [← hw3]; simp
 have Z2 := hide z2
 have Z3 := hide z3
 clear z2 z3
 obtain ⟨x0, x1⟩ := box_two hw1 b13
 go_enter Try.func60, Try.ntmps60
 go_wp2_with fail
 refine (toVrows_made a n c v.rows _ (h.rows.below b03) hn).mono ?_
 rintro e w4 ⟨a4, c4, rfl, hR, -, hb4⟩
 have k4 := kept_block k2 hb4
 obtain ⟨⟨g0, g1⟩, f0, f1⟩ := cells2 k4
 generalize hw5 : w4.setCell ⟨w2.heap.size, 0, none⟩ (.slice a4 n c4) = w5
 have b45 : Below w2.heap.size w4 w5 := by subst hw5; exact below_set (Below.refl _ _) (Nat.le_refl _) _ _
 have b25 : Below w2.heap.size w2 w5 := (gr_trans b23 hb4).trans b45
 have b15 := gr_trans b12 b25
 have b05 := gr_trans b02 b25
 have hR5 : w5.ownsRow w3.heap.size 130 3 (.slice a4 n c4) n (vrowF.all v.rows) := by
  rw [← hw5]
  exact gown_apart hR (grown_set (rb := w2.heap.size) 0 _) (by intro b hb; cases hb; exact Z3.out)
 have k5 : w5.heap[w2.heap.size]? = some (.cells #[.slice a4 n c4, .slice none 0 0] 60) := by
  have := set_block5 (j := 0) k4 (.slice a4 n c4)
  rw [hw5] at this
  exact this
 have s35 : Hid (w3.heap.size ≤ w5.heap.size) := hide (by have := hb4.size; have := b45.size; omega)
 obtain ⟨y0, y1⟩ := box_two hw1 b15
 clear hR x0 x1
 go_wp2_with fail
 clear g0 g1 f0 f1
 refine (copyI_made o p q v.own _ (h.own.below b05) (by omega)).mono ?_
 rintro e w6 ⟨a6, c6, rfl, hI, -, hb6⟩
 have k6 := kept_block k5 hb6
 obtain ⟨⟨g0, g1⟩, f0, f1⟩ := cells2 k6
 generalize hw7 : w6.setCell ⟨w2.heap.size, 1, none⟩ (.slice a6 p c6) = w7
 have b67 : Below w2.heap.size w6 w7 := by subst hw7; exact below_set (Below.refl _ _) (Nat.le_refl _) _ _
 have b27 : Below w2.heap.size w2 w7 := (b25.trans (hb6.mono b25.size)).trans b67
 have b07 := gr_trans b02 b27
 have hR7 : w7.ownsRow w3.heap.size 130 3 (.slice a4 n c4) n (vrowF.all v.rows) := by
  rw [← hw7]
  exact gown_apart (gown_below hR5 hb6) (grown_set (rb := w2.heap.size) 1 _) (by intro b hb; cases hb; exact Z3.out)
 have hI7 : w7.ownsRow w3.heap.size 3 1 (.slice a6 p c6) p (cI v.own) := by
  rw [← hw7]
  exact gown_apart (gown_lt hI s35.out) (grown_set (rb := w2.heap.size) 1 _) (by intro b hb; cases hb; exact Z3.out)
 have k7 : w7.heap[w2.heap.size]? = some (.cells #[.slice a4 n c4, .slice a6 p c6] 60) := by
  have := set_block5 (j := 1) k6 (.slice a6 p c6)
  rw [hw7] at this
  exact this
 have k71 := kept_block k1 b27
 clear hI hR5 y0 y1
 obtain ⟨⟨u0, u1⟩, -⟩ := cells2 k7
 obtain ⟨⟨t0, t1⟩, e0, e1⟩ := cells2 k71
 have hV : VOwn w7 w3.heap.size a4 n c4 a6 p c6 v := ⟨hR7, hI7, h.own.byte⟩
 have HO := hide ((hV.set2 (g := w1.heap.size) (Nat.lt_trans Z2.out Z3.out) (.slice a4 n c4) (.slice a6 p c6)).lt (base' := w.heap.size) b03.size)
 have HB := hide (below_set (below_set b07 b01.size 0 (.slice a4 n c4)) b01.size 1 (.slice a6 p c6))
 clear hV hR7 hI7
 go_wp2
 exact bodyPost_ret (v := .agg #[.slice a4 n c4, .slice a6 p c6]) (by simp [results, Try.results60, go_sem, *]) rfl ⟨_, _, _, _, rfl, HO.out, HB.out⟩

set_option maxRecDepth 100000 in
set_option maxHeartbeats 1000000 in
theorem eqVtab_same (a : Option Addr) (n c : Nat) (o : Option Addr) (p q : Nat) (a2 : Option Addr) (n2 c2 : Nat) (o2 : Option Addr) (p2 q2 : Nat) (v : VT) (w : World) (h : VTab w a n c o p q v) (h2 : VTab w a2 n2 c2 o2 p2 q2 v) :
  Calls Try.prog 65 #[.agg #[.slice a n c, .slice o p q], .agg #[.slice a2 n2 c2, .slice o2 p2 q2]] w fun e w' => e = .returned (.bool true) ∧ Below w.heap.size w w' := by
 generalize hw1 : w.alloc (Obj.cells #[Value.slice a n c, Value.slice o p q] 60) = w1
 generalize hw2 : w1.alloc (Obj.cells #[Value.slice a2 n2 c2, Value.slice o2 p2 q2] 60) = w2
 have b01 : Below w.heap.size w w1 := by subst hw1; exact below_one _ _
 have b12 : Below w1.heap.size w1 w2 := by subst hw2; exact below_one _ _
 have b02 := gr_trans b01 b12
 obtain ⟨x0, x1⟩ := box_two hw1 b12
 obtain ⟨x2, x3⟩ := box_two hw2 (Below.refl _ w2)
 go_enter Try.func65, Try.ntmps65
 go_wp2_with fail
 refine (eqVrows_same a n c a2 n2 c2 v.rows _ (h.rows.below b02) (h2.rows.below b02)).mono ?_
 rintro e w3 ⟨rfl, hb3⟩
 obtain ⟨y0, y1⟩ := box_two hw1 (gr_trans b12 hb3)
 obtain ⟨y2, y3⟩ := box_two hw2 hb3
 have b03 := gr_trans b02 hb3
 clear x0 x1 x2 x3
 go_wp2_with fail
 refine (eqI_same o p q o2 p2 q2 v.own _ (h.own.below b03) (h2.own.below b03)).mono ?_
 rintro e w4 ⟨rfl, m, rfl⟩
 have HB := hide (gr_drewN b03 m)
 clear y0 y1 y2 y3
 go_wp2
 go_ret
 exact ⟨rfl, HB.out⟩

set_option maxRecDepth 100000 in
set_option maxHeartbeats 1000000 in
theorem szVtab_from (L : Int) (hL0 : 0 ≤ L) (hL1 : L ≤ 1048576) (a : Option Addr) (n c : Nat) (o : Option Addr) (p q : Nat) (w : World) (hl : n ≤ maxLen) (hl2 : p ≤ maxLen) :
  Calls Try.prog 57 #[.agg #[.slice a n c, .slice o p q], .int .i64 L] w fun e w' => e = .returned (.int .i64 (if (n : Int) + (p : Int) ≤ L then L - n - p else -1)) ∧ Below w.heap.size w w' := by
 generalize hw1 : w.alloc (Obj.cells #[Value.slice a n c, Value.slice o p q] 70) = w1
 have b01 : Below w.heap.size w w1 := by subst hw1; exact below_one _ _
 obtain ⟨x0, x1⟩ := box_two hw1 (Below.refl _ w1)
 generalize hV : (if (n : Int) + (p : Int) ≤ L then L - n - p else -1) = V
 have HV := hide hV
 clear hV
 go_enter Try.func57, Try.ntmps57
 go_wp2_with fail
 refine (szVrows_any a n c L _ hl (by omega) (by omega)).mono ?_
 rintro e w2 ⟨rfl, e2⟩
 obtain rfl := e2.symm
 by_cases h1 : (n : Int) ≤ L
 ·rw [if_pos h1]
  have j1 : ¬ (L - (n : Int) < 0) := by omega
  go_wp2_with fail
  refine (szInts9_any o p q (L - n) _ hl2 (by omega) (by omega)).mono ?_
  rintro e w2 ⟨rfl, e2⟩
  obtain rfl := e2.symm
  by_cases h2 : (p : Int) ≤ L - n
  ·rw [if_pos h2]
   have j2 : ¬ (L - (n : Int) - (p : Int) < 0) := by omega
   have HE : Hid (V = L - n - p) := hide (by rw [← HV.out, if_pos (by omega)])
   go_wp2
   go_ret
   exact ⟨(by rw [HE.out]; rfl), b01⟩
  ·rw [if_neg h2]
   have HE : Hid (V = -1) := hide (by rw [← HV.out, if_neg (by omega)])
   go_wp2
   go_ret
   exact ⟨(by rw [HE.out]; rfl), b01⟩
 ·rw [if_neg h1]
  have HE : Hid (V = -1) := hide (by rw [← HV.out, if_neg (by omega)])
  go_wp2
  go_ret
  exact ⟨(by rw [HE.out]; rfl), b01⟩

end Go.Proofs.Ytnichegfadgpdaa
