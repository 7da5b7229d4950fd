/-
  Packed: VtabCopy VtabOr VtabSet VtabRowM BrOwn VtabNewS VtabHelp SeqB ValsB QInt.
-/
import Derived.Test.YtgmkhoakindpkaaPJK01
import Derived.Test.YtgmkhoakindpkaaPJK03
import Derived.Test.YtgmkhoakindpkaaPJVtabOkS
import Derived.Test.YtgmkhoakindpkaaShelf
import Derived.Shelf.SlIterI.Sorted
import Derived.RangeFuncBound
namespace Go.Proofs.Ytgmkhoakindpkaa
open Go.RowKit

def intF : Flat Int where
 k := 1
 cs := fun x => [.int .i64 x]
 len := fun _ => rfl
 pos := by decide
 one := fun _ v hv => by
  simp only [List.mem_cons, List.not_mem_nil, or_false] at hv
  subst hv
  rfl

theorem intF_all : ∀ (l : List Int), intF.all l = cI l
 | [] => rfl
 | x :: l => by
  have := intF_all l
  rw [Flat.all_cons, this]
  rfl

theorem IRow.flat {w : World} {ao : Option Addr} {n c : Nat} {l : List Int} (h : IRow w ao n c l) : GRow intF w ao n c l where
 size := h.size
 le := h.le
 top := h.top
 nil := h.nil
 cell := by
  rcases h.cell with h0 | ⟨b, off, ha, hc⟩
  ·exact .inl h0
  ·refine .inr ⟨b, off, ha, fun i x hi j v hv => ?_⟩
   have hl := (List.getElem?_eq_some_iff.1 hi).1
   have hs := h.size
   have := hc i (by omega)
   rw [List.getD_eq_getElem?_getD, hi] at this
   match j, hv with
   | 0, hv =>
    cases hv
    show w.cell? ⟨b, off + i * 1 + 0, none⟩ = _
    rw [Nat.mul_one, Nat.add_zero]
    exact this
   | j + 1, hv => simp [intF] at hv

theorem gown_type {w w' : World} {base k : Nat} {e : TypeId} {v : Value} {n : Nat} {xs : List Value} (h : w.ownsRow base e k v n xs) {base2 k2 : Nat} {e2 : TypeId} {v2 : Value} {n2 : Nat} {xs2 : List Value} (h2 : w.ownsRow base2 e2 k2 v2 n2 xs2) (hne : (e : Nat) ≠ e2) (hg : w.grownBy w' v2.ownBlock) : w'.ownsRow base e k v n xs := by
 refine h.kept hg ?_
 obtain ⟨-, h | ⟨g, cap, cur, e1, -, hh, -⟩⟩ := h
 ·rw [h.1]; exact .inl rfl
 ·obtain ⟨-, h2 | ⟨g2, cap2, cur2, e2', -, hh2, -⟩⟩ := h2
  ·rw [h2.1]; exact .inr (by rw [e1]; intro hc; cases hc)
  ·refine .inr (fun hc => ?_)
   rw [e1, e2'] at hc
   have hgg : g = g2 := by simpa [Value.ownBlock] using hc
   subst hgg
   rw [hh] at hh2
   cases hh2
   exact hne rfl

structure VOwn (w : World) (base : Nat) (a : Option Addr) (n c : Nat) (o : Option Addr) (p q : Nat) (v : VT) : Prop where
 rows : w.ownsRow base 149 3 (.slice a n c) n (vrowF.all v.rows)
 own : w.ownsRow base 3 1 (.slice o p q) p (cI v.own)
 i64 : I64s v.own

theorem VOwn.tab {w : World} {base : Nat} {a : Option Addr} {n c : Nat} {o : Option Addr} {p q : Nat} {v : VT} (h : VOwn w base a n c o p q v) : VTab w a n c o p q v := ⟨grow_own (F := vrowF) h.rows, irow_own h.own h.i64⟩

theorem VOwn.below {w w' : World} {base : Nat} {a : Option Addr} {n c : Nat} {o : Option Addr} {p q : Nat} {v : VT} (h : VOwn w base a n c o p q v) (hb : Below w.heap.size w w') : VOwn w' base a n c o p q v :=
 ⟨gown_below h.rows hb, gown_below h.own hb, h.i64⟩

theorem VOwn.lt {w : World} {base base' : Nat} {a : Option Addr} {n c : Nat} {o : Option Addr} {p q : Nat} {v : VT} (h : VOwn w base a n c o p q v) (hle : base' ≤ base) : VOwn w base' a n c o p q v :=
 ⟨gown_lt h.rows hle, gown_lt h.own hle, h.i64⟩

theorem VOwn.set2 {w : World} {base : Nat} {a : Option Addr} {n c : Nat} {o : Option Addr} {p q : Nat} {v : VT} (h : VOwn w base a n c o p q v) {g : Nat} (hg : g < base) (u1 u2 : Value) : VOwn ((w.setCell ⟨g, 0, none⟩ u1).setCell ⟨g, 1, none⟩ u2) base a n c o p q v := by
 have hl : ∀ b, some g = some b → b < base := by intro b hb; cases hb; exact hg
 exact ⟨gown_apart (gown_apart h.rows (grown_set (rb := g) 0 u1) hl) (grown_set (rb := g) 1 u2) hl, gown_apart (gown_apart h.own (grown_set (rb := g) 0 u1) hl) (grown_set (rb := g) 1 u2) hl, h.i64⟩

theorem VOwn.len {w : World} {base : Nat} {a : Option Addr} {n c : Nat} {o : Option Addr} {p q : Nat} {v : VT} (h : VOwn w base a n c o p q v) : v.rows.length = n ∧ v.own.length = p := ⟨h.tab.rows.size, h.tab.own.size⟩

theorem box_ne {w : World} {base k : Nat} {e : TypeId} {v : Value} {n : Nat} {xs : List Value} (h : w.ownsRow base e k v n xs) {X : Nat} {cs : Array Value} {T : TypeId} (hX : w.heap[X]? = some (.cells cs T)) (hne : (e : Nat) ≠ T) : ∀ b, v.ownBlock = some b → b ≠ X := by
 obtain ⟨-, h | ⟨g, cap, cur, rfl, -, hh, -⟩⟩ := h
 ·rw [h.1]; intro b hb; cases hb
 ·intro b hb e
  have : g = b := by simpa [Value.ownBlock] using hb
  subst this e
  rw [hh] at hX
  cases hX
  exact hne rfl

structure BrOwn (w : World) (base : Nat) (a : Option Addr) (n c : Nat) (fa : Option Addr) (fn fc : Nat) (ra : Option Addr) (rn rc : Nat) (oa : Option Addr) (on oc : Nat) (B : BR) : Prop where
 ports : w.ownsRow base 91 8 (.slice a n c) n (ptF.all B.ports)
 f : w.ownsRow base 147 5 (.slice fa fn fc) fn (fentF.all B.f)
 v : VOwn w base ra rn rc oa on oc B.v

theorem BrOwn.row {w : World} {base : Nat} {a : Option Addr} {n c : Nat} {fa : Option Addr} {fn fc : Nat} {ra : Option Addr} {rn rc : Nat} {oa : Option Addr} {on oc : Nat} {B : BR} (h : BrOwn w base a n c fa fn fc ra rn rc oa on oc B) : BrRow w a n c fa fn fc ra rn rc oa on oc B :=
 ⟨grow_own (F := ptF) h.ports, grow_own (F := fentF) h.f, h.v.tab⟩

theorem BrOwn.below {w w' : World} {base : Nat} {a : Option Addr} {n c : Nat} {fa : Option Addr} {fn fc : Nat} {ra : Option Addr} {rn rc : Nat} {oa : Option Addr} {on oc : Nat} {B : BR} (h : BrOwn w base a n c fa fn fc ra rn rc oa on oc B) (hb : Below w.heap.size w w') : BrOwn w' base a n c fa fn fc ra rn rc oa on oc B :=
 ⟨gown_below h.ports hb, gown_below h.f hb, h.v.below hb⟩

theorem BrOwn.lt {w : World} {base base' : Nat} {a : Option Addr} {n c : Nat} {fa : Option Addr} {fn fc : Nat} {ra : Option Addr} {rn rc : Nat} {oa : Option Addr} {on oc : Nat} {B : BR} (h : BrOwn w base a n c fa fn fc ra rn rc oa on oc B) (hle : base' ≤ base) : BrOwn w base' a n c fa fn fc ra rn rc oa on oc B :=
 ⟨gown_lt h.ports hle, gown_lt h.f hle, h.v.lt hle⟩

theorem BrOwn.apart {w w' : World} {base : Nat} {a : Option Addr} {n c : Nat} {fa : Option Addr} {fn fc : Nat} {ra : Option Addr} {rn rc : Nat} {oa : Option Addr} {on oc : Nat} {B : BR} (h : BrOwn w base a n c fa fn fc ra rn rc oa on oc B) {row : Option Nat} (hg : w.grownBy w' row) (hlt : ∀ b, row = some b → b < base) : BrOwn w' base a n c fa fn fc ra rn rc oa on oc B :=
 ⟨gown_apart h.ports hg hlt, gown_apart h.f hg hlt, ⟨gown_apart h.v.rows hg hlt, gown_apart h.v.own hg hlt, h.v.i64⟩⟩

theorem BrOwn.boxed {w : World} {base : Nat} {a : Option Addr} {n c : Nat} {fa : Option Addr} {fn fc : Nat} {ra : Option Addr} {rn rc : Nat} {oa : Option Addr} {on oc : Nat} {B : BR} (h : BrOwn w base a n c fa fn fc ra rn rc oa on oc B) {X : Nat} {cs : Array Value} (hX : w.heap[X]? = some (.cells cs 98)) (j : Nat) (u : Value) : BrOwn (w.setCell ⟨X, j, none⟩ u) base a n c fa fn fc ra rn rc oa on oc B :=
 ⟨gown_other h.ports (grown_set (rb := X) j u) (box_ne h.ports hX (by decide)), gown_other h.f (grown_set (rb := X) j u) (box_ne h.f hX (by decide)),
  ⟨gown_other h.v.rows (grown_set (rb := X) j u) (box_ne h.v.rows hX (by decide)), gown_other h.v.own (grown_set (rb := X) j u) (box_ne h.v.own hX (by decide)), h.v.i64⟩⟩

theorem box11 {w : World} {g : Nat} {cs : Array Value} {T : TypeId} (h : w.heap[g]? = some (.cells cs T)) (j : Nat) (u : Value) : (w.setCell ⟨g, j, none⟩ u).heap[g]? = some (.cells (cs.setIfInBounds j u) T) := set_block5 (j := j) h u

theorem own_one {α : Type} (F : Flat α) {w : World} {g base : Nat} {x : α} {cs : Array Value} {T : TypeId} (h : w.heap[g]? = some (.cells cs T)) (hc : cs.toList = F.cs x) (hb : base ≤ g) : w.ownsRow base T F.k (.slice (some ⟨g, 0, none⟩) 1 1) 1 (F.all [x]) := by
 have hl : cs.toList.length = F.k := by rw [hc, F.len]
 refine ⟨by rw [F.all_length]; rfl, .inr ⟨g, 1, cs, rfl, hb, h, Nat.le_refl _, by unfold maxLen; omega, ?_, ?_⟩⟩
 ·have := hl
  simp at this
  rw [this, Nat.one_mul]
 ·rw [F.all_one, Nat.one_mul, ← hc, ← hl, List.take_length]

set_option maxRecDepth 100000 in
set_option maxHeartbeats 1000000 in
theorem toVtab_made (a : Option Addr) (n c : Nat) (o : Option Addr) (p q : Nat) (v : VT) (w : World) (h : VTab w a n c o p q v) (hn : n ≤ 1048576) (hp : p ≤ 1048576) :
  Calls Try.prog 81 #[.agg #[.slice a n c, .slice o p q]] w fun e w' => ∃ a' c' o' q', e = .returned (.agg #[.slice a' n c', .slice o' p q']) ∧ VOwn w' w.heap.size a' n c' o' p q' v ∧ Below w.heap.size w w' := by
 generalize hw1 : w.alloc (Obj.cells #[Value.slice a n c, Value.slice o p q] 85) = w1
 generalize hw2 : w1.alloc (Obj.cells #[Value.slice none 0 0, Value.slice none 0 0] 96) = w2
 generalize hw3 : w2.alloc (Obj.cells #[Value.slice none 0 0, Value.slice none 0 0] 96) = w3
 have b01 : Below w.heap.size w w1 := by subst hw1; exact below_one _ _
 have b12 : Below w1.heap.size w1 w2 := by subst hw2; exact below_one _ _
 have b23 : Below w2.heap.size w2 w3 := by subst hw3; exact below_one _ _
 have b02 := gr_trans b01 b12
 have b03 := gr_trans b02 b23
 have b13 := gr_trans b12 b23
 have k1 : w2.heap[w1.heap.size]? = some (.cells #[.slice none 0 0, .slice none 0 0] 96) := by rw [← hw2]; exact block_last _ _
 have k2 : w3.heap[w2.heap.size]? = some (.cells #[.slice none 0 0, .slice none 0 0] 96) := by rw [← hw3]; exact block_last _ _
 have z2 : w1.heap.size < w2.heap.size := by rw [← hw2]; simp
 have z3 : w2.heap.size < w3.heap.size := by rw [← hw3]; simp
 have Z2 := hide z2
 have Z3 := hide z3
 clear z2 z3
 obtain ⟨x0, x1⟩ := box_two hw1 b13
 go_enter Try.func81, Try.ntmps81
 go_wp2_with fail
 refine (toVrows_made a n c v.rows _ (h.rows.below b03) hn).mono ?_
 rintro e w4 ⟨a4, c4, rfl, hR, -, hb4⟩
 have k4 := kept_block k2 hb4
 obtain ⟨⟨g0, g1⟩, f0, f1⟩ := cells2 k4
 generalize hw5 : w4.setCell ⟨w2.heap.size, 0, none⟩ (.slice a4 n c4) = w5
 have b45 : Below w2.heap.size w4 w5 := by subst hw5; exact below_set (Below.refl _ _) (Nat.le_refl _) _ _
 have b25 : Below w2.heap.size w2 w5 := (gr_trans b23 hb4).trans b45
 have b15 := gr_trans b12 b25
 have b05 := gr_trans b02 b25
 have hR5 : w5.ownsRow w3.heap.size 149 3 (.slice a4 n c4) n (vrowF.all v.rows) := by
  rw [← hw5]
  exact gown_apart hR (grown_set (rb := w2.heap.size) 0 _) (by intro b hb; cases hb; exact Z3.out)
 have k5 : w5.heap[w2.heap.size]? = some (.cells #[.slice a4 n c4, .slice none 0 0] 96) := by
  have := set_block5 (j := 0) k4 (.slice a4 n c4)
  rw [hw5] at this
  exact this
 have s35 : Hid (w3.heap.size ≤ w5.heap.size) := hide (by have := hb4.size; have := b45.size; omega)
 obtain ⟨y0, y1⟩ := box_two hw1 b15
 clear hR x0 x1
 go_wp2_with fail
 clear g0 g1 f0 f1
 refine (copyI_made o p q v.own _ (h.own.below b05) (by omega)).mono ?_
 rintro e w6 ⟨a6, c6, rfl, hI, -, hb6⟩
 have k6 := kept_block k5 hb6
 obtain ⟨⟨g0, g1⟩, f0, f1⟩ := cells2 k6
 generalize hw7 : w6.setCell ⟨w2.heap.size, 1, none⟩ (.slice a6 p c6) = w7
 have b67 : Below w2.heap.size w6 w7 := by subst hw7; exact below_set (Below.refl _ _) (Nat.le_refl _) _ _
 have b27 : Below w2.heap.size w2 w7 := (b25.trans (hb6.mono b25.size)).trans b67
 have b07 := gr_trans b02 b27
 have hR7 : w7.ownsRow w3.heap.size 149 3 (.slice a4 n c4) n (vrowF.all v.rows) := by
  rw [← hw7]
  exact gown_apart (gown_below hR5 hb6) (grown_set (rb := w2.heap.size) 1 _) (by intro b hb; cases hb; exact Z3.out)
 have hI7 : w7.ownsRow w3.heap.size 3 1 (.slice a6 p c6) p (cI v.own) := by
  rw [← hw7]
  exact gown_apart (gown_lt hI s35.out) (grown_set (rb := w2.heap.size) 1 _) (by intro b hb; cases hb; exact Z3.out)
 have k7 : w7.heap[w2.heap.size]? = some (.cells #[.slice a4 n c4, .slice a6 p c6] 96) := by
  have := set_block5 (j := 1) k6 (.slice a6 p c6)
  rw [hw7] at this
  exact this
 have k71 := kept_block k1 b27
 clear hI hR5 y0 y1
 obtain ⟨⟨u0, u1⟩, -⟩ := cells2 k7
 obtain ⟨⟨t0, t1⟩, e0, e1⟩ := cells2 k71
 have hV : VOwn w7 w3.heap.size a4 n c4 a6 p c6 v := ⟨hR7, hI7, h.own.byte⟩
 have HO := hide ((hV.set2 (g := w1.heap.size) (Nat.lt_trans Z2.out Z3.out) (.slice a4 n c4) (.slice a6 p c6)).lt (base' := w.heap.size) b03.size)
 have HB := hide (below_set (below_set b07 b01.size 0 (.slice a4 n c4)) b01.size 1 (.slice a6 p c6))
 clear hV hR7 hI7
 go_wp2
 exact bodyPost_ret (v := .agg #[.slice a4 n c4, .slice a6 p c6]) (by simp [results, Try.results81, go_sem, *]) rfl ⟨_, _, _, _, rfl, HO.out, HB.out⟩

set_option maxRecDepth 100000 in
set_option maxHeartbeats 1000000 in
theorem eqVtab_same (a : Option Addr) (n c : Nat) (o : Option Addr) (p q : Nat) (a2 : Option Addr) (n2 c2 : Nat) (o2 : Option Addr) (p2 q2 : Nat) (v : VT) (w : World) (h : VTab w a n c o p q v) (h2 : VTab w a2 n2 c2 o2 p2 q2 v) :
  Calls Try.prog 87 #[.agg #[.slice a n c, .slice o p q], .agg #[.slice a2 n2 c2, .slice o2 p2 q2]] w fun e w' => e = .returned (.bool true) ∧ Below w.heap.size w w' := by
 generalize hw1 : w.alloc (Obj.cells #[Value.slice a n c, Value.slice o p q] 96) = w1
 generalize hw2 : w1.alloc (Obj.cells #[Value.slice a2 n2 c2, Value.slice o2 p2 q2] 96) = w2
 have b01 : Below w.heap.size w w1 := by subst hw1; exact below_one _ _
 have b12 : Below w1.heap.size w1 w2 := by subst hw2; exact below_one _ _
 have b02 := gr_trans b01 b12
 obtain ⟨x0, x1⟩ := box_two hw1 b12
 obtain ⟨x2, x3⟩ := box_two hw2 (Below.refl _ w2)
 go_enter Try.func87, Try.ntmps87
 go_wp2_with fail
 refine (eqVrows_same a n c a2 n2 c2 v.rows _ (h.rows.below b02) (h2.rows.below b02)).mono ?_
 rintro e w3 ⟨rfl, hb3⟩
 obtain ⟨y0, y1⟩ := box_two hw1 (gr_trans b12 hb3)
 obtain ⟨y2, y3⟩ := box_two hw2 hb3
 have b03 := gr_trans b02 hb3
 clear x0 x1 x2 x3
 go_wp2_with fail
 refine (eqI_same o p q o2 p2 q2 v.own _ (h.own.below b03) (h2.own.below b03)).mono ?_
 rintro e w4 ⟨rfl, m, rfl⟩
 have HB := hide (gr_drewN b03 m)
 clear y0 y1 y2 y3
 go_wp2
 go_ret
 exact ⟨rfl, HB.out⟩

set_option maxRecDepth 100000 in
set_option maxHeartbeats 1000000 in
theorem szVtab_from (L : Int) (hL0 : 0 ≤ L) (hL1 : L ≤ 1048576) (a : Option Addr) (n c : Nat) (o : Option Addr) (p q : Nat) (w : World) (hl : n ≤ maxLen) (hl2 : p ≤ maxLen) :
  Calls Try.prog 77 #[.agg #[.slice a n c, .slice o p q], .int .i64 L] w fun e w' => e = .returned (.int .i64 (if (n : Int) + (p : Int) ≤ L then L - n - p else -1)) ∧ Below w.heap.size w w' := by
 generalize hw1 : w.alloc (Obj.cells #[Value.slice a n c, Value.slice o p q] 85) = w1
 have b01 : Below w.heap.size w w1 := by subst hw1; exact below_one _ _
 obtain ⟨x0, x1⟩ := box_two hw1 (Below.refl _ w1)
 generalize hV : (if (n : Int) + (p : Int) ≤ L then L - n - p else -1) = V
 have HV := hide hV
 clear hV
 go_enter Try.func77, Try.ntmps77
 go_wp2_with fail
 refine (szVrows_any a n c L _ hl (by omega) (by omega)).mono ?_
 rintro e w2 ⟨rfl, e2⟩
 obtain rfl := e2.symm
 by_cases h1 : (n : Int) ≤ L
 ·rw [if_pos h1]
  have j1 : ¬ (L - (n : Int) < 0) := by omega
  go_wp2_with fail
  refine (szInts9_any o p q (L - n) _ hl2 (by omega) (by omega)).mono ?_
  rintro e w2 ⟨rfl, e2⟩
  obtain rfl := e2.symm
  by_cases h2 : (p : Int) ≤ L - n
  ·rw [if_pos h2]
   have j2 : ¬ (L - (n : Int) - (p : Int) < 0) := by omega
   have HE : Hid (V = L - n - p) := hide (by rw [← HV.out, if_pos (by omega)])
   go_wp2
   go_ret
   exact ⟨(by rw [HE.out]; rfl), b01⟩
  ·rw [if_neg h2]
   have HE : Hid (V = -1) := hide (by rw [← HV.out, if_neg (by omega)])
   go_wp2
   go_ret
   exact ⟨(by rw [HE.out]; rfl), b01⟩
 ·rw [if_neg h1]
  have HE : Hid (V = -1) := hide (by rw [← HV.out, if_neg (by omega)])
  go_wp2
  go_ret
  exact ⟨(by rw [HE.out]; rfl), b01⟩

section
open Go.RowKit Go.Maps Go.Sort Go.Shelf

def GivesB (F : Fence) (n : Nat) (P : Program) (g : Nat) (lb : Array Value) (S : List Int → Prop) (N : Nat) (w : World) : Prop :=
 ∀ (l : Nat) (J : List Int → World → Prop) (W : World), Below w.heap.size w W → AbidesFrom W.heap.size J → (∀ pre W1, J pre W1 → Below w.heap.size w W1) →
  (∀ pre x W1, J pre W1 → pre.length < N → YieldAt F (n - 1) P l #[encZ x] W1 fun e W' => e = .returned (.bool true) ∧ J (pre ++ [x]) W' ∧ KeepsWalks W1 W') →
  J [] W → CallsIn F n P g (#[.func (.yield l) #[] #[]] ++ lb) W fun e W' => (∃ v, e = .returned v) ∧ ∃ xs, S xs ∧ J xs W'

theorem gives_b {F : Fence} {n : Nat} {P : Program} {g : Nat} {lb : Array Value} {S : List Int → Prop} {N : Nat} {w : World} (h : SeqGives F n P g lb encZ S N w) : GivesB F n P g lb S N w := fun l J W hW hJ _ hY h0 => h l J W hW hJ hY h0

variable {P : Program} {ρ : Ren}

set_option maxRecDepth 100000 in
set_option maxHeartbeats 2000000 in
theorem appendB_in (L : SlLaysZI.n11 P ρ) (F : Fence) (n : Nat) (h11 : F.fn (ρ.f 11)) (hro : F.round = none) (hn : 2 ≤ n) (g : Nat) (lb : Array Value) (hFg : F.fn g) (eg : ∀ args w, (callFunc g args).run P w = .ok (.enter g args) w)
    (S : List Int → Prop) (N : Nat) (hN : N ≤ maxLen) (hNb : N * 8 ≤ 140737488355328) (w : World) (hseq : GivesB F (n - 1) P g lb S N w) :
    CallsIn F n P (ρ.f 11) #[.slice none 0 0, .func (.func g) #[] lb] w fun e w' => ∃ (v : Value) (ss : List Int), e = .returned v ∧ S ss ∧ w'.ownsRow w.heap.size (ρ.t 26) 1 v ss.length (ss.map encZ) ∧ (v = .slice none 0 0 ↔ ss = []) ∧ Below w.heap.size w w' := by
  have h1 : 1 ≤ n := by omega
  have mixed := L.mixed; have t0 := L.t0; have a0 := L.a0; have z0 := L.z0; have v0 := L.v0; have t24 := L.t24; have a24 := L.a24; have z24 := L.z24; have v24 := L.v24; have t26 := L.t26; have a26 := L.a26; have z26 := L.z26; have v26 := L.v26; have t28 := L.t28; have a28 := L.a28; have z28 := L.z28; have v28 := L.v28
  have hne : ρ.t 24 ≠ ρ.t 26 := fun e => by have h := L.t24; rw [e, L.t26] at h; cases h
  have u0 := run_underlying L.t0; have u24 := run_underlying L.t24; have u26 := run_underlying L.t26; have u28 := run_underlying L.t28
  obtain ⟨_, _, FG⟩ := L.f11
  refine callsIn_of_wp_marks FG rfl h11 ?_ hro
  simp only [SlBodyZ.n11_ntmps ρ, List.size_toArray, List.length_cons, List.length_nil, Nat.reduceAdd, Nat.reduceSub, Array.replicate_succ, Array.replicate_zero, List.push_toArray, List.append_toArray, List.nil_append, List.cons_append]
  gi_wp2
  refine wpIn_rangeFunc ?_
  intro fn hfn
  rw [hro]
  obtain ⟨W0, hW0⟩ : ∃ W0, w.alloc (.cells #[.slice none 0 0] (ρ.t 24)) = W0 := ⟨_, rfl⟩
  have hs0 : W0.heap.size = w.heap.size + 1 := by rw [← hW0]; simp
  have hv0 : W0.heap[w.heap.size]? = some (.cells #[.slice none 0 0] (ρ.t 24) (0, 0)) := by rw [← hW0]; exact World.alloc_heap_new w _
  have hb0 : Below w.heap.size w W0 := by rw [← hW0]; exact (Below.refl _ w).alloc (Nat.le_refl _) _
  rw [hW0]
  obtain ⟨W1, hW1⟩ : ∃ W1, (W0.alloc (.deferred (some []))).alloc (.loop (AnyZI.apRec ρ fn (.func (.func g) #[] lb) w.heap.size W0.heap.size .ready none)) = W1 := ⟨_, rfl⟩
  have hold : ∀ k, k < W0.heap.size → W1.heap[k]? = W0.heap[k]? := fun k hk => by
    rw [← hW1]; exact (Below.heap_alloc _ _ k (by simp; omega)).trans (Below.heap_alloc _ _ k hk)
  have hb1 : Below w.heap.size w W1 := by rw [← hW1]; exact (hb0.alloc hb0.size _).alloc (by have := hb0.size; simp; omega) _
  have hs1 : W1.heap.size = W0.heap.size + 2 := by rw [← hW1]; simp
  have hM : AnyZI.ApAt ρ w fn (.func (.func g) #[] lb) w.heap.size (W0.heap.size + 1) W0.heap.size [] W1 :=
    ⟨⟨_, (hold w.heap.size (by omega)).trans hv0, ⟨rfl, .inl ⟨rfl, rfl⟩⟩, by simp⟩,
     by rw [← hW1]; have := World.alloc_heap_new (W0.alloc (.deferred (some []))) (.loop (AnyZI.apRec ρ fn (.func (.func g) #[] lb) w.heap.size W0.heap.size .ready none)); rwa [World.size_alloc] at this,
     by rw [← hW1]; exact (Below.heap_alloc _ _ _ (by simp)).trans (World.alloc_heap_new W0 _), hb1⟩
  refine ⟨W0.heap.size + 1, [{ target := .collected W0.heap.size, args := #[] }], W1, { target := .fn (.func g) lb, args := #[.func (.yield (W0.heap.size + 1)) #[] #[]] }, W1, g,
    #[.func (.yield (W0.heap.size + 1)) #[] #[]] ++ lb, W1, ?_, ?_, ?_, ?_, fun _ => h1, ?_⟩
  · rw [← hW1]; exact run_enterLoop_outer _ _ _ _ _
  · simp [resolve, go_sem]
  · intro f' hf'; simp [Target.leads] at hf'; subst hf'; exact hFg
  · simp [invoke, go_sem, eg]
  · refine (hseq (W0.heap.size + 1) (AnyZI.ApAt ρ w fn (.func (.func g) #[] lb) w.heap.size (W0.heap.size + 1) W0.heap.size) W1 hb1 (AnyZI.ap_abides ρ _ _ _ _ _ _ _ hb1.size) (fun _ _ hj => hj.below)
      (fun pre x W hJ hl => AnyZI.apYield { L with } F (n - 1 - 1) w fn hfn _ w.heap.size (W0.heap.size + 1) W0.heap.size (by omega) (by omega) (by omega) (Nat.le_refl _) (by omega) N hN hNb pre x W hJ hl) hM).mono ?_
    rintro e W2 ⟨⟨v0, rfl⟩, ss, hS, h2⟩
    obtain ⟨v, hv, hrow, hnil⟩ := h2.box
    have hend := run_endLoop (P := P) h2.L (by simp [AnyZI.apRec])
    obtain ⟨W3, hW3⟩ : ∃ W3, W2.putObj (W0.heap.size + 1) (.loop { AnyZI.apRec ρ fn (.func (.func g) #[] lb) w.heap.size W0.heap.size .ready none with state := .exhausted }) = W3 := ⟨_, rfl⟩
    rw [hW3] at hend
    have hg3 : W2.grownBy W3 (some (W0.heap.size + 1)) := by rw [← hW3]; exact grownBy_putObj_a _ _ _
    have hv3 : W3.heap[w.heap.size]? = some (.cells #[v] (ρ.t 24) (0, 0)) := by rw [← hW3]; exact (World.putObj_heap_other (by omega)).trans hv
    have hK3 : W3.heap[W0.heap.size]? = some (.deferred (some [])) := by rw [← hW3]; exact (World.putObj_heap_other (by omega)).trans h2.K
    have hrow3 := hrow.kept hg3 (ownsRow_ne_a hrow h2.L (fun cur e => by first | cases e | exact hne (Obj.cells.inj e).2.1))
    have hb3 : Below w.heap.size w W3 := h2.below.grown hg3 h2.below.size (fun k e => by cases e; omega)
    obtain ⟨hc3, hf3⟩ := cell_of_box_a hv3
    clear hW3
    refine ⟨none, W3, hend, ?_⟩
    gi_wp2
    rw [← hs0]
    refine ⟨by simp, .inl ⟨_, _, rfl, run_takeDeferred hK3, ?_⟩⟩
    exact ⟨_, results_tmp rfl _ _ _, v, ss, rfl, hS, hrow3.kept (grownBy_putObj_a _ _ _) (ownsRow_ne_a hrow3 hK3 (fun cur e => by first | cases e | exact hne (Obj.cells.inj e).2.1)), hnil, hb3.grown (grownBy_putObj_a _ _ _) hb3.size (fun k e => by cases e; omega)⟩

set_option maxRecDepth 100000 in
set_option maxHeartbeats 1000000 in
theorem collectB_in (L : SlLaysZI.n8 P ρ) (F : Fence) (n : Nat) (h8 : F.fn (ρ.f 8)) (h11 : F.fn (ρ.f 11)) (hro : F.round = none) (hn : 3 ≤ n) (g : Nat) (lb : Array Value) (hFg : F.fn g) (eg : ∀ args w, (callFunc g args).run P w = .ok (.enter g args) w)
  (S : List Int → Prop) (N : Nat) (hN : N ≤ maxLen) (hNb : N * 8 ≤ 140737488355328) (w : World) (hseq : GivesB F (n - 1 - 1) P g lb S N w) :
  CallsIn F n P (ρ.f 8) #[.func (.func g) #[] lb] w fun e w' => ∃ (v : Value) (ss : List Int), e = .returned v ∧ S ss ∧ w'.ownsRow w.heap.size (ρ.t 26) 1 v ss.length (ss.map encZ) ∧ (v = .slice none 0 0 ↔ ss = []) ∧ Below w.heap.size w w' := by
 have h1 : 1 ≤ n := by omega
 have e11 : ∀ args w, (callFunc (ρ.f 11) args).run P w = .ok (.enter (ρ.f 11) args) w := L.f11.enters rfl
 have mixed := L.mixed; have t0 := L.t0; have a0 := L.a0; have z0 := L.z0; have v0 := L.v0; have t24 := L.t24; have a24 := L.a24; have z24 := L.z24; have v24 := L.v24; have t26 := L.t26; have a26 := L.a26; have z26 := L.z26; have v26 := L.v26; have t28 := L.t28; have a28 := L.a28; have z28 := L.z28; have v28 := L.v28
 have u0 := run_underlying L.t0; have u24 := run_underlying L.t24; have u26 := run_underlying L.t26; have u28 := run_underlying L.t28
 obtain ⟨_, _, FG⟩ := L.f8
 refine callsIn_of_wp FG rfl h8 ?_ hro
 simp only [SlBodyZ.n8_ntmps ρ, List.size_toArray, List.length_cons, List.length_nil, Nat.reduceAdd, Nat.reduceSub, Array.replicate_succ, Array.replicate_zero, List.push_toArray, List.append_toArray, List.nil_append, List.cons_append]
 gi_wp2_with (gi_at_fn (ρ.f 11); refine (appendB_in { L with } F (n - 1) h11 hro (by omega) g lb hFg eg S N hN hNb _ hseq).mono ?_; rintro e w' ⟨v, ss, rfl, hS, hrow, hnil, hb⟩)
 go_ret
 exact ⟨v, ss, rfl, hS, hrow, hnil, hb⟩

set_option maxRecDepth 100000 in
set_option maxHeartbeats 2000000 in
theorem sortedB_in (L : SlLaysZI.n6 P ρ) (F : Fence) (n : Nat) (h6 : F.fn (ρ.f 6)) (h8 : F.fn (ρ.f 8)) (h9 : F.fn (ρ.f 9)) (h11 : F.fn (ρ.f 11)) (hro : F.round = none) (hn : 4 ≤ n) (hsort : AnyZI.SortsIn P ρ F (n - 1)) (e9 : ∀ args w, (callFunc (ρ.f 9) args).run P w = .ok (.enter (ρ.f 9) args) w) (g : Nat) (lb : Array Value) (hFg : F.fn g) (eg : ∀ args w, (callFunc g args).run P w = .ok (.enter g args) w)
  (S : List Int → Prop) (N : Nat) (hlenS : ∀ ss, S ss → ss.length ≤ N) (hN : N ≤ maxLen) (hNb : N * 8 ≤ 140737488355328) (w : World) (hseq : GivesB F (n - 1 - 1 - 1) P g lb S N w) :
  CallsIn F n P (ρ.f 6) #[.func (.func g) #[] lb] w fun e w' => ∃ (v : Value) (ss : List Int), e = .returned v ∧ S ss ∧
   w'.ownsRow w.heap.size (ρ.t 26) 1 v ss.length ((ss.mergeSort (fun x y => decide (x ≤ y))).map encZ) ∧ (v = .slice none 0 0 ↔ ss = []) ∧ Below w.heap.size w w' := by
 have h1 : 1 ≤ n := by omega
 have e8 : ∀ args w, (callFunc (ρ.f 8) args).run P w = .ok (.enter (ρ.f 8) args) w := L.f8.enters rfl
 have mixed := L.mixed; have t0 := L.t0; have a0 := L.a0; have z0 := L.z0; have v0 := L.v0; have t24 := L.t24; have a24 := L.a24; have z24 := L.z24; have v24 := L.v24; have t26 := L.t26; have a26 := L.a26; have z26 := L.z26; have v26 := L.v26; have t28 := L.t28; have a28 := L.a28; have z28 := L.z28; have v28 := L.v28
 have u0 := run_underlying L.t0; have u24 := run_underlying L.t24; have u26 := run_underlying L.t26; have u28 := run_underlying L.t28
 obtain ⟨_, _, FG⟩ := L.f6
 refine callsIn_of_wp FG rfl h6 ?_ hro
 simp only [SlBodyZ.n6_ntmps ρ, List.size_toArray, List.length_cons, List.length_nil, Nat.reduceAdd, Nat.reduceSub, Array.replicate_succ, Array.replicate_zero, List.push_toArray, List.append_toArray, List.nil_append, List.cons_append]
 gi_wp2_with (gi_at_fn (ρ.f 8); refine (collectB_in { L with } F (n - 1) h8 h11 hro (by omega) g lb hFg eg S N hN hNb _ hseq).mono ?_; rintro e W ⟨v, ss, rfl, hS, hrow, hnil, hb⟩)
 have hlen := hlenS ss hS
 rcases hrow.2 with ⟨rfl, hz⟩ | ⟨gb, cap, cur, rfl, hbase, hgb, r1, r2, r3, r4⟩
 ·have hss : ss = [] := List.eq_nil_of_length_eq_zero hz
  subst hss
  gi_wp2_with (gi_at_fn (ρ.f 9); refine (hsort.2 none 0 W).mono ?_; rintro e w' ⟨rfl, rfl⟩)
  go_ret
  exact ⟨.slice none 0 0, [], rfl, hS, by simpa using hrow, by simp, hb⟩
 ·have hH : Holds encZ W gb 0 ss.toArray := holds_of_block_i hgb (by simpa using r4)
  have hgl : gb < W.heap.size := (Array.getElem?_eq_some_iff.1 hgb).1
  have hsz : ss.length < 4611686018427387904 := by omega
  have cS := hsort.1 gb 0 cap ss W hH hgl hsz
  gi_wp2_with (gi_at_fn (ρ.f 9); refine cS.mono ?_; rintro e w' ⟨rfl, nn, os, rfl⟩)
  go_ret
  exact ⟨_, ss, rfl, hS, ownsRow_sorted_i (by simp) hbase hgb r1 r2 r3, hnil, hb.grown (grownBy_sorted_i _) hb.size (fun j hj => by cases hj; exact hbase)⟩

end

section
open Go.RowKit Go.Maps Go.Sort Go.Shelf

def IntsAt (W : World) (sv : Value) (zs : List Int) : Prop :=
 (∃ a cap, sv = .slice a 0 cap ∧ zs = []) ∨ ∃ b off cap, sv = .slice (some ⟨b, off, none⟩) zs.length cap ∧ ∀ j, j < zs.length → b < W.heap.size ∧ W.cell? ⟨b, off + j, none⟩ = some (.int .i64 (zs[j]?.getD 0))

theorem IntsAt.below {A B : World} (h : Below A.heap.size A B) {sv : Value} {zs : List Int} : IntsAt A sv zs → IntsAt B sv zs
 | .inl e => .inl e
 | .inr ⟨b, off, cap, e, hc⟩ => .inr ⟨b, off, cap, e, fun j hj => ⟨Nat.lt_of_lt_of_le (hc j hj).1 h.size, (h.cell (p := ⟨b, off + j, none⟩) (hc j hj).1).trans (hc j hj).2⟩⟩

set_option maxRecDepth 100000 in
set_option maxHeartbeats 2000000 in
theorem values1B (F : Fence) (n : Nat) (h7 : F.fn 94) (hro : F.round = none) (hn : 1 ≤ n) (l Bs : Nat) (sv : Value) (zs : List Int) (w : World) (hreach : zs.length * 8 ≤ 140737488351232) (hBs : Bs < w.heap.size) (hc : w.cell? ⟨Bs, 0, none⟩ = some sv) (hI : IntsAt w sv zs) (J : List Int → World → Prop) (W : World)
  (hB : ∀ pre W1, J pre W1 → Below w.heap.size w W1)
  (hY : ∀ pre x W1, J pre W1 → pre.length < zs.length → YieldAt F (n - 1) Try.prog l #[encZ x] W1 fun e W' => e = .returned (.bool true) ∧ J (pre ++ [x]) W' ∧ KeepsWalks W1 W')
  (h0 : J [] W) :
  CallsIn F n Try.prog 94 #[.func (.yield l) #[] #[], .pointer (some ⟨Bs, 0, none⟩)] W fun e W' => (∃ v, e = .returned v) ∧ ∃ xs, xs = zs ∧ J xs W' := by
 have hcW := ((hB [] W h0).cell (p := ⟨Bs, 0, none⟩) hBs).trans hc
 rcases hI with ⟨a, cap, rfl, rfl⟩ | ⟨b, off, cap, rfl, hcs⟩
 ·refine callsIn_of_wp Try.func94 rfl h7 ?_ hro
  simp only [Try.ntmps94, List.size_toArray, List.length_cons, List.length_nil, Nat.reduceAdd, Nat.reduceSub, Array.replicate_succ, Array.replicate_zero, List.push_toArray, List.append_toArray, List.nil_append, List.cons_append]
  gi_wp2
  gi_loopw [7] (fun i wr => i = .int .i64 0 ∧ J [] wr) (fun _ _ => 0)
  case atStart => exact ⟨rfl, h0⟩
  case round =>
   obtain ⟨rfl, hJs⟩ := hrel
   gi_wp2
   go_end0
   exact ⟨⟨_, rfl⟩, _, rfl, hJs⟩
 ·refine callsIn_of_wp Try.func94 rfl h7 ?_ hro
  simp only [Try.ntmps94, List.size_toArray, List.length_cons, List.length_nil, Nat.reduceAdd, Nat.reduceSub, Array.replicate_succ, Array.replicate_zero, List.push_toArray, List.append_toArray, List.nil_append, List.cons_append]
  gi_wp2
  gi_loopw [7] (fun i wr => ∃ k : Nat, k ≤ zs.length ∧ i = .int .i64 k ∧ J (zs.take k) wr) (fun i _ => zs.length - (intOf i).toNat)
  case atStart => exact ⟨0, Nat.zero_le _, rfl, h0⟩
  case round =>
   obtain ⟨k, hk, rfl, hJs⟩ := hrel
   have hnx := hB _ _ hJs
   by_cases hlt : k < zs.length
   ·have hcx : wr.cell? ⟨b, off + k, none⟩ = some (.int .i64 (zs[k]?.getD 0)) := (hnx.cell (p := ⟨b, off + k, none⟩) (hcs k hlt).1).trans (hcs k hlt).2
    have hT : zs.take k ++ [zs[k]?.getD 0] = zs.take (k + 1) := by rw [List.take_add_one, List.getElem?_eq_getElem hlt]; rfl
    have hl : (zs.take k).length < zs.length := by rw [List.length_take]; omega
    generalize zs[k]?.getD 0 = x at hcx hT
    have hYk : YieldAt F (n - 1) Try.prog l #[.int .i64 x] wr fun e W' => e = .returned (.bool true) ∧ J (zs.take k ++ [x]) W' ∧ KeepsWalks wr W' := hY _ x wr hJs hl
    obtain ⟨fn, tmps, assign, body, hy, hR⟩ := hYk
    have HT := hide hT
    clear hT hl
    gi_wp2
    refine hR.mono ?_
    rintro e W3 ⟨rfl, hJ3, hk3⟩
    gi_wp2
    go_roundw
    case rel => exact ⟨k + 1, by omega, by simp, by rw [← HT.out]; exact hJ3⟩
    case measure => simp [intOf]; omega
   ·obtain rfl : k = zs.length := by omega
    gi_wp2
    go_end0
    exact ⟨⟨_, rfl⟩, _, rfl, by rw [List.take_length] at hJs; exact hJs⟩

theorem values_gives (F : Fence) (n : Nat) (h7 : F.fn 94) (hro : F.round = none) (hn : 1 ≤ n) (Bs : Nat) (sv : Value) (zs : List Int) (w : World) (hreach : zs.length * 8 ≤ 140737488351232) (hBs : Bs < w.heap.size) (hc : w.cell? ⟨Bs, 0, none⟩ = some sv) (hI : IntsAt w sv zs) :
  GivesB F n Try.prog 94 #[.pointer (some ⟨Bs, 0, none⟩)] (fun xs => xs = zs) zs.length w := fun l J W _ _ hB hY h0 =>
 values1B F n h7 hro hn l Bs sv zs w hreach hBs hc hI J W hB hY h0

set_option maxRecDepth 100000 in
set_option maxHeartbeats 1000000 in
theorem values_any (a : Option Addr) (len cap : Nat) (w : World) :
  Calls Try.prog 73 #[.slice a len cap] w fun e w' => e = .returned (.func (.func 94) #[] #[.pointer (some ⟨w.heap.size, 0, none⟩)]) ∧ w' = w.alloc (.cells #[.slice a len cap] 37) := by
 go_enter Try.func73, Try.ntmps73
 go_wp2
 go_ret
 exact ⟨rfl, rfl⟩

theorem sorts_any (m : Nat) : AnyZI.SortsIn Try.prog Try.sortedI_ren Fence.wide m :=
  ⟨fun blk off cap ss W hH hblk hsz => callsIn_wide.2 (Try.slices_Sort_int blk off cap ss W hH hblk hsz),
   fun p cap W => callsIn_wide.2 (Try.slices_Sort_int_none p cap W)⟩

theorem sorted_any (g : Nat) (lb : Array Value) (eg : ∀ args w, (callFunc g args).run Try.prog w = .ok (.enter g args) w) (S : List Int → Prop) (N : Nat) (hlenS : ∀ ss, S ss → ss.length ≤ N) (hN : N ≤ 16777216) (w : World) (hseq : GivesB Fence.wide 2 Try.prog g lb S N w) :
  Calls Try.prog 43 #[.func (.func g) #[] lb] w fun e w' => ∃ (v : Value) (ss : List Int), e = .returned v ∧ S ss ∧
   w'.ownsRow w.heap.size 3 1 v ss.length ((ss.mergeSort (fun x y => decide (x ≤ y))).map encZ) ∧ (v = .slice none 0 0 ↔ ss = []) ∧ Below w.heap.size w w' := by
 have hN2 : N ≤ maxLen := by unfold maxLen; omega
 have h := sortedB_in Try.sortedI Fence.wide 5 trivial trivial trivial trivial rfl (by omega) (sorts_any _) (enters_of Try.func69 (by kernel_rfl) rfl) g lb trivial eg S N hlenS hN2 (by omega) w hseq
 change CallsIn _ _ Try.prog 43 _ _ _ at h
 exact callsIn_wide.1 h

theorem sortedVals_any (sv : Value) (zs : List Int) (Bs : Nat) (w : World) (hreach : zs.length ≤ 16777216) (hBs : Bs < w.heap.size) (hc : w.cell? ⟨Bs, 0, none⟩ = some sv) (hI : IntsAt w sv zs) :
  Calls Try.prog 43 #[.func (.func 94) #[] #[.pointer (some ⟨Bs, 0, none⟩)]] w fun e w' => ∃ v : Value, e = .returned v ∧
   w'.ownsRow w.heap.size 3 1 v zs.length ((zs.mergeSort (fun x y => decide (x ≤ y))).map encZ) ∧ (v = .slice none 0 0 ↔ zs = []) ∧ Below w.heap.size w w' := by
 refine (sorted_any 94 _ (enters_of Try.func94 (by kernel_rfl) rfl) (fun xs => xs = zs) zs.length (fun ss e => by rw [e]; exact Nat.le_refl _) hreach w (values_gives Fence.wide 2 trivial rfl (by omega) Bs sv zs w (by omega) hBs hc hI)).mono ?_
 rintro e w' ⟨v, ss, rfl, rfl, h1, h2, h3⟩
 exact ⟨v, rfl, h1, h2, h3⟩

end

section
open Go.RowKit

section
variable {P : Program}

theorem run_append_roomQ (w : World) (t ty e : TypeId) (i : TypeInfo) (ht : P.underlying t = some (.slice e)) (hi : P.info? e = some i)
  (g off sLen sCap : Nat) (cur : Array Value) (hg : w.heap[g]? = some (.cells cur e (0, 0)))
  (a : Addr) (m c : Nat) (news : List Value) (hl : news.length = m * i.size) (hnews : ∀ j u, news[j]? = some u → w.cell? (a.add j) = some u) (h1 : ∀ u ∈ news, u.oneCell' = true)
  (hroom : sLen + m ≤ sCap) (hfit : off + sLen * i.size + news.length ≤ cur.size) :
  (Builtin.append_ #[t, t] ty #[.slice (some ⟨g, off, none⟩) sLen sCap, .slice (some a) m c]).run P w =
   .ok (.slice (some ⟨g, off, none⟩) (sLen + m) sCap) (w.setRow g (cur.toList.take (off + sLen * i.size) ++ news ++ cur.toList.drop (off + sLen * i.size + news.length)).toArray) := by
 have hf := run_firstCells_some (P := P) w i.size m a m c news hl hnews
 have hst := run_storeCells_at P g (off + sLen * i.size) e news 0 cur w hg (by simpa using hfit) h1
 simp only [Nat.add_zero] at hst
 simp [Builtin.append_, run_underlying ht, sizeOf, typeInfo, hi, Builtin.lenOf, hroom, hf, Addr.add_lit, hst]

def QOwn (w : World) (base : Nat) (T : TypeId) (v : Value) (l : List Int) : Prop :=
 ∃ (g off cap : Nat) (cur : Array Value), v = .slice (some ⟨g, off, none⟩) l.length cap ∧ base ≤ g ∧ w.heap[g]? = some (.cells cur T (0, 0)) ∧ l.length ≤ cap ∧ cap ≤ maxLen ∧ off + cap ≤ cur.size ∧ ∀ j z, l[j]? = some z → cur[off + j]? = some (.int .i64 z)

theorem QOwn.lt {w : World} {base : Nat} {T : TypeId} {v : Value} {l : List Int} (h : QOwn w base T v l) : ∀ k, v.ownBlock = some k → base ≤ k ∧ k < w.heap.size := by
 obtain ⟨g, off, cap, cur, rfl, hb, hg, -⟩ := h
 intro k hk
 simp only [Value.ownBlock, Option.some.injEq] at hk
 subst hk
 exact ⟨hb, (Array.getElem?_eq_some_iff.1 hg).1⟩

theorem QOwn.below {w w' : World} {base : Nat} {T : TypeId} {v : Value} {l : List Int} (h : QOwn w base T v l) (hb : Below w.heap.size w w') : QOwn w' base T v l := by
 obtain ⟨g, off, cap, cur, e, h1, hg, r⟩ := h
 exact ⟨g, off, cap, cur, e, h1, (hb.block g (Array.getElem?_eq_some_iff.1 hg).1).trans hg, r⟩

theorem QOwn.kept {w w' : World} {base : Nat} {T : TypeId} {v : Value} {l : List Int} (h : QOwn w base T v l) {row : Option Nat} (hg : w.grownBy w' row) (hne : ∀ k, v.ownBlock = some k → row ≠ some k) : QOwn w' base T v l := by
 obtain ⟨g, off, cap, cur, rfl, h1, hh, r⟩ := h
 exact ⟨g, off, cap, cur, rfl, h1, (hg.block g (Array.getElem?_eq_some_iff.1 hh).1 (fun e => hne g rfl e.symm)).trans hh, r⟩

theorem QOwn.head {w : World} {base : Nat} {T : TypeId} {v : Value} {z : Int} {l : List Int} (h : QOwn w base T v (z :: l)) : ∃ g off cap, v = .slice (some ⟨g, off, none⟩) (l.length + 1) cap ∧ l.length + 1 ≤ cap ∧ cap ≤ maxLen ∧ w.cell? ⟨g, off, none⟩ = some (.int .i64 z) := by
 obtain ⟨g, off, cap, cur, rfl, h1, hh, h2, h3, h4, hc⟩ := h
 refine ⟨g, off, cap, rfl, h2, h3, ?_⟩
 have := hc 0 z rfl
 simp only [World.cell?, hh]
 simpa using this

theorem QOwn.rest {w : World} {base : Nat} {T : TypeId} {g off cap : Nat} {z : Int} {l : List Int} (h : QOwn w base T (.slice (some ⟨g, off, none⟩) (l.length + 1) cap) (z :: l)) : QOwn w base T (.slice (if cap = 1 then some ⟨g, off, none⟩ else some ⟨g, off + 1, none⟩) l.length (cap - 1)) l := by
 obtain ⟨g', off', cap', cur, e, h1, hh, h2, h3, h4, hc⟩ := h
 cases e
 simp only [List.length_cons] at h2
 by_cases h : cap = 1
 ·rw [if_pos h]
  have hl : l = [] := List.eq_nil_of_length_eq_zero (by omega)
  subst hl
  exact ⟨g, off, cap - 1, cur, rfl, h1, hh, by simp, by omega, by omega, fun j z hj => by simp at hj⟩
 ·rw [if_neg h]
  refine ⟨g, off + 1, cap - 1, cur, rfl, h1, hh, by omega, by omega, by omega, fun j y hj => ?_⟩
  have := hc (j + 1) y (by simpa using hj)
  rw [show off + 1 + j = off + (j + 1) by omega]
  exact this

theorem QOwn.made {w : World} {base g : Nat} {T : TypeId} {z : Int} (h : w.heap[g]? = some (.cells #[.int .i64 z] T)) (hb : base ≤ g) : QOwn w base T (.slice (some ⟨g, 0, none⟩) 1 1) [z] :=
 ⟨g, 0, 1, _, rfl, hb, h, Nat.le_refl _, by unfold maxLen; omega, by simp, fun j y hj => by
  cases j with
  | zero => simp at hj; subst hj; rfl
  | succ j => simp at hj⟩

theorem run_append_q (w : World) (base : Nat) (t ty T : TypeId) (i : TypeInfo) (zz : Value) (ht : P.underlying t = some (.slice T)) (hi : P.info? T = some i) (hz : i.zero = some zz) (hsize : i.size = 1) (hby : i.bytes = 8) (hzs : zz.cells.size = 1)
  (v : Value) (l : List Int) (hq : QOwn w base T v l) (gb ob c : Nat) (y : Int) (hy : w.cell? ⟨gb, ob, none⟩ = some (.int .i64 y)) (hn : l.length + 1 ≤ 16777216) (hbase : base ≤ w.heap.size) :
  ∃ v' w', (Builtin.append_ #[t, t] ty #[v, .slice (some ⟨gb, ob, none⟩) 1 c]).run P w = .ok v' w' ∧ QOwn w' base T v' (l ++ [y]) ∧ w.grownBy w' v.ownBlock := by
 obtain ⟨g, off, cap, cur, rfl, h1, hh, h2, h3, h4, hc⟩ := hq
 have hnews : ∀ j u, ([.int .i64 y] : List Value)[j]? = some u → w.cell? ((⟨gb, ob, none⟩ : Addr).add j) = some u := by
  intro j u hj
  cases j with
  | zero => simp at hj; subst hj; simpa [Addr.add_lit] using hy
  | succ j => simp at hj
 have hone : ∀ u ∈ ([.int .i64 y] : List Value), u.oneCell' = true := by intro u hu; simp at hu; subst hu; rfl
 by_cases hroom : l.length + 1 ≤ cap
 ·have hr := run_append_roomQ (P := P) w t ty T i ht hi g off l.length cap cur hh ⟨gb, ob, none⟩ 1 c [.int .i64 y] (by rw [hsize]; rfl) hnews hone hroom (by rw [hsize]; simp; omega)
  refine ⟨_, _, hr, ⟨g, off, cap, _, by rw [List.length_append]; rfl, h1, setRow_heap w g cur _ T _ hh, by rw [List.length_append]; exact hroom, h3, ?_, ?_⟩, ⟨rfl, rfl, rfl, by simp, fun k _ hk => setRow_other w g k _ (fun e => hk (by simp [Value.ownBlock, e]))⟩⟩
  ·simp only [List.size_toArray, List.length_append, List.length_take, List.length_drop, Array.length_toList, List.length_cons, List.length_nil]
   omega
  ·intro j u hj
   rw [hsize, Nat.mul_one]
   simp only [List.getElem?_toArray]
   by_cases hjl : j < l.length
   ·rw [List.getElem?_append_left (by simp; omega), List.getElem?_append_left (by simp; omega), List.getElem?_take_of_lt (by omega)]
    rw [List.getElem?_append_left hjl] at hj
    have := hc j u hj
    simpa using this
   ·rw [List.getElem?_append_right (by omega)] at hj
    have hj0 : j = l.length := by
     have := (List.getElem?_eq_some_iff.1 hj).1
     simp at this
     omega
    subst hj0
    simp at hj
    subst hj
    have hlen : (cur.toList.take (off + l.length)).length = off + l.length := by have hs : cur.toList.length = cur.size := Array.length_toList; rw [List.length_take]; omega
    rw [List.getElem?_append_left (by rw [List.length_append, hlen]; simp), List.getElem?_append_right (by rw [hlen]; omega), hlen, Nat.sub_self]
    rfl
 ·have hcl : cap = l.length := by omega
  subst hcl
  have holds : ∀ j u, (l.map (Value.int .i64))[j]? = some u → w.cell? ((⟨g, off, none⟩ : Addr).add j) = some u := by
   intro j u hj
   rw [List.getElem?_map] at hj
   cases hx : l[j]? with
   | none => rw [hx] at hj; cases hj
   | some x =>
    rw [hx] at hj
    cases hj
    have := hc j x hx
    simp only [Addr.add_lit, World.cell?, hh]
    simpa using this
  have hr := run_append_grow (P := P) w t ty T i zz ht hi hz ⟨g, off, none⟩ l.length l.length (l.map (Value.int .i64)) (by rw [hsize]; simp) holds ⟨gb, ob, none⟩ 1 c [.int .i64 y] (by rw [hsize]; rfl) hnews (by omega) (by omega) (growslice_fits (by omega) (by rw [hby]; omega))
  have hge := grownCap_ge w (l.length + 1) l.length T
  have hcm : grownCap w (l.length + 1) l.length T ≤ maxLen := grownCap_le_maxLen w (l.length + 1) l.length T (by unfold maxLen; omega)
  refine ⟨_, _, hr, ⟨w.heap.size, 0, _, _, by rw [List.length_append]; rfl, hbase, heap_alloc_new w.drew _, by rw [List.length_append]; exact hge, hcm, ?_, ?_⟩, ⟨rfl, rfl, rfl, by simp, fun k hk _ => (below_one w.drew _).block k (by simpa using hk)⟩⟩
  ·simp only [Array.size_append, List.size_toArray, size_zeroCells, hzs, List.length_map, List.length_cons, List.length_nil]
   omega
  ·intro j u hj
   rw [Nat.zero_add, Array.getElem?_append_left (by
    have := (List.getElem?_eq_some_iff.1 hj).1
    simp at this ⊢
    omega)]
   rw [← Array.getElem?_toList, Array.toList_append, List.toList_toArray, List.toList_toArray, show (l.map (Value.int .i64)) ++ [Value.int .i64 y] = (l ++ [y]).map (Value.int .i64) by simp, List.getElem?_map, hj]
   rfl

theorem wpList_append_q (w : World) {ops : Array Oper} {rest : List Oper} {o : Oper} {a : Act} {Q : Exit → Act → World → Prop} (hgd : o.guard = none) (s x : Operand) (t T : TypeId)
  (ho : o.op = Op.call { callee := Callee.builtin Builtin.append, args := #[s, x], argTypes := #[t, t] }) (base : Nat) {zz : Value}
  (ht : P.underlying t = some (TypeDesc.slice T)) (hinfo : (P.info? T).map (fun i => (i.zero, i.size, i.bytes)) = some (some zz, 1, 8)) (hzs : zz.cells.size = 1)
  (v : Value) (l : List Int) (hs : a.eval s = v) (hq : QOwn w base T v l) (gb ob c : Nat) (y : Int) (hx : a.eval x = .slice (some ⟨gb, ob, none⟩) 1 c) (hy : w.cell? ⟨gb, ob, none⟩ = some (.int .i64 y)) (hn : l.length + 1 ≤ 16777216) (hbase : base ≤ w.heap.size)
  (h : ∀ v' w', QOwn w' base T v' (l ++ [y]) → w.grownBy w' v.ownBlock → wpList P ops Q rest (a.put o.dst v') w') : wpList P ops Q (o :: rest) a w := by
 obtain ⟨i, hi, hz, hsize, hby⟩ := finfo_parts hinfo
 obtain ⟨v', w', hr, h2, h3⟩ := run_append_q (P := P) w base t o.type T i zz ht hi hz hsize hby hzs v l hq gb ob c y hy hn hbase
 refine wpList_plain hgd fun _ hK => ?_
 unfold Oper.wp execOp
 simp only [ho, resolve, invoke, builtin, Sem.run_bind, Sem.run_pure, Result.andThen_ok, List.map_toArray, List.map_cons, List.map_nil, hs, hx, hr]
 exact hK _ _ (h v' w' h2 h3)
end

end

end Go.Proofs.Ytgmkhoakindpkaa
