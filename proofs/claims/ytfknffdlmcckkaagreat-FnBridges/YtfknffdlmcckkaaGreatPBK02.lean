/-
  Packed: VtabAt Made VecEql PtOkS FdbSpec PtApp Draw Drawb DrawVec DrawPt VlanBits.
-/
import Derived.Test.YtfknffdlmcckkaaGreatPBK01
import Derived.Deep.RegionHeld3
import Derived.Deep.CutRange
namespace Go.Proofs.YtfknffdlmcckkaaGreat
open Go.RowKit

set_option maxRecDepth 100000 in
set_option maxHeartbeats 400000 in
theorem specRowAt_any (a : Option Addr) (n c : Nat) (l : List VR) (o : Option Addr) (p q : Nat) (id : Int) (w : World) (h : GRow vrowF w a n c l) :
  Calls Tryz.prog 113 #[.agg #[.slice a n c, .slice o p q], .int .i64 id] w fun r w' => r = .returned (.int .i64 (rowAt l id)) ∧ Below w.heap.size w w' := by
 have hle := h.le
 have htop := h.top
 unfold maxLen at htop
 have hsz := h.size
 have hW : Below w.heap.size w (w.alloc (Obj.cells #[Value.slice a n c, Value.slice o p q] 29)) := below_one _ _
 have h := h.below hW
 go_enter Tryz.func113, Tryz.ntmps113
 go_wp2
 go_loop [5] (fun i => ∃ k : Nat, k ≤ n ∧ i = .int .i64 k ∧ ∀ (j : Nat) (y : VR), j < k → l[j]? = some y → (y.i == id) = false) (fun i => n - (intOf i).toNat)
 case atStart => exact ⟨0, Nat.zero_le _, rfl, fun j y hj => by omega⟩
 case round =>
  obtain ⟨k, hk, rfl, hno⟩ := hrel
  by_cases hlt : k < n
  ·obtain ⟨x, b, off, hx, rfl, c0, -, -⟩ := vrow_at h k hlt
   cases t1 : (x.i == id)
   ·have HO := hide (vno_next hno hx t1)
    clear hno
    go_wp2
    go_round
    case rel => exact ⟨k + 1, by omega, by go_num, HO.out⟩
    case measure => simp [intOf]; omega
   ·have HF := hide (rowAt_found hno hx t1)
    clear hno
    go_wp2
    go_ret
    exact ⟨(by rw [HF.out]; rfl), hW⟩
  ·have hkn : k = n := by omega
   have HF := hide (rowAt_none (l := l) (id := id) (fun i y hy => hno i y (by have := (List.getElem?_eq_some_iff.1 hy).1; omega) hy))
   clear hno
   subst hkn
   go_wp2
   go_ret
   exact ⟨(by rw [HF.out]; rfl), hW⟩

theorem made_new {K : World → Prop} {W : World} {o : Obj} (h : ∀ wx, wx.heap[W.heap.size]? = some o → Below W.heap.size W wx → K wx) : K (W.alloc o) := h _ (block_last W o) (below_one W o)

theorem made_drew {K : World → Prop} {W : World} {o : Obj} (h : ∀ wx, wx.heap[W.heap.size]? = some o → Below W.drew.heap.size W.drew wx → K wx) : K (W.alloc o).drew := h _ (block_last W o) (below_one W.drew o)

theorem vec_eql (R C H B P R' C' H' B' P' : Int) (w : World) : (binOp .eql 35 (.agg #[.int .i64 R, .int .i64 C, .int .i64 H, .int .i64 B, .int .i64 P]) (.agg #[.int .i64 R', .int .i64 C', .int .i64 H', .int .i64 B', .int .i64 P'])).run Tryz.prog w = .ok (.bool ((R == R') && ((C == C') && ((H == H') && ((B == B') && (P == P')))))) w := by
 have u3 := Tryz.underlying3
 have a3 := Tryz.isAgg3
 have z3 := Tryz.sizeOf3
 have hS : Tryz.prog.underlying 35 = some (.struct (Tryz.prog.fieldsOf 35)) := by kernel_rfl
 have hp : Tryz.prog.stoodInHeld 35 = false := by kernel_rfl
 rw [run_eql_struct, show (10000 : Nat) = 9999 + 1 from rfl, run_equalIn_agg w 9999 35 _ _ hS hp]
 simp only [Program.fieldsOf, Tryz.underlying35]
 go_simp
 by_cases h1 : R = R' <;> by_cases h2 : C = C' <;> by_cases h3 : H = H' <;> by_cases h4 : B = B' <;> by_cases h5 : P = P' <;> simp [h1, h2, h3, h4, h5]

theorem cells8 {w : World} {g : Nat} {T : TypeId} {c0 c1 c2 c3 c4 c5 c6 c7 : Value} (h : w.heap[g]? = some (.cells #[c0, c1, c2, c3, c4, c5, c6, c7] T)) :
  w.cell? ⟨g, 0, none⟩ = some c0 ∧ w.cell? ⟨g, 1, none⟩ = some c1 ∧ w.cell? ⟨g, 2, none⟩ = some c2 ∧ w.cell? ⟨g, 3, none⟩ = some c3 ∧ w.cell? ⟨g, 4, none⟩ = some c4 ∧ w.cell? ⟨g, 5, none⟩ = some c5 ∧ w.cell? ⟨g, 6, none⟩ = some c6 ∧ w.cell? ⟨g, 7, none⟩ = some c7 := by
 simp [World.cell?, h]

set_option maxRecDepth 100000 in
set_option maxHeartbeats 2000000 in
theorem specEnt_any (e : FE) (w : World) :
  Calls Tryz.prog 111 #[.agg #[.int .i64 e.t, .int .i64 e.m, .int .i64 e.p, .int .i64 e.a, .bool e.s]] w fun r w' => r = .returned (.bool (entOk e)) ∧ Below w.heap.size w w' := by
 generalize hP : entOk e = Q
 unfold entOk at hP
 cases t1 : (decide (1 ≤ e.t) && decide (e.t ≤ 99))
 ·have h : Q = false := by rw [← hP, t1]; rfl
  subst h
  have T1 := hide t1
  clear hP t1
  go_enter Tryz.func111, Tryz.ntmps111
  go_wp2_with fail
  refine (within_any e.t 1 99 _).mono ?_
  rintro r w1 ⟨rfl, rfl⟩
  rw [T1.out]
  go_wp2
  go_ret
  exact ⟨rfl, below_one _ _⟩
 cases t2 : (decide (1 ≤ e.m) && decide (e.m ≤ 9999))
 ·have h : Q = false := by rw [← hP, t1, t2]; rfl
  subst h
  have T1 := hide t1
  have T2 := hide t2
  clear hP t1 t2
  go_enter Tryz.func111, Tryz.ntmps111
  go_wp2_with fail
  refine (within_any e.t 1 99 _).mono ?_
  rintro r w1 ⟨rfl, rfl⟩
  rw [T1.out]
  go_wp2_with fail
  refine (within_any e.m 1 9999 _).mono ?_
  rintro r w2 ⟨rfl, rfl⟩
  rw [T2.out]
  go_wp2
  go_ret
  exact ⟨rfl, below_one _ _⟩
 cases t3 : (decide (0 ≤ e.p) && decide (e.p ≤ 7))
 ·have h : Q = false := by rw [← hP, t1, t2, t3]; rfl
  subst h
  have T1 := hide t1
  have T2 := hide t2
  have T3 := hide t3
  clear hP t1 t2 t3
  go_enter Tryz.func111, Tryz.ntmps111
  go_wp2_with fail
  refine (within_any e.t 1 99 _).mono ?_
  rintro r w1 ⟨rfl, rfl⟩
  rw [T1.out]
  go_wp2_with fail
  refine (within_any e.m 1 9999 _).mono ?_
  rintro r w2 ⟨rfl, rfl⟩
  rw [T2.out]
  go_wp2_with fail
  refine (within_any e.p 0 7 _).mono ?_
  rintro r w3 ⟨rfl, rfl⟩
  rw [T3.out]
  go_wp2
  go_ret
  exact ⟨rfl, below_one _ _⟩
 cases t4 : (decide (0 ≤ e.a) && decide (e.a ≤ 4))
 ·have h : Q = false := by rw [← hP, t1, t2, t3, t4]; rfl
  subst h
  have T1 := hide t1
  have T2 := hide t2
  have T3 := hide t3
  have T4 := hide t4
  clear hP t1 t2 t3 t4
  go_enter Tryz.func111, Tryz.ntmps111
  go_wp2_with fail
  refine (within_any e.t 1 99 _).mono ?_
  rintro r w1 ⟨rfl, rfl⟩
  rw [T1.out]
  go_wp2_with fail
  refine (within_any e.m 1 9999 _).mono ?_
  rintro r w2 ⟨rfl, rfl⟩
  rw [T2.out]
  go_wp2_with fail
  refine (within_any e.p 0 7 _).mono ?_
  rintro r w3 ⟨rfl, rfl⟩
  rw [T3.out]
  go_wp2_with fail
  refine (within_any e.a 0 4 _).mono ?_
  rintro r w4 ⟨rfl, rfl⟩
  rw [T4.out]
  go_wp2
  go_ret
  exact ⟨rfl, below_one _ _⟩
 rw [t1, t2, t3, t4, Bool.true_and, Bool.true_and, Bool.true_and, Bool.true_and] at hP
 have T1 := hide t1
 have T2 := hide t2
 have T3 := hide t3
 have T4 := hide t4
 clear t1 t2 t3 t4
 cases hs : e.s
 ·rw [hs] at hP
  have h : Q = true := by rw [← hP]; rfl
  subst h
  clear hP
  go_enter Tryz.func111, Tryz.ntmps111
  go_wp2_with fail
  refine (within_any e.t 1 99 _).mono ?_
  rintro r w1 ⟨rfl, rfl⟩
  rw [T1.out]
  go_wp2_with fail
  refine (within_any e.m 1 9999 _).mono ?_
  rintro r w2 ⟨rfl, rfl⟩
  rw [T2.out]
  go_wp2_with fail
  refine (within_any e.p 0 7 _).mono ?_
  rintro r w3 ⟨rfl, rfl⟩
  rw [T3.out]
  go_wp2_with fail
  refine (within_any e.a 0 4 _).mono ?_
  rintro r w4 ⟨rfl, rfl⟩
  rw [T4.out]
  go_wp2
  go_ret
  exact ⟨rfl, below_one _ _⟩
 ·rw [hs, Bool.not_true, Bool.false_or] at hP
  have HP := hide hP
  clear hP
  go_enter Tryz.func111, Tryz.ntmps111
  go_wp2_with fail
  refine (within_any e.t 1 99 _).mono ?_
  rintro r w1 ⟨rfl, rfl⟩
  rw [T1.out]
  go_wp2_with fail
  refine (within_any e.m 1 9999 _).mono ?_
  rintro r w2 ⟨rfl, rfl⟩
  rw [T2.out]
  go_wp2_with fail
  refine (within_any e.p 0 7 _).mono ?_
  rintro r w3 ⟨rfl, rfl⟩
  rw [T3.out]
  go_wp2_with fail
  refine (within_any e.a 0 4 _).mono ?_
  rintro r w4 ⟨rfl, rfl⟩
  rw [T4.out]
  go_wp2
  go_ret
  exact ⟨ret_bool HP.out, below_one _ _⟩

set_option maxRecDepth 100000 in
set_option maxHeartbeats 400000 in
theorem specAhead_any (e : FE) (t m : Int) (w : World) :
  Calls Tryz.prog 112 #[.agg #[.int .i64 e.t, .int .i64 e.m, .int .i64 e.p, .int .i64 e.a, .bool e.s], .int .i64 t, .int .i64 m] w fun r w' => r = .returned (.bool (ahead e t m)) ∧ Below w.heap.size w w' := by
 unfold ahead
 cases t1 : (e.t != t)
 ·rw [if_neg Bool.false_ne_true]
  go_enter Tryz.func112, Tryz.ntmps112
  go_wp2
  go_ret
  exact ⟨rfl, below_one _ _⟩
 ·rw [if_pos rfl]
  go_enter Tryz.func112, Tryz.ntmps112
  go_wp2
  go_ret
  exact ⟨rfl, below_one _ _⟩

def okTo (l : List FE) (k : Nat) : Prop := ∀ i x, i < k → l[i]? = some x → entOk x = true ∧ ∀ y, 0 < i → l[i - 1]? = some y → ahead y x.t x.m = true

theorem okTo_rises : ∀ (l : List FE), rises l = true ↔ okTo l l.length
 | [] => by simp [rises, okTo]
 | [e] => by
  simp only [rises, okTo, List.length_singleton]
  constructor
  ·intro h i x hi hx
   have h0 : i = 0 := by omega
   subst h0
   simp at hx
   subst hx
   exact ⟨h, fun y hy => by omega⟩
  ·intro h
   exact (h 0 e (by omega) rfl).1
 | e :: f :: r => by
  have ih := okTo_rises (f :: r)
  unfold rises
  simp only [Bool.and_eq_true, ih]
  constructor
  ·rintro ⟨h1, h2, h3⟩ i x hi hx
   match i, hx with
   | 0, hx =>
    simp at hx
    subst hx
    exact ⟨h1, fun y hy => by omega⟩
   | 1, hx =>
    simp at hx
    subst hx
    refine ⟨(h3 0 f (by simp) rfl).1, fun y _ hy => ?_⟩
    simp at hy
    subst hy
    exact h2
   | i + 2, hx =>
    obtain ⟨a1, a2⟩ := h3 (i + 1) x (by simp at hi ⊢; omega) (by simpa using hx)
    exact ⟨a1, fun y _ hy => a2 y (by omega) (by simpa using hy)⟩
  ·intro h
   refine ⟨(h 0 e (by simp) rfl).1, (h 1 f (by simp) rfl).2 e (by omega) rfl, fun i x hi hx => ?_⟩
   obtain ⟨a1, a2⟩ := h (i + 1) x (by simp at hi ⊢; omega) (by simpa using hx)
   refine ⟨a1, fun y hy hz => a2 y (by omega) ?_⟩
   obtain ⟨j, rfl⟩ : ∃ j, i = j + 1 := ⟨i - 1, by omega⟩
   simpa using hz

theorem okTo_next {l : List FE} {k : Nat} {x : FE} (h : okTo l k) (hx : l[k]? = some x) (h1 : entOk x = true) (h2 : ∀ y, 0 < k → l[k - 1]? = some y → ahead y x.t x.m = true) : okTo l (k + 1) := by
 intro i z hi hz
 by_cases e : i = k
 ·subst e
  rw [hx] at hz
  cases hz
  exact ⟨h1, h2⟩
 ·exact h i z (by omega) hz

theorem fdbOk_not {l : List FE} (h : ¬ okTo l l.length) : fdbOk l = false := by
 unfold fdbOk
 have : rises l = false := by
  cases hr : rises l
  ·rfl
  ·exact absurd ((okTo_rises l).1 hr) h
 rw [this]
 rfl

theorem fdbOk_yes {l : List FE} (h : okTo l l.length) : fdbOk l = decide ((l.length : Int) ≤ 12) := by
 unfold fdbOk
 rw [(okTo_rises l).2 h]
 rfl

theorem ptInfo : (Tryz.prog.info? 44).map (fun i => (i.zero, i.size, i.bytes)) = some (some (.agg #[.bool false, .int .i64 0, .bool false, .int .i64 0, .int .i64 0, .int .i64 0, .int .i64 0, .int .i64 0]), ptF.k, 64) := by kernel_rfl

theorem pt_append (w : World) {ops : Array Oper} {rest : List Oper} {o : Oper} {a : Act} {Q : Exit → Act → World → Prop} (hgd : o.guard = none)
  (s x : Operand) (ho : o.op = Op.call { callee := Callee.builtin Builtin.append, args := #[s, x], argTypes := #[24, 24] }) (base : Nat)
  (v : Value) (n : Nat) (xs : List PT) (hs : a.eval s = v) (hown : w.ownsRow base 44 8 v n (ptF.all xs)) (ao : Option Addr) (m c : Nat) (zs : List PT)
  (hx : a.eval x = .slice ao m c) (hrow : GRow ptF w ao m c zs) (hsm : n + m ≤ 137438953472) (hbase : base ≤ w.heap.size)
  (h : ∀ ao' cap' w', w'.ownsRow base 44 8 (.slice ao' (n + m) cap') (n + m) (ptF.all (xs ++ zs)) → GRow ptF w' ao' (n + m) cap' (xs ++ zs) → w.grownBy w' v.ownBlock → Below base w w' → wpList Tryz.prog ops Q rest (a.put o.dst (.slice ao' (n + m) cap')) w') :
  wpList Tryz.prog ops Q (o :: rest) a w :=
 wpList_append_flat (F := ptF) w hgd s x 24 44 ho base Tryz.underlying24 ptInfo rfl (by decide) v n xs hs hown ao m c zs hx hrow hsm hbase h

theorem set_block8 {w : World} {g : Nat} {T : TypeId} {c0 c1 c2 c3 c4 c5 c6 c7 : Value} (h : w.heap[g]? = some (.cells #[c0, c1, c2, c3, c4, c5, c6, c7] T)) (u : Value) : (w.setCell ⟨g, 2, none⟩ u).heap[g]? = some (.cells #[c0, c1, u, c3, c4, c5, c6, c7] T) := set_block5 (j := 2) h u

theorem set_heard {w : World} {g : Nat} {T : TypeId} {c0 c1 c2 c3 c4 c5 c6 c7 : Value} (h : w.heap[g]? = some (.cells #[c0, c1, c2, c3, c4, c5, c6, c7] T)) (u3 u4 u5 u6 u7 : Value) : (((((w.setCell ⟨g, 3, none⟩ u3).setCell ⟨g, 4, none⟩ u4).setCell ⟨g, 5, none⟩ u5).setCell ⟨g, 6, none⟩ u6).setCell ⟨g, 7, none⟩ u7).heap[g]? = some (.cells #[c0, c1, c2, u3, u4, u5, u6, u7] T) :=
 set_block5 (j := 7) (set_block5 (j := 6) (set_block5 (j := 5) (set_block5 (j := 4) (set_block5 (j := 3) h u3) u4) u5) u6) u7

theorem frozen8 {w : World} {g : Nat} {T : TypeId} {cs : Array Value} (h : w.heap[g]? = some (.cells cs T)) (j : Nat) : w.frozen? ⟨g, j, none⟩ = false := by
 simp [World.frozen?, h]

theorem own_box8 {w : World} {base k : Nat} {e : TypeId} {v : Value} {n : Nat} {xs : List Value} (h : w.ownsRow base e k v n xs) : ∀ b, v.ownBlock = some b → b < w.heap.size := fun b hb => (h.lt b hb).2

theorem and_mask (x m : Int) (h : 0 ≤ m ∧ m ≤ 9223372036854775807) : 0 ≤ bits .and .i64 x m ∧ bits .and .i64 x m ≤ m := by
 have e2 : (BitVec.ofInt 64 m).toNat = m.toNat := by
  rw [BitVec.toNat_ofInt]
  have : ((2 ^ 64 : Nat) : Int) = 18446744073709551616 := by decide
  rw [this]; omega
 have e3 : ((BitVec.ofInt 64 x) &&& (BitVec.ofInt 64 m)).toNat ≤ m.toNat := by
  rw [BitVec.toNat_and, e2]; exact Nat.and_le_right
 have e : bits .and .i64 x m = IntKind.i64.wrap (((BitVec.ofInt 64 x) &&& (BitVec.ofInt 64 m)).toNat : Int) := rfl
 rw [e, IntKind.wrap_i64]
 omega

theorem grown_trans {a b c : World} {C : Nat} (h : a.grownBy b (some C)) (k : b.grownBy c (some C)) : a.grownBy c (some C) where
 os := k.os.trans h.os
 tape := k.tape.trans h.tape
 output := k.output.trans h.output
 size := Nat.le_trans h.size k.size
 block := fun j hj hne => (k.block j (Nat.lt_of_lt_of_le hj h.size) hne).trans (h.block j hj hne)

theorem grown_of_below {a b : World} (C : Nat) (h : Below a.heap.size a b) : a.grownBy b (some C) where
 os := h.os
 tape := h.tape
 output := h.output
 size := h.size
 block := fun j hj _ => h.block j hj

theorem below_of_grown {a b : World} {C B : Nat} (h : a.grownBy b (some C)) (hB : B ≤ C) (hs : C ≤ a.heap.size) : Below B a b where
 os := h.os
 tape := h.tape
 output := h.output
 size := h.size
 block := fun j hj => h.block j (by omega) (by intro e; cases e; omega)

theorem grown_drewN {a b : World} {C : Nat} (h : a.grownBy b (some C)) (n : Nat) : a.grownBy (b.drewN n) (some C) := ⟨h.os, h.tape, h.output, h.size, h.block⟩

structure Cur (w : World) (C : Nat) (a0 : Option Addr) (l0 c0 : Nat) (z0 : List Int) : Prop where
 row : ∀ w', Below C w w' → Row w' a0 l0 c0 z0
 small : l0 ≤ 1048576
 here : ∃ i h : Int, 0 ≤ i ∧ i ≤ l0 ∧ w.heap[C]? = some (.cells #[.slice a0 l0 c0, .int .i64 i, .int .i64 h] 97)

theorem Cur.lt {w : World} {C : Nat} {a0 : Option Addr} {l0 c0 : Nat} {z0 : List Int} (h : Cur w C a0 l0 c0 z0) : C < w.heap.size := by
 obtain ⟨i, x, _, _, e⟩ := h.here
 by_cases hlt : C < w.heap.size
 ·exact hlt
 ·rw [Array.getElem?_eq_none (by omega)] at e; cases e

theorem Cur.below {w w' : World} {C : Nat} {a0 : Option Addr} {l0 c0 : Nat} {z0 : List Int} (h : Cur w C a0 l0 c0 z0) (hb : Below w.heap.size w w') : Cur w' C a0 l0 c0 z0 where
 row := fun w2 h2 => h.row w2 ((hb.mono (Nat.le_of_lt h.lt)).trans h2)
 small := h.small
 here := by
  obtain ⟨i, x, h1, h2, e⟩ := h.here
  exact ⟨i, x, h1, h2, by rw [hb.block C h.lt]; exact e⟩

theorem cur_new (w : World) (a0 : Option Addr) (l0 c0 : Nat) (z0 : List Int) (x : Int) (h0 : Row w a0 l0 c0 z0) (hs : l0 ≤ 1048576) : Cur (w.alloc (.cells #[.slice a0 l0 c0, .int .i64 0, .int .i64 x] 97)) w.heap.size a0 l0 c0 z0 where
 row := fun w2 h2 => h0.below (((Below.refl _ _).alloc (Nat.le_refl _) _).trans h2)
 small := hs
 here := ⟨0, x, by omega, by omega, by show (w.heap.push _)[w.heap.size]? = _; simp⟩

theorem Cur.drew {w : World} {C : Nat} {a0 : Option Addr} {l0 c0 : Nat} {z0 : List Int} (h : Cur w C a0 l0 c0 z0) (n : Nat) : Cur (w.drewN n) C a0 l0 c0 z0 := h.below (below_drewN (Below.refl _ _) n)

set_option maxRecDepth 100000 in
set_option maxHeartbeats 400000 in
theorem new_any (a0 : Option Addr) (l0 c0 : Nat) (z0 : List Int) (w : World) (h0 : Row w a0 l0 c0 z0) (hs : l0 ≤ 1048576) :
  Calls Tryz.prog 29 #[.slice a0 l0 c0] w fun e w' => e = .returned (.pointer (some ⟨w.heap.size, 0, none⟩)) ∧ Cur w' w.heap.size a0 l0 c0 z0 ∧ Below w.heap.size w w' := by
 have hby := h0.byte
 have hcell := h0.cell
 go_enter Tryz.func29, Tryz.ntmps29
 go_wp2
 go_loop [3, 4] (fun m i => ∃ (k : Nat) (x : Int), k ≤ l0 ∧ k ≤ 4000 ∧ i = .int .i64 k ∧ m = .int .i64 x ∧ 0 ≤ x ∧ x ≤ 1073741823) (fun _ i => l0 - (intOf i).toNat)
 case atStart => exact ⟨0, _, Nat.zero_le _, by omega, rfl, rfl, by omega, by omega⟩
 case round =>
  obtain ⟨k, x, hk, hk4, rfl, rfl, hx0, hx1⟩ := hrel
  by_cases hlt : k < l0
  ·by_cases hl4 : k < 4000
   ·rcases hcell with h | ⟨b, off, rfl, hc⟩
    ·omega
    have cx := hc k hlt
    have bx := hby.at k
    clear hc
    generalize z0.getD k 0 = y at *
    go_wp2
    go_round
    case rel => exact ⟨k + 1, _, by omega, by omega, by go_num, rfl, (and_mask (x * 137 + y + 11) 1073741823 (by omega)).1, (and_mask (x * 137 + y + 11) 1073741823 (by omega)).2⟩
    case measure => simp [intOf]; omega
   ·have i1 : ¬ (k : Int) < 4000 := by omega
    go_wp2
    go_ret
    exact ⟨rfl, cur_new w a0 l0 c0 z0 x h0 hs, (Below.refl _ _).alloc (Nat.le_refl _) _⟩
  ·go_wp2
   go_ret
   exact ⟨rfl, cur_new w a0 l0 c0 z0 x h0 hs, (Below.refl _ _).alloc (Nat.le_refl _) _⟩

structure Went (w w' : World) (C : Nat) (a0 : Option Addr) (l0 c0 : Nat) (z0 : List Int) : Prop where
 cur : Cur w' C a0 l0 c0 z0
 grown : w.grownBy w' (some C)

theorem Cur.cells {w : World} {C : Nat} {c0 c1 c2 : Value} (h : w.heap[C]? = some (.cells #[c0, c1, c2] 97)) :
  w.cell? ⟨C, 0, none⟩ = some c0 ∧ w.cell? ⟨C, 1, none⟩ = some c1 ∧ w.cell? ⟨C, 2, none⟩ = some c2 ∧ (∀ j, w.frozen? ⟨C, j, none⟩ = false) := by
 refine ⟨?_, ?_, ?_, fun j => ?_⟩ <;> simp [World.cell?, World.frozen?, h]

theorem cur_set2 {w : World} {C : Nat} {a0 : Option Addr} {l0 c0 : Nat} {z0 : List Int} {i h : Int} (hc : Cur w C a0 l0 c0 z0) (hh : w.heap[C]? = some (.cells #[.slice a0 l0 c0, .int .i64 i, .int .i64 h] 97)) (H : Int) (hi : 0 ≤ i ∧ i ≤ l0) :
  (w.setCell ⟨C, 2, none⟩ (.int .i64 H)).heap[C]? = some (.cells #[.slice a0 l0 c0, .int .i64 i, .int .i64 H] 97) ∧ w.grownBy (w.setCell ⟨C, 2, none⟩ (.int .i64 H)) (some C) ∧ Cur (w.setCell ⟨C, 2, none⟩ (.int .i64 H)) C a0 l0 c0 z0 := by
 have e : (w.setCell ⟨C, 2, none⟩ (.int .i64 H)).heap[C]? = some (.cells #[.slice a0 l0 c0, .int .i64 i, .int .i64 H] 97) := by
  have := hc.lt
  simp [World.setCell, Array.getElem?_modify, hh]
 have g : w.grownBy (w.setCell ⟨C, 2, none⟩ (.int .i64 H)) (some C) := grown_setCell (World.grownBy.refl _ _) 2 _
 exact ⟨e, g, ⟨fun w2 h2 => hc.row w2 ((below_of_grown g (Nat.le_refl _) (Nat.le_of_lt hc.lt)).trans h2), hc.small, i, H, hi.1, hi.2, e⟩⟩

theorem cur_set1 {w : World} {C : Nat} {a0 : Option Addr} {l0 c0 : Nat} {z0 : List Int} {i h : Int} (hc : Cur w C a0 l0 c0 z0) (hh : w.heap[C]? = some (.cells #[.slice a0 l0 c0, .int .i64 i, .int .i64 h] 97)) (j : Int) (hj : 0 ≤ j ∧ j ≤ l0) :
  Went w (w.setCell ⟨C, 1, none⟩ (.int .i64 j)) C a0 l0 c0 z0 := by
 have e : (w.setCell ⟨C, 1, none⟩ (.int .i64 j)).heap[C]? = some (.cells #[.slice a0 l0 c0, .int .i64 j, .int .i64 h] 97) := by
  have := hc.lt
  simp [World.setCell, Array.getElem?_modify, hh]
 have g : w.grownBy (w.setCell ⟨C, 1, none⟩ (.int .i64 j)) (some C) := grown_setCell (World.grownBy.refl _ _) 1 _
 exact ⟨⟨fun w2 h2 => hc.row w2 ((below_of_grown g (Nat.le_refl _) (Nat.le_of_lt hc.lt)).trans h2), hc.small, j, h, hj.1, hj.2, e⟩, g⟩

set_option maxRecDepth 100000 in
set_option maxHeartbeats 400000 in
theorem byte_any (C : Nat) (a0 : Option Addr) (l0 c0 : Nat) (z0 : List Int) (w : World) (hc : Cur w C a0 l0 c0 z0) :
  Calls Tryz.prog 78 #[.pointer (some ⟨C, 0, none⟩)] w fun e w' => ∃ x : Int, e = .returned (.int .i64 x) ∧ 0 ≤ x ∧ x ≤ 255 ∧ Went w w' C a0 l0 c0 z0 := by
 obtain ⟨i, h, hi0, hi1, hh⟩ := hc.here
 obtain ⟨k0, k1, k2, kf⟩ := Cur.cells hh
 have kf2 := kf 2
 clear kf
 obtain ⟨k, rfl⟩ : ∃ k : Nat, i = k := ⟨i.toNat, by omega⟩
 go_enter Tryz.func78, Tryz.ntmps78
 go_wp2
 generalize wrap64 (wrap64 (h * 6364136223846793005) + 1442695040888963407) = H
 have st := cur_set2 hc hh H ⟨hi0, hi1⟩
 generalize w.setCell ⟨C, 2, none⟩ (.int .i64 H) = W at *
 obtain ⟨hW, hg, hcw⟩ := st
 clear k0 k1 k2 kf2 hh hc
 obtain ⟨k0, k1, k2, kf⟩ := Cur.cells hW
 have kf1 := kf 1
 clear kf
 have hrow := hcw.row W (Below.refl _ _)
 have hl0 := hcw.small
 have hby := hrow.byte
 have hcell := hrow.cell
 go_quiet (fail)
 go_wp2
 have hx := and_mask (bits BinOp.xor IntKind.i64 (H / 8589934592) (H / 140737488355328)) 255 (by omega)
 generalize bits BinOp.and IntKind.i64 (bits BinOp.xor IntKind.i64 (H / 8589934592) (H / 140737488355328)) 255 = x at *
 by_cases hlt : k < l0
 ·rcases hcell with h | ⟨b, off, rfl, hc⟩
  ·omega
  have cx := hc k hlt
  have bx := hby.at k
  clear hc
  generalize z0.getD k 0 = y at *
  have g1 : (k : Int) < l0 := by omega
  go_quiet (fail)
  go_wp2
  go_quiet (fail)
  go_wp2
  go_ret
  refine ⟨_, rfl, (and_mask _ 255 (by omega)).1, (and_mask _ 255 (by omega)).2, ?_⟩
  have t := fun n => cur_set1 (hcw.drew n) (by exact hW) ((k : Int) + 1) (by omega)
  exact ⟨(t _).cur, grown_trans (grown_drewN hg _) (t _).grown⟩
 ·have g1 : ¬ (k : Int) < l0 := by omega
  go_quiet (fail)
  go_wp2
  go_ret
  exact ⟨x, rfl, hx.1, hx.2, hcw.drew _, grown_drewN hg _⟩

theorem mod_bd (x n : Int) (hx : 0 ≤ x) (hn : 0 < n) : 0 ≤ x % n ∧ x % n < n ∧ x % n ≤ x := by
 refine ⟨Int.emod_nonneg _ (by omega), Int.emod_lt_of_pos _ hn, ?_⟩
 have h1 := Int.emod_add_mul_ediv x n
 have h2 : 0 ≤ x / n := Int.ediv_nonneg hx (by omega)
 have h3 : 0 ≤ n * (x / n) := Int.mul_nonneg (by omega) h2
 omega

theorem Went.trans {a b c : World} {C : Nat} {a0 : Option Addr} {l0 c0 : Nat} {z0 : List Int} (h : Went a b C a0 l0 c0 z0) (k : Went b c C a0 l0 c0 z0) : Went a c C a0 l0 c0 z0 := ⟨k.cur, grown_trans h.grown k.grown⟩

theorem Went.made {a b c : World} {C : Nat} {a0 : Option Addr} {l0 c0 : Nat} {z0 : List Int} (h : Went a b C a0 l0 c0 z0) (k : Below b.heap.size b c) : Went a c C a0 l0 c0 z0 := ⟨h.cur.below k, grown_trans h.grown (grown_of_below C k)⟩

theorem Went.start {a b : World} {C : Nat} {a0 : Option Addr} {l0 c0 : Nat} {z0 : List Int} (h : Cur a C a0 l0 c0 z0) (k : Below a.heap.size a b) : Went a b C a0 l0 c0 z0 := ⟨h.below k, grown_of_below C k⟩

set_option maxRecDepth 100000 in
set_option maxHeartbeats 400000 in
theorem below_any (C : Nat) (a0 : Option Addr) (l0 c0 : Nat) (z0 : List Int) (n : Int) (w : World) (hc : Cur w C a0 l0 c0 z0) (hn : n ≤ 1099511627776) :
  Calls Tryz.prog 31 #[.pointer (some ⟨C, 0, none⟩), .int .i64 n] w fun e w' => ∃ x : Int, e = .returned (.int .i64 x) ∧ 0 ≤ x ∧ (0 < n → x < n) ∧ x ≤ 16777215 ∧ Went w w' C a0 l0 c0 z0 := by
 by_cases k0 : n ≤ 0
 ·go_enter Tryz.func31, Tryz.ntmps31
  go_wp2
  go_ret
  exact ⟨0, rfl, by omega, by omega, by omega, Went.start hc (Below.refl _ _)⟩
 by_cases k1 : n ≤ 256
 ·go_enter Tryz.func31, Tryz.ntmps31
  go_wp2_with fail
  refine (byte_any C a0 l0 c0 z0 _ hc).mono ?_
  rintro e w1 ⟨x, rfl, hx0, hx1, went⟩
  have hne : (n == 0) = false := by simp; omega
  go_wp2
  go_ret
  exact ⟨_, rfl, (mod_bd x n hx0 (by omega)).1, fun _ => (mod_bd x n hx0 (by omega)).2.1, by have := (mod_bd x n hx0 (by omega)).2.2; omega, went⟩
 ·go_enter Tryz.func31, Tryz.ntmps31
  go_wp2_with fail
  refine (byte_any C a0 l0 c0 z0 _ hc).mono ?_
  rintro e w1 ⟨x, rfl, hx0, hx1, went1⟩
  go_wp2_with fail
  refine (byte_any C a0 l0 c0 z0 _ went1.cur).mono ?_
  rintro e w2 ⟨y, rfl, hy0, hy1, went2⟩
  go_wp2_with fail
  refine (byte_any C a0 l0 c0 z0 _ went2.cur).mono ?_
  rintro e w3 ⟨z, rfl, hz0, hz1, went3⟩
  have hne : (n == 0) = false := by simp; omega
  go_wp2
  go_ret
  have hm := mod_bd (x * 65536 + y * 256 + z) n (by omega) (by omega)
  exact ⟨_, rfl, hm.1, fun _ => hm.2.1, by omega, (went1.trans went2).trans went3⟩

set_option maxRecDepth 100000 in
set_option maxHeartbeats 400000 in
theorem once_any (C : Nat) (a0 : Option Addr) (l0 c0 : Nat) (z0 : List Int) (n : Int) (w : World) (hc : Cur w C a0 l0 c0 z0) (hn : n ≤ 1099511627776) :
  Calls Tryz.prog 56 #[.pointer (some ⟨C, 0, none⟩), .int .i64 n] w fun e w' => ∃ x : Bool, e = .returned (.bool x) ∧ Went w w' C a0 l0 c0 z0 := by
 go_enter Tryz.func56, Tryz.ntmps56
 go_wp2_with fail
 refine (below_any C a0 l0 c0 z0 n _ hc hn).mono ?_
 rintro e w1 ⟨x, rfl, hx0, hx1, hx2, went⟩
 go_wp2
 go_ret
 exact ⟨_, rfl, went⟩

theorem ints_lit (w : World) (xs : List Int) (j : Nat) (hj : j < xs.length) : (w.alloc (.cells (xs.map (Value.int .i64)).toArray 3)).cell? ⟨w.heap.size, j, none⟩ = some (.int .i64 (xs.getD j 0)) := by
 have : (w.alloc (.cells (xs.map (Value.int .i64)).toArray 3)).cell? ⟨w.heap.size, j, none⟩ = (xs.map (Value.int .i64)).toArray[j]? := by simp
 rw [this]
 simp [hj]

set_option maxRecDepth 100000 in
set_option maxHeartbeats 400000 in
theorem int_any (C : Nat) (a0 : Option Addr) (l0 c0 : Nat) (z0 : List Int) (B n : Nat) (xs : List Int) (w : World) (hc : Cur w C a0 l0 c0 z0) (hB : C < B) (hcell : ∀ j, j < n → w.cell? ⟨B, j, none⟩ = some (.int .i64 (xs.getD j 0))) (hxs : xs.length = n) (hn0 : 0 < n) (hn : n ≤ 1000) :
  Calls Tryz.prog 33 #[.pointer (some ⟨C, 0, none⟩), .slice (some ⟨B, 0, none⟩) n n] w fun e w' => ∃ x : Int, x ∈ xs ∧ e = .returned (.int .i64 x) ∧ Went w w' C a0 l0 c0 z0 := by
 have HC := hide hcell
 clear hcell
 go_enter Tryz.func33, Tryz.ntmps33
 go_wp2_with fail
 refine (below_any C a0 l0 c0 z0 n _ hc (by omega)).mono ?_
 rintro e w1 ⟨x, rfl, hx0, hx1, hx2, went⟩
 have hx1 := hx1 (by omega)
 obtain ⟨j, rfl⟩ : ∃ j : Nat, x = j := ⟨x.toNat, by omega⟩
 have cx : w1.cell? ⟨B, j, none⟩ = some (.int .i64 (xs.getD j 0)) := went.grown.cell (HC.out j (by omega)) (by intro e; simp at e; omega)
 have hm : xs.getD j 0 ∈ xs := by
  rw [List.getD_eq_getElem?_getD, List.getElem?_eq_getElem (by omega)]; exact List.getElem_mem _
 generalize xs.getD j 0 = y at *
 go_wp2
 go_ret
 exact ⟨y, hm, rfl, went⟩

theorem Cur.belowAt {w w' : World} {C B : Nat} {a0 : Option Addr} {l0 c0 : Nat} {z0 : List Int} (h : Cur w C a0 l0 c0 z0) (hb : Below B w w') (hC : C < B) : Cur w' C a0 l0 c0 z0 where
 row := fun w2 h2 => h.row w2 ((hb.mono (Nat.le_of_lt hC)).trans h2)
 small := h.small
 here := by
  obtain ⟨i, x, h1, h2, e⟩ := h.here
  exact ⟨i, x, h1, h2, by rw [hb.block C hC]; exact e⟩

theorem Went.madeAt {a b c : World} {C B : Nat} {a0 : Option Addr} {l0 c0 : Nat} {z0 : List Int} (h : Went a b C a0 l0 c0 z0) (k : Below B b c) (hC : C < B) (hB : a.heap.size ≤ B) : Went a c C a0 l0 c0 z0 where
 cur := h.cur.belowAt k hC
 grown := ⟨k.os.trans h.grown.os, k.tape.trans h.grown.tape, k.output.trans h.grown.output, Nat.le_trans h.grown.size k.size, fun j hj hne => (k.block j (by omega)).trans (h.grown.block j hj hne)⟩

theorem Went.own {a b : World} {C : Nat} {a0 : Option Addr} {l0 c0 : Nat} {z0 : List Int} (h : Went a b C a0 l0 c0 z0) {base : Nat} {v : Value} {n : Nat} {xs : List Value} (ho : a.ownsRow base 5 1 v n xs) (hC : C < base) : b.ownsRow base 5 1 v n xs :=
 own_above ho h.grown (by intro k hk; cases hk; exact hC)

theorem pick_any (C : Nat) (a0 : Option Addr) (l0 c0 : Nat) (z0 : List Int) (xs : List Int) (B n : Nat) (w : World) (hc : Cur w C a0 l0 c0 z0) (hB : B = w.heap.size) (hxs : xs.length = n) (hn0 : 0 < n) (hn : n ≤ 1000) :
  Calls Tryz.prog 33 #[.pointer (some ⟨C, 0, none⟩), .slice (some ⟨B, 0, none⟩) n n] (w.alloc (.cells (xs.map (Value.int .i64)).toArray 3)) fun e w' => ∃ x : Int, x ∈ xs ∧ e = .returned (.int .i64 x) ∧ Went w w' C a0 l0 c0 z0 := by
 subst hB hxs
 have hb : Below w.heap.size w (w.alloc (.cells (xs.map (Value.int .i64)).toArray 3)) := (Below.refl _ _).alloc (Nat.le_refl _) _
 refine (int_any C a0 l0 c0 z0 w.heap.size xs.length xs _ (hc.below hb) hc.lt (fun j hj => ints_lit w xs j hj) rfl hn0 hn).mono ?_
 rintro e w' ⟨x, hx, rfl, went⟩
 exact ⟨x, hx, rfl, (Went.start hc hb).trans went⟩

def DrawnVc (w w' : World) (C : Nat) (a0 : Option Addr) (l0 c0 : Nat) (z0 : List Int) (e : Ending) : Prop :=
 ∃ (R K H B P : Int), e = .returned (.agg #[.int .i64 R, .int .i64 K, .int .i64 H, .int .i64 B, .int .i64 P]) ∧ Went w w' C a0 l0 c0 z0

set_option maxRecDepth 100000 in
set_option maxHeartbeats 1000000 in
theorem l7Draw_ok (C : Nat) (a0 : Option Addr) (l0 c0 : Nat) (z0 : List Int) (w : World) (hc : Cur w C a0 l0 c0 z0) :
  Calls Tryz.prog 82 #[.pointer (some ⟨C, 0, none⟩)] w fun e w' => ∃ (R K H B P : Int), e = .returned (.agg #[.int .i64 R, .int .i64 K, .int .i64 H, .int .i64 B, .int .i64 P]) ∧ okVc R K H B P = true ∧ Went w w' C a0 l0 c0 z0 := by
 have hlt := hc.lt
 have q0 := below_one w (.cells #[.int .i64 0, .int .i64 0, .int .i64 0, .int .i64 0, .int .i64 0] 35)
 have wn0 := Went.start hc q0
 have hk0 := block_last w (.cells #[.int .i64 0, .int .i64 0, .int .i64 0, .int .i64 0, .int .i64 0] 35)
 go_enter Tryz.func82, Tryz.ntmps82
 go_wp2_with fail
 refine (below_any C a0 l0 c0 z0 5 _ wn0.cur (by omega)).mono ?_
 rintro e w1 ⟨r1, rfl, hx1, hy1, -, went1⟩
 have hy1 := hy1 (by omega)
 have wn1 := wn0.trans went1
 have k1 := kept_grown hk0 went1.grown (fun j hj => by cases hj; omega)
 clear wn0 went1 hk0
 go_wp2_with fail
 refine (pick_any C a0 l0 c0 z0 [0, 1, 2, 5, 10, 100] _ _ w1 wn1.cur rfl rfl (by simp) (by simp)).mono ?_
 rintro e w2 ⟨K, hK, rfl, went2⟩
 have HK : Hid (0 ≤ K ∧ K ≤ 100) := hide (by simp at hK; omega)
 clear hK
 have wn2 := wn1.trans went2
 have k2 := kept_grown k1 went2.grown (fun j hj => by cases hj; omega)
 clear wn1 went2 k1
 go_wp2_with fail
 refine (pick_any C a0 l0 c0 z0 [0, 1, 2, 9, 10] _ _ w2 wn2.cur rfl rfl (by simp) (by simp)).mono ?_
 rintro e w3 ⟨H, hH, rfl, went3⟩
 have HH : Hid (0 ≤ H ∧ H ≤ 10) := hide (by simp at hH; omega)
 clear hH
 have wn3 := wn2.trans went3
 have k3 := kept_grown k2 went3.grown (fun j hj => by cases hj; omega)
 clear wn2 went3 k2
 go_wp2_with fail
 refine (below_any C a0 l0 c0 z0 5 _ wn3.cur (by omega)).mono ?_
 rintro e w4 ⟨r4, rfl, hx4, hy4, -, went4⟩
 have hy4 := hy4 (by omega)
 have wn4 := wn3.trans went4
 have k4 := kept_grown k3 went4.grown (fun j hj => by cases hj; omega)
 clear wn3 went4 k3
 go_wp2_with fail
 refine (below_any C a0 l0 c0 z0 4 _ wn4.cur (by omega)).mono ?_
 rintro e w5 ⟨r5, rfl, hx5, hy5, -, went5⟩
 have hy5 := hy5 (by omega)
 have HOK : Hid (okVc (1 + r1) K H (1 + r4) r5 = true) := hide (by have h1 := HK.out; have h2 := HH.out; unfold okVc; simp; omega)
 have wn5 := wn4.trans went5
 have k5 := kept_grown k4 went5.grown (fun j hj => by cases hj; omega)
 obtain ⟨⟨x0, x1, x2, x3, x4⟩, f0, f1, f2, f3, f4⟩ := cells5 k5
 clear wn4 went5 k4 k5
 go_wp2
 exact bodyPost_ret (v := .agg #[.int .i64 (1 + r1), .int .i64 K, .int .i64 H, .int .i64 (1 + r4), .int .i64 r5]) (by simp [results, Tryz.results82, go_sem, *]) rfl ⟨_, _, _, _, _, rfl, HOK.out, wn5.madeAt (below_set5 (Below.refl _ _) (Nat.le_refl w.heap.size) _ _ _ _ _) hlt (Nat.le_refl _)⟩

theorem l7Draw_any (C : Nat) (a0 : Option Addr) (l0 c0 : Nat) (z0 : List Int) (w : World) (hc : Cur w C a0 l0 c0 z0) :
  Calls Tryz.prog 82 #[.pointer (some ⟨C, 0, none⟩)] w fun e w' => DrawnVc w w' C a0 l0 c0 z0 e :=
 (l7Draw_ok C a0 l0 c0 z0 w hc).mono (fun _ _ ⟨R, K, H, B, P, he, _, hw⟩ => ⟨R, K, H, B, P, he, hw⟩)

set_option maxRecDepth 100000 in
set_option maxHeartbeats 2000000 in
theorem l7Any_any (C : Nat) (a0 : Option Addr) (l0 c0 : Nat) (z0 : List Int) (w : World) (hc : Cur w C a0 l0 c0 z0) :
  Calls Tryz.prog 34 #[.pointer (some ⟨C, 0, none⟩)] w fun e w' => DrawnVc w w' C a0 l0 c0 z0 e := by
 have hlt := hc.lt
 have hst := Went.start hc (below_one w (.cells #[.int .i64 0, .int .i64 0, .int .i64 0, .int .i64 0, .int .i64 0] 35))
 go_enter Tryz.func34, Tryz.ntmps34
 go_wp2_with fail
 refine (l7Draw_any C a0 l0 c0 z0 _ hst.cur).mono ?_
 rintro e w1 ⟨R, K, H, B, P, rfl, went1⟩
 have kz := kept_grown (block_last w (.cells #[.int .i64 0, .int .i64 0, .int .i64 0, .int .i64 0, .int .i64 0] 35)) went1.grown (fun k hk => by cases hk; omega)
 have wn1 := hst.trans went1
 have m1 : w.heap.size + 1 ≤ w1.heap.size := by have := went1.grown.size; simpa using this
 have kz := kept_block kz (below_one w1 (.cells #[.int .i64 R, .int .i64 K, .int .i64 H, .int .i64 B, .int .i64 P] 35))
 have kv := block_last w1 (.cells #[.int .i64 R, .int .i64 K, .int .i64 H, .int .i64 B, .int .i64 P] 35)
 have wn1 := wn1.made (below_one w1 (.cells #[.int .i64 R, .int .i64 K, .int .i64 H, .int .i64 B, .int .i64 P] 35))
 have m1' : w1.heap.size + 1 ≤ (w1.alloc (.cells #[.int .i64 R, .int .i64 K, .int .i64 H, .int .i64 B, .int .i64 P] 35)).heap.size := by simp
 clear hst went1
 go_wp2_with fail
 generalize w1.alloc (.cells #[.int .i64 R, .int .i64 K, .int .i64 H, .int .i64 B, .int .i64 P] 35) = w1' at *
 refine (below_any C a0 l0 c0 z0 12 _ wn1.cur (by omega)).mono ?_
 rintro e w2 ⟨x, rfl, hx0, -, -, went2⟩
 have kz := kept_grown kz went2.grown (fun k hk => by cases hk; omega)
 have kv := kept_grown kv went2.grown (fun k hk => by cases hk; omega)
 have wn2 := wn1.trans went2
 have m2 : w1.heap.size + 1 ≤ w2.heap.size := Nat.le_trans m1' went2.grown.size
 clear went2 wn1 m1'
 have ne1 : ¬ w1.heap.size = w.heap.size := by omega
 have ne2 : ¬ w.heap.size = w1.heap.size := by omega
 by_cases e0 : x = 0
 ·subst e0
  go_wp2_with fail
  refine (pick_any C a0 l0 c0 z0 [0, 99, 100] _ _ w2 wn2.cur rfl rfl (by simp) (by simp)).mono ?_
  rintro e w3 ⟨y, -, rfl, went3⟩
  obtain ⟨⟨x0, x1, x2, x3, x4⟩, f0, f1, f2, f3, f4⟩ := cells5 (kept_grown kv went3.grown (fun k hk => by cases hk; omega))
  obtain ⟨⟨y0, y1, y2, y3, y4⟩, g0, g1, g2, g3, g4⟩ := cells5 (kept_grown kz went3.grown (fun k hk => by cases hk; omega))
  have wn3 := wn2.trans went3
  clear went3 wn2 kz kv
  go_wp2
  exact bodyPost_ret (v := .agg #[.int .i64 y, .int .i64 K, .int .i64 H, .int .i64 B, .int .i64 P]) (by simp [results, Tryz.results34, go_sem, *]) rfl ⟨y, K, H, B, P, rfl, wn3.madeAt (below_set5 (below_set (Below.refl _ _) (g := w1.heap.size) (by omega) 0 (.int .i64 y)) (Nat.le_refl w.heap.size) _ _ _ _ _) hlt (Nat.le_refl _)⟩
 have t0 : (x == 0) = false := by simp [e0]
 by_cases e1 : x = 1
 ·subst e1
  go_wp2_with fail
  refine (pick_any C a0 l0 c0 z0 [-1, 99999, 100000, 100001] _ _ w2 wn2.cur rfl rfl (by simp) (by simp)).mono ?_
  rintro e w3 ⟨y, -, rfl, went3⟩
  obtain ⟨⟨x0, x1, x2, x3, x4⟩, f0, f1, f2, f3, f4⟩ := cells5 (kept_grown kv went3.grown (fun k hk => by cases hk; omega))
  obtain ⟨⟨y0, y1, y2, y3, y4⟩, g0, g1, g2, g3, g4⟩ := cells5 (kept_grown kz went3.grown (fun k hk => by cases hk; omega))
  have wn3 := wn2.trans went3
  clear went3 wn2 kz kv
  go_wp2
  exact bodyPost_ret (v := .agg #[.int .i64 R, .int .i64 y, .int .i64 H, .int .i64 B, .int .i64 P]) (by simp [results, Tryz.results34, go_sem, *]) rfl ⟨R, y, H, B, P, rfl, wn3.madeAt (below_set5 (below_set (Below.refl _ _) (g := w1.heap.size) (by omega) 1 (.int .i64 y)) (Nat.le_refl w.heap.size) _ _ _ _ _) hlt (Nat.le_refl _)⟩
 have t1 : (x == 1) = false := by simp [e1]
 by_cases e2 : x = 2
 ·subst e2
  go_wp2_with fail
  refine (pick_any C a0 l0 c0 z0 [-1, 11] _ _ w2 wn2.cur rfl rfl (by simp) (by simp)).mono ?_
  rintro e w3 ⟨y, -, rfl, went3⟩
  obtain ⟨⟨x0, x1, x2, x3, x4⟩, f0, f1, f2, f3, f4⟩ := cells5 (kept_grown kv went3.grown (fun k hk => by cases hk; omega))
  obtain ⟨⟨y0, y1, y2, y3, y4⟩, g0, g1, g2, g3, g4⟩ := cells5 (kept_grown kz went3.grown (fun k hk => by cases hk; omega))
  have wn3 := wn2.trans went3
  clear went3 wn2 kz kv
  go_wp2
  exact bodyPost_ret (v := .agg #[.int .i64 R, .int .i64 K, .int .i64 y, .int .i64 B, .int .i64 P]) (by simp [results, Tryz.results34, go_sem, *]) rfl ⟨R, K, y, B, P, rfl, wn3.madeAt (below_set5 (below_set (Below.refl _ _) (g := w1.heap.size) (by omega) 2 (.int .i64 y)) (Nat.le_refl w.heap.size) _ _ _ _ _) hlt (Nat.le_refl _)⟩
 have t2 : (x == 2) = false := by simp [e2]
 by_cases e3 : x = 3
 ·subst e3
  go_wp2_with fail
  refine (pick_any C a0 l0 c0 z0 [-1, 7, 8] _ _ w2 wn2.cur rfl rfl (by simp) (by simp)).mono ?_
  rintro e w3 ⟨y, -, rfl, went3⟩
  obtain ⟨⟨x0, x1, x2, x3, x4⟩, f0, f1, f2, f3, f4⟩ := cells5 (kept_grown kv went3.grown (fun k hk => by cases hk; omega))
  obtain ⟨⟨y0, y1, y2, y3, y4⟩, g0, g1, g2, g3, g4⟩ := cells5 (kept_grown kz went3.grown (fun k hk => by cases hk; omega))
  have wn3 := wn2.trans went3
  clear went3 wn2 kz kv
  go_wp2
  exact bodyPost_ret (v := .agg #[.int .i64 R, .int .i64 K, .int .i64 H, .int .i64 B, .int .i64 y]) (by simp [results, Tryz.results34, go_sem, *]) rfl ⟨R, K, H, B, y, rfl, wn3.madeAt (below_set5 (below_set (Below.refl _ _) (g := w1.heap.size) (by omega) 4 (.int .i64 y)) (Nat.le_refl w.heap.size) _ _ _ _ _) hlt (Nat.le_refl _)⟩
 have t3 : (x == 3) = false := by simp [e3]
 obtain ⟨⟨x0, x1, x2, x3, x4⟩, f0, f1, f2, f3, f4⟩ := cells5 kv
 obtain ⟨⟨y0, y1, y2, y3, y4⟩, g0, g1, g2, g3, g4⟩ := cells5 kz
 clear kz kv
 go_wp2
 exact bodyPost_ret (v := .agg #[.int .i64 R, .int .i64 K, .int .i64 H, .int .i64 B, .int .i64 P]) (by simp [results, Tryz.results34, go_sem, *]) rfl ⟨R, K, H, B, P, rfl, wn2.madeAt (below_set5 (Below.refl _ _) (Nat.le_refl w.heap.size) _ _ _ _ _) hlt (Nat.le_refl _)⟩

set_option maxRecDepth 100000 in
set_option maxHeartbeats 4000000 in
theorem l10Draw_any (C : Nat) (a0 : Option Addr) (l0 c0 : Nat) (z0 : List Int) (N : Int) (m : Nat) (w : World) (hc : Cur w C a0 l0 c0 z0) (hN : N = m) (hm : m ≤ 1000) :
  Calls Tryz.prog 73 #[.pointer (some ⟨C, 0, none⟩), .int .i64 N] w fun e w' => ∃ (ao : Option Addr) (cap : Nat) (l : List PT), e = .returned (.slice ao m cap) ∧ l.length = m ∧ (∀ x ∈ l, ptOk x = true) ∧ w'.ownsRow w.heap.size 44 8 (.slice ao m cap) m (ptF.all l) ∧ Went w w' C a0 l0 c0 z0 := by
 subst hN
 have hlt := hc.lt
 go_enter Tryz.func73, Tryz.ntmps73
 go_wp2_with fail
 generalize hw1 : w.alloc (Obj.cells #[] 44) = w1
 have b1 : Below w.heap.size w w1 := by rw [← hw1]; exact below_one _ _
 have o1 : w1.ownsRow w.heap.size 44 8 (.slice (some ⟨w.heap.size, 0, none⟩) 0 0) 0 (ptF.all []) := flat_nil ptF w w1 44 w.heap.size (by rw [← hw1]; exact block_last _ _) (Nat.le_refl _)
 have wn1 := Went.start hc b1
 clear hw1 b1
 go_loopw [5, 6] (fun o i wr => ∃ (k : Nat) (ao : Option Addr) (cap : Nat) (l : List PT), k ≤ m ∧ i = .int .i64 k ∧ o = .slice ao k cap ∧ l.length = k ∧ (∀ x ∈ l, ptOk x = true) ∧ wr.ownsRow w.heap.size 44 8 (.slice ao k cap) k (ptF.all l) ∧ Went w wr C a0 l0 c0 z0) (fun _ i _ => m - (intOf i).toNat)
 case atStart => exact ⟨0, _, _, [], Nat.zero_le _, rfl, rfl, rfl, (by intro x hx; cases hx), o1, wn1⟩
 case round =>
  obtain ⟨k, ao, cap, l, hk, rfl, rfl, hl, hall, o2, wn2⟩ := hrel
  have HA := hide hall
  clear hall
  clear wn1 o1
  have HL := hide hl
  clear hl
  by_cases hk0 : k < m
  ·go_wp2_with fail
   refine (once_any C a0 l0 c0 z0 4 _ wn2.cur (by omega)).mono ?_
   rintro e w3 ⟨q, rfl, wt⟩
   have wn3 := wn2.trans wt
   have o3 := gown_apart o2 wt.grown (fun b hb => by cases hb; exact hlt)
   clear wt wn2 o2
   go_wp2_with fail
   refine (pick_any C a0 l0 c0 z0 [1, 1, 2, 5, 10] _ _ w3 wn3.cur rfl rfl (by simp) (by simp)).mono ?_
   rintro e w4 ⟨K, hK, rfl, wt⟩
   have HK : Hid ((decide (1 ≤ K) && decide (K ≤ 1000)) = true) := hide (by simp at hK; simp; omega)
   clear hK
   have wn4 := wn3.trans wt
   have o4 := gown_apart o3 wt.grown (fun b hb => by cases hb; exact hlt)
   clear wt wn3 o3
   have ob := hide (own_box8 o4)
   have hX : w.heap.size ≤ w4.heap.size := wn4.grown.size
   have HX := hide hX
   have hCX : C ≠ w4.heap.size := by omega
   have HCX := hide hCX
   clear hX hCX
   cases q
   ·go_upto_region 6 with fail
    generalize hw5 : w4.alloc (.cells #[.bool true, .int .i64 K, .bool false, .int .i64 0, .int .i64 0, .int .i64 0, .int .i64 0, .int .i64 0] 44) = w5
    have b5 : Below w4.heap.size w4 w5 := by rw [← hw5]; exact below_one _ _
    have kX : w5.heap[w4.heap.size]? = some (.cells #[.bool true, .int .i64 K, .bool false, .int .i64 0, .int .i64 0, .int .i64 0, .int .i64 0, .int .i64 0] 44) := by rw [← hw5]; exact block_last _ _
    have o5 := gown_below o4 b5
    have wn5 := wn4.made b5
    obtain ⟨d0, d1, d2, d3, d4, d5, d6, d7⟩ := cells8 kX
    clear o4 wn4 b5
    go_wp2_with fail
    refine (once_any C a0 l0 c0 z0 4 _ wn5.cur (by omega)).mono ?_
    rintro e w6 ⟨r, rfl, wt⟩
    have wn6 := wn5.trans wt
    have o6 := gown_apart o5 wt.grown (fun b hb => by cases hb; exact hlt)
    have kX := kept_grown kX wt.grown (fun i e => by cases e; exact HCX.out)
    clear wt wn5 o5 hw5 d0 d1 d2 d3 d4 d5 d6 d7
    cases r
    ·obtain ⟨d0, d1, d2, d3, d4, d5, d6, d7⟩ := cells8 kX
     have f2 := frozen8 kX 2
     generalize hw7 : w6.setCell ⟨w4.heap.size, 2, none⟩ (.bool true) = w7
     have kY : w7.heap[w4.heap.size]? = some (.cells #[.bool true, .int .i64 K, .bool true, .int .i64 0, .int .i64 0, .int .i64 0, .int .i64 0, .int .i64 0] 44) := by rw [← hw7]; exact set_block8 kX _
     have o7 := gown_other o6 (grown_set (rb := w4.heap.size) 2 (.bool true)) (fun b hb => Nat.ne_of_lt (ob.out b hb))
     rw [hw7] at o7
     have wn7 := wn6.madeAt (below_set (Below.refl w.heap.size w6) (g := w4.heap.size) HX.out 2 (.bool true)) hlt (Nat.le_refl _)
     rw [hw7] at wn7
     clear wn6 o6 kX
     go_wp2_with fail
     refine (l7Draw_ok C a0 l0 c0 z0 _ wn7.cur).mono ?_
     rintro e w8 ⟨vr, vc, vh, vb, vp, rfl, hok, wt⟩
     have HV := hide hok
     clear hok
     have wn8 := wn7.trans wt
     have o8 := gown_apart o7 wt.grown (fun b hb => by cases hb; exact hlt)
     have kX := kept_grown kY wt.grown (fun i e => by cases e; exact HCX.out)
     clear wt wn7 o7 hw7 kY d0 d1 d2 d3 d4 d5 d6 d7 f2
     obtain ⟨d0, d1, d2, d3, d4, d5, d6, d7⟩ := cells8 kX
     have f3 := frozen8 kX 3
     have f4 := frozen8 kX 4
     have f5 := frozen8 kX 5
     have f6 := frozen8 kX 6
     have f7 := frozen8 kX 7
     generalize hw9 : ((((w8.setCell ⟨w4.heap.size, 3, none⟩ (.int .i64 vr)).setCell ⟨w4.heap.size, 4, none⟩ (.int .i64 vc)).setCell ⟨w4.heap.size, 5, none⟩ (.int .i64 vh)).setCell ⟨w4.heap.size, 6, none⟩ (.int .i64 vb)).setCell ⟨w4.heap.size, 7, none⟩ (.int .i64 vp) = w9
     have kY : w9.heap[w4.heap.size]? = some (.cells #[.bool true, .int .i64 K, .bool true, .int .i64 vr, .int .i64 vc, .int .i64 vh, .int .i64 vb, .int .i64 vp] 44) := by rw [← hw9]; exact set_heard kX _ _ _ _ _
     have hne : ∀ b, (Value.slice ao k cap).ownBlock = some b → b ≠ w4.heap.size := fun b hb => Nat.ne_of_lt (ob.out b hb)
     have o9' := gown_other (gown_other (gown_other (gown_other (gown_other o8 (grown_set (rb := w4.heap.size) 3 (.int .i64 vr)) hne) (grown_set (rb := w4.heap.size) 4 (.int .i64 vc)) hne) (grown_set (rb := w4.heap.size) 5 (.int .i64 vh)) hne) (grown_set (rb := w4.heap.size) 6 (.int .i64 vb)) hne) (grown_set (rb := w4.heap.size) 7 (.int .i64 vp)) hne
     rw [hw9] at o9'
     have wn9 := wn8.madeAt (below_set (below_set (below_set (below_set (below_set (Below.refl w.heap.size w8) (g := w4.heap.size) HX.out 3 (.int .i64 vr)) HX.out 4 (.int .i64 vc)) HX.out 5 (.int .i64 vh)) HX.out 6 (.int .i64 vb)) HX.out 7 (.int .i64 vp)) hlt (Nat.le_refl _)
     rw [hw9] at wn9
     clear wn8 o8 kX hne
     go_upto_region 9 with fail
     clear d0 d1 d2 d3 d4 d5 d6 d7 f3 f4 f5 f6 f7 hw9
     have HCS : Hid (#[Value.bool true, .int .i64 K, .bool true, .int .i64 vr, .int .i64 vc, .int .i64 vh, .int .i64 vb, .int .i64 vp].toList = ptF.cs ⟨true, K, true, ⟨vr, vc, vh, vb, vp⟩⟩) := hide rfl
     obtain ⟨d0, d1, d2, d3, d4, d5, d6, d7⟩ := cells8 kY
     have o9 := gown_below o9' (below_one w9 (.cells #[.bool true, .int .i64 K, .bool true, .int .i64 vr, .int .i64 vc, .int .i64 vh, .int .i64 vb, .int .i64 vp] 44))
     have hbase9 : w.heap.size ≤ (w9.alloc (.cells #[.bool true, .int .i64 K, .bool true, .int .i64 vr, .int .i64 vc, .int .i64 vh, .int .i64 vb, .int .i64 vp] 44)).heap.size := by have := wn9.grown.size; simp; omega
     have HW9 : Hid (Went w (w9.alloc (.cells #[.bool true, .int .i64 K, .bool true, .int .i64 vr, .int .i64 vc, .int .i64 vh, .int .i64 vb, .int .i64 vp] 44)) C a0 l0 c0 z0) := hide (wn9.made (below_one w9 _))
     go_wp2_with (at_builtin; refine pt_append _ rfl _ _ rfl w.heap.size _ k l rfl o9 _ 1 1 [⟨true, K, true, ⟨vr, vc, vh, vb, vp⟩⟩] rfl (grow_one ptF _ _ _ _ HCS.out) (by omega) hbase9 ?_)
     rintro ao' cap' wz oz - gz bz
     have HO := hide oz
     have HWZ := hide (HW9.out.madeAt bz hlt (Nat.le_refl _))
     have HLN : Hid ((l ++ [(⟨true, K, true, ⟨vr, vc, vh, vb, vp⟩⟩ : PT)]).length = k + 1) := hide (by simp [HL.out])
     have HAN : Hid (∀ y ∈ l ++ [(⟨true, K, true, ⟨vr, vc, vh, vb, vp⟩⟩ : PT)], ptOk y = true) := hide (by
      intro y hy
      rcases List.mem_append.1 hy with hy | hy
      ·exact HA.out y hy
      ·have e : y = _ := List.mem_singleton.1 hy
       subst e
       unfold ptOk
       simp only
       rw [HK.out]
       exact HV.out)
     clear oz gz bz o9 hbase9 d0 d1 d2 d3 d4 d5 d6 d7
     go_wp2
     go_roundw
     case rel => exact ⟨k + 1, ao', cap', _, by omega, by go_num, rfl, HLN.out, HAN.out, HO.out, HWZ.out⟩
     case measure => simp [intOf]; omega
    ·go_upto_region 9 with fail
     have HCS : Hid (#[Value.bool true, .int .i64 K, .bool false, .int .i64 0, .int .i64 0, .int .i64 0, .int .i64 0, .int .i64 0].toList = ptF.cs ⟨true, K, false, ⟨0, 0, 0, 0, 0⟩⟩) := hide rfl
     obtain ⟨d0, d1, d2, d3, d4, d5, d6, d7⟩ := cells8 kX
     have o9 := gown_below o6 (below_one w6 (.cells #[.bool true, .int .i64 K, .bool false, .int .i64 0, .int .i64 0, .int .i64 0, .int .i64 0, .int .i64 0] 44))
     have hbase9 : w.heap.size ≤ (w6.alloc (.cells #[.bool true, .int .i64 K, .bool false, .int .i64 0, .int .i64 0, .int .i64 0, .int .i64 0, .int .i64 0] 44)).heap.size := by have := wn6.grown.size; simp; omega
     have HW9 : Hid (Went w (w6.alloc (.cells #[.bool true, .int .i64 K, .bool false, .int .i64 0, .int .i64 0, .int .i64 0, .int .i64 0, .int .i64 0] 44)) C a0 l0 c0 z0) := hide (wn6.made (below_one w6 _))
     go_wp2_with (at_builtin; refine pt_append _ rfl _ _ rfl w.heap.size _ k l rfl o9 _ 1 1 [⟨true, K, false, ⟨0, 0, 0, 0, 0⟩⟩] rfl (grow_one ptF _ _ _ _ HCS.out) (by omega) hbase9 ?_)
     rintro ao' cap' wz oz - gz bz
     have HO := hide oz
     have HWZ := hide (HW9.out.madeAt bz hlt (Nat.le_refl _))
     have HLN : Hid ((l ++ [(⟨true, K, false, ⟨0, 0, 0, 0, 0⟩⟩ : PT)]).length = k + 1) := hide (by simp [HL.out])
     have HAN : Hid (∀ y ∈ l ++ [(⟨true, K, false, ⟨0, 0, 0, 0, 0⟩⟩ : PT)], ptOk y = true) := hide (by
      intro y hy
      rcases List.mem_append.1 hy with hy | hy
      ·exact HA.out y hy
      ·have e : y = _ := List.mem_singleton.1 hy
       subst e
       unfold ptOk
       simp only
       rw [HK.out]
       rfl)
     clear oz gz bz o9 hbase9 d0 d1 d2 d3 d4 d5 d6 d7
     go_wp2
     go_roundw
     case rel => exact ⟨k + 1, ao', cap', _, by omega, by go_num, rfl, HLN.out, HAN.out, HO.out, HWZ.out⟩
     case measure => simp [intOf]; omega
   ·go_upto_region 6 with fail
    generalize hw5 : w4.alloc (.cells #[.bool false, .int .i64 K, .bool false, .int .i64 0, .int .i64 0, .int .i64 0, .int .i64 0, .int .i64 0] 44) = w5
    have b5 : Below w4.heap.size w4 w5 := by rw [← hw5]; exact below_one _ _
    have kX : w5.heap[w4.heap.size]? = some (.cells #[.bool false, .int .i64 K, .bool false, .int .i64 0, .int .i64 0, .int .i64 0, .int .i64 0, .int .i64 0] 44) := by rw [← hw5]; exact block_last _ _
    have o5 := gown_below o4 b5
    have wn5 := wn4.made b5
    obtain ⟨e0, e1, e2, e3, e4, e5, e6, e7⟩ := cells8 kX
    clear o4 wn4 b5
    go_upto_region 9 with fail
    clear e0 e1 e2 e3 e4 e5 e6 e7 hw5
    have HCS : Hid (#[Value.bool false, .int .i64 K, .bool false, .int .i64 0, .int .i64 0, .int .i64 0, .int .i64 0, .int .i64 0].toList = ptF.cs ⟨false, K, false, ⟨0, 0, 0, 0, 0⟩⟩) := hide rfl
    obtain ⟨d0, d1, d2, d3, d4, d5, d6, d7⟩ := cells8 kX
    have o9 := gown_below o5 (below_one w5 (.cells #[.bool false, .int .i64 K, .bool false, .int .i64 0, .int .i64 0, .int .i64 0, .int .i64 0, .int .i64 0] 44))
    have hbase9 : w.heap.size ≤ (w5.alloc (.cells #[.bool false, .int .i64 K, .bool false, .int .i64 0, .int .i64 0, .int .i64 0, .int .i64 0, .int .i64 0] 44)).heap.size := by have := wn5.grown.size; simp; omega
    have HW9 : Hid (Went w (w5.alloc (.cells #[.bool false, .int .i64 K, .bool false, .int .i64 0, .int .i64 0, .int .i64 0, .int .i64 0, .int .i64 0] 44)) C a0 l0 c0 z0) := hide (wn5.made (below_one w5 _))
    go_wp2_with (at_builtin; refine pt_append _ rfl _ _ rfl w.heap.size _ k l rfl o9 _ 1 1 [⟨false, K, false, ⟨0, 0, 0, 0, 0⟩⟩] rfl (grow_one ptF _ _ _ _ HCS.out) (by omega) hbase9 ?_)
    rintro ao' cap' wz oz - gz bz
    have HO := hide oz
    have HWZ := hide (HW9.out.madeAt bz hlt (Nat.le_refl _))
    have HLN : Hid ((l ++ [(⟨false, K, false, ⟨0, 0, 0, 0, 0⟩⟩ : PT)]).length = k + 1) := hide (by simp [HL.out])
    have HAN : Hid (∀ y ∈ l ++ [(⟨false, K, false, ⟨0, 0, 0, 0, 0⟩⟩ : PT)], ptOk y = true) := hide (by
     intro y hy
     rcases List.mem_append.1 hy with hy | hy
     ·exact HA.out y hy
     ·have e : y = _ := List.mem_singleton.1 hy
      subst e
      unfold ptOk
      simp only
      rw [HK.out]
      rfl)
    clear oz gz bz o9 hbase9 d0 d1 d2 d3 d4 d5 d6 d7
    go_wp2
    go_roundw
    case rel => exact ⟨k + 1, ao', cap', _, by omega, by go_num, rfl, HLN.out, HAN.out, HO.out, HWZ.out⟩
    case measure => simp [intOf]; omega
  ·have hkm : k = m := by omega
   subst hkm
   go_wp2
   go_ret
   exact ⟨ao, cap, l, rfl, HL.out, HA.out, o2, wn2⟩

def I64 (x : Int) : Prop := -9223372036854775808 ≤ x ∧ x ≤ 9223372036854775807

def VR.Rng (r : VR) : Prop := I64 r.i ∧ I64 r.m ∧ I64 r.b

theorem bv_of (x : Int) : (BitVec.ofInt 64 x).toNat = (x % 18446744073709551616).toNat := by
 rw [BitVec.toNat_ofInt]
 rfl

theorem wrap_bv (x : BitVec 64) : IntKind.i64.wrap (x.toNat : Int) = x.toInt := by
 have := x.isLt
 rw [IntKind.wrap_i64, BitVec.toInt_eq_toNat_cond]
 split <;> omega

theorem bits_and (a b : Int) : bits .and .i64 a b = (BitVec.ofInt 64 a &&& BitVec.ofInt 64 b).toInt := by
 rw [← wrap_bv]
 rfl
theorem bits_andNot (a b : Int) : bits .andNot .i64 a b = (BitVec.ofInt 64 a &&& ~~~(BitVec.ofInt 64 b)).toInt := by
 rw [← wrap_bv]
 rfl

theorem toInt_zero {x : BitVec 64} : x.toInt = 0 ↔ x = 0#64 := by
 rw [← BitVec.toInt_inj]
 simp

theorem toInt_of (x : Int) (h : I64 x) : (BitVec.ofInt 64 x).toInt = x := by
 unfold I64 at h
 rw [BitVec.toInt_ofInt]
 rw [Int.bmod_def]
 omega

theorem andNot_and (b m : Int) (hb : I64 b) : (bits .andNot .i64 b m == 0) = (bits .and .i64 b m == b) := by
 rw [bits_and, bits_andNot]
 have key : (BitVec.ofInt 64 b &&& ~~~(BitVec.ofInt 64 m)) = 0#64 ↔ (BitVec.ofInt 64 b &&& BitVec.ofInt 64 m) = BitVec.ofInt 64 b := by
  constructor
  ·intro h
   apply BitVec.eq_of_getLsbD_eq
   intro i hi
   have := congrArg (fun z => z.getLsbD i) h
   simp only [BitVec.getLsbD_and, BitVec.getLsbD_not, hi, decide_true, Bool.true_and, BitVec.getLsbD_zero] at this
   simp only [BitVec.getLsbD_and]
   cases h1 : (BitVec.ofInt 64 b).getLsbD i <;> cases h2 : (BitVec.ofInt 64 m).getLsbD i <;> simp_all
  ·intro h
   apply BitVec.eq_of_getLsbD_eq
   intro i hi
   have := congrArg (fun z => z.getLsbD i) h
   simp only [BitVec.getLsbD_and] at this
   simp only [BitVec.getLsbD_and, BitVec.getLsbD_not, hi, decide_true, Bool.true_and, BitVec.getLsbD_zero]
   cases h1 : (BitVec.ofInt 64 b).getLsbD i <;> cases h2 : (BitVec.ofInt 64 m).getLsbD i <;> simp_all
 have e2 : ((BitVec.ofInt 64 b &&& BitVec.ofInt 64 m).toInt = b) ↔ (BitVec.ofInt 64 b &&& BitVec.ofInt 64 m) = BitVec.ofInt 64 b := by
  constructor
  ·intro h
   apply BitVec.toInt_inj.1
   rw [h, toInt_of b hb]
  ·intro h
   rw [h, toInt_of b hb]
 have e1 := toInt_zero (x := BitVec.ofInt 64 b &&& ~~~(BitVec.ofInt 64 m))
 rw [Bool.eq_iff_iff]
 simp only [beq_iff_eq]
 rw [e1, key, e2]

theorem mask_is (p : Nat) (hp : p ≤ 6) : (BitVec.ofInt 64 (allOf p)).toNat = 2 ^ p - 1 := by
 rcases (show p = 0 ∨ p = 1 ∨ p = 2 ∨ p = 3 ∨ p = 4 ∨ p = 5 ∨ p = 6 by omega) with rfl | rfl | rfl | rfl | rfl | rfl | rfl <;> rfl

theorem pow_le6 (p : Nat) (hp : p ≤ 6) : (2 : Nat) ^ p ≤ 64 ∧ ((2 : Int) ^ p = ((2 ^ p : Nat) : Int)) ∧ 1 ≤ (2 : Nat) ^ p := by
 rcases (show p = 0 ∨ p = 1 ∨ p = 2 ∨ p = 3 ∨ p = 4 ∨ p = 5 ∨ p = 6 by omega) with rfl | rfl | rfl | rfl | rfl | rfl | rfl <;> exact ⟨by decide, rfl, by decide⟩

theorem andNot_mask (m : Int) (p : Nat) (hm : I64 m) (hp : p ≤ 6) : (bits .andNot .i64 m (allOf p) == 0) = in3 m 0 (allOf p) := by
 rw [andNot_and m _ hm, bits_and]
 have hn : (BitVec.ofInt 64 m &&& BitVec.ofInt 64 (allOf p)).toNat = (BitVec.ofInt 64 m).toNat % 2 ^ p := by
  rw [BitVec.toNat_and, mask_is p hp, Nat.and_two_pow_sub_one_eq_mod]
 have e2 : ((BitVec.ofInt 64 m &&& BitVec.ofInt 64 (allOf p)).toInt = m) ↔ (BitVec.ofInt 64 m &&& BitVec.ofInt 64 (allOf p)).toNat = (BitVec.ofInt 64 m).toNat := by
  constructor
  ·intro h
   have : (BitVec.ofInt 64 m &&& BitVec.ofInt 64 (allOf p)) = BitVec.ofInt 64 m := by
    apply BitVec.toInt_inj.1
    rw [h, toInt_of m hm]
   rw [this]
  ·intro h
   rw [BitVec.eq_of_toNat_eq h, toInt_of m hm]
 rw [Bool.eq_iff_iff]
 simp only [beq_iff_eq]
 rw [e2, hn, bv_of m]
 obtain ⟨h64, hc, h1⟩ := pow_le6 p hp
 unfold in3 allOf
 rw [hc]
 unfold I64 at hm
 generalize (2 : Nat) ^ p = q at *
 simp only [Bool.and_eq_true, decide_eq_true_eq]
 constructor
 ·intro h
  have : (m % 18446744073709551616).toNat % q < q := Nat.mod_lt _ (by omega)
  omega
 ·intro h
  rw [Nat.mod_eq_of_lt (by omega)]

theorem and_small (b m : Int) (p : Nat) (hb : I64 b) (hp : p ≤ 6) (hm : in3 m 0 (allOf p) = true) (h : (bits .and .i64 b m == b) = true) : in3 b 0 (allOf p) = true := by
 obtain ⟨h64, hc, h1⟩ := pow_le6 p hp
 unfold in3 allOf at hm ⊢
 rw [hc] at hm ⊢
 generalize (2 : Nat) ^ p = q at *
 simp only [Bool.and_eq_true, decide_eq_true_eq, beq_iff_eq] at *
 have hmI : I64 m := by unfold I64; omega
 rw [bits_and] at h
 have e : (BitVec.ofInt 64 b &&& BitVec.ofInt 64 m) = BitVec.ofInt 64 b := by
  apply BitVec.toInt_inj.1
  rw [h, toInt_of b hb]
 have e' := congrArg BitVec.toNat e
 rw [BitVec.toNat_and, bv_of b, bv_of m] at e'
 have : (b % 18446744073709551616).toNat &&& (m % 18446744073709551616).toNat ≤ (m % 18446744073709551616).toNat := Nat.and_le_right
 unfold I64 at hb
 omega

theorem vrow_same (r : VR) (p : Nat) (hr : r.Rng) (hp : p ≤ 6) : (in3 r.i 1 99 && (bits .andNot .i64 r.m (allOf p) == 0) && (bits .andNot .i64 r.b r.m == 0)) = vrowOk (allOf p) r := by
 rw [andNot_mask r.m p hr.2.1 hp, andNot_and r.b r.m hr.2.2]
 unfold vrowOk
 cases h1 : in3 r.i 1 99
 ·rfl
 ·cases h2 : in3 r.m 0 (allOf p)
  ·rfl
  ·cases h3 : (bits .and .i64 r.b r.m == r.b)
   ·simp
   ·rw [and_small r.b r.m p hr.2.2 hp h2 h3]
    rfl

theorem and_pow (n k : Nat) : n &&& 2 ^ k = (n.testBit k).toNat * 2 ^ k := by
 apply Nat.eq_of_testBit_eq
 intro j
 rw [Nat.testBit_and, Nat.testBit_two_pow]
 by_cases h : k = j
 ·subst h
  cases n.testBit k
  ·simp
  ·simp
 ·cases n.testBit k
  ·simp [h]
  ·simp [h]

theorem bit_same (n : Int) (k : Nat) (hk : k ≤ 9) (hn : I64 n) : (bits .and .i64 n (2 ^ k) != 0) = (bits .and .i64 (n / 2 ^ k) 1 == 1) := by
 have h1 : I64 (n / 2 ^ k) := by
  unfold I64 at *
  rcases (show k = 0 ∨ k = 1 ∨ k = 2 ∨ k = 3 ∨ k = 4 ∨ k = 5 ∨ k = 6 ∨ k = 7 ∨ k = 8 ∨ k = 9 by omega) with rfl | rfl | rfl | rfl | rfl | rfl | rfl | rfl | rfl | rfl <;> simp <;> omega
 rw [bits_and, bits_and, bne, Bool.eq_iff_iff]
 simp only [Bool.not_eq_true', beq_eq_false_iff_ne, ne_eq, beq_iff_eq]
 rw [toInt_zero]
 have a1 : (BitVec.ofInt 64 (n / 2 ^ k) &&& BitVec.ofInt 64 1).toNat = (((n / 2 ^ k) % 18446744073709551616).toNat) % 2 := by
  rw [BitVec.toNat_and, bv_of _, show (BitVec.ofInt 64 1).toNat = 2 ^ 1 - 1 from rfl, Nat.and_two_pow_sub_one_eq_mod]
 have a2 : (BitVec.ofInt 64 n &&& BitVec.ofInt 64 (2 ^ k)).toNat = ((n % 18446744073709551616).toNat.testBit k).toNat * 2 ^ k := by
  rw [BitVec.toNat_and, bv_of _, ← and_pow]
  congr 1
  rcases (show k = 0 ∨ k = 1 ∨ k = 2 ∨ k = 3 ∨ k = 4 ∨ k = 5 ∨ k = 6 ∨ k = 7 ∨ k = 8 ∨ k = 9 by omega) with rfl | rfl | rfl | rfl | rfl | rfl | rfl | rfl | rfl | rfl <;> rfl
 have a3 : ((BitVec.ofInt 64 (n / 2 ^ k) &&& BitVec.ofInt 64 1).toInt = 1) ↔ (((n / 2 ^ k) % 18446744073709551616).toNat) % 2 = 1 := by
  rw [← a1, BitVec.toInt_eq_toNat_cond]
  have := (BitVec.ofInt 64 (n / 2 ^ k) &&& BitVec.ofInt 64 1).isLt
  have h2 : (BitVec.ofInt 64 (n / 2 ^ k) &&& BitVec.ofInt 64 1).toNat < 2 := by rw [a1]; omega
  rw [if_pos (by omega)]
  omega
 have a4 : ((BitVec.ofInt 64 n &&& BitVec.ofInt 64 (2 ^ k)) = 0#64) ↔ (n % 18446744073709551616).toNat.testBit k = false := by
  rw [← BitVec.toNat_inj, a2]
  have : 0 < 2 ^ k := Nat.two_pow_pos k
  cases (n % 18446744073709551616).toNat.testBit k
  ·simp
  ·simp
 rw [a3, a4, Bool.not_eq_false, Nat.testBit_eq_decide_div_mod_eq, decide_eq_true_eq]
 unfold I64 at hn
 rcases (show k = 0 ∨ k = 1 ∨ k = 2 ∨ k = 3 ∨ k = 4 ∨ k = 5 ∨ k = 6 ∨ k = 7 ∨ k = 8 ∨ k = 9 by omega) with rfl | rfl | rfl | rfl | rfl | rfl | rfl | rfl | rfl | rfl <;> simp <;> omega

end Go.Proofs.YtfknffdlmcckkaaGreat
