/-
  Packed: BrNewS BrBuild Box11 FwdBox VlanTab VlanPorts FwdMath.
-/
import Derived.Test.YtddalpglihhipaaGreatPXBrOkS
import Derived.Test.YtddalpglihhipaaGreatPXK01
import Derived.Test.YtddalpglihhipaaGreatPXK02
import Derived.Test.YtddalpglihhipaaGreatPXK03
import Derived.Test.YtddalpglihhipaaGreatPXK04
import Derived.Test.YtddalpglihhipaaGreatPXK12
import Derived.Test.YtddalpglihhipaaGreatPXVlanOk
namespace Go.Proofs.YtddalpglihhipaaGreat
open Go.RowKit

theorem BrOwn.boxed11 {w : World} {base : Nat} {a : Option Addr} {n c : Nat} {fa : Option Addr} {fn fc : Nat} {ra : Option Addr} {rn rc : Nat} {oa : Option Addr} {on oc : Nat} {B : BR} (h : BrOwn w base a n c fa fn fc ra rn rc oa on oc B) {X : Nat} {cs : Array Value} (hX : w.heap[X]? = some (.cells cs 31)) (u0 u1 u2 u3 u4 u5 u6 u7 u8 u9 u10 : Value) : BrOwn (((((((((((w.setCell ⟨X, 0, none⟩ u0).setCell ⟨X, 1, none⟩ u1).setCell ⟨X, 2, none⟩ u2).setCell ⟨X, 3, none⟩ u3).setCell ⟨X, 4, none⟩ u4).setCell ⟨X, 5, none⟩ u5).setCell ⟨X, 6, none⟩ u6).setCell ⟨X, 7, none⟩ u7).setCell ⟨X, 8, none⟩ u8).setCell ⟨X, 9, none⟩ u9).setCell ⟨X, 10, none⟩ u10) base a n c fa fn fc ra rn rc oa on oc B :=
 (BrOwn.boxed (BrOwn.boxed (BrOwn.boxed (BrOwn.boxed (BrOwn.boxed (BrOwn.boxed (BrOwn.boxed (BrOwn.boxed (BrOwn.boxed (BrOwn.boxed (BrOwn.boxed h hX 0 u0) (box11 hX 0 u0) 1 u1) (box11 (box11 hX 0 u0) 1 u1) 2 u2) (box11 (box11 (box11 hX 0 u0) 1 u1) 2 u2) 3 u3) (box11 (box11 (box11 (box11 hX 0 u0) 1 u1) 2 u2) 3 u3) 4 u4) (box11 (box11 (box11 (box11 (box11 hX 0 u0) 1 u1) 2 u2) 3 u3) 4 u4) 5 u5) (box11 (box11 (box11 (box11 (box11 (box11 hX 0 u0) 1 u1) 2 u2) 3 u3) 4 u4) 5 u5) 6 u6) (box11 (box11 (box11 (box11 (box11 (box11 (box11 hX 0 u0) 1 u1) 2 u2) 3 u3) 4 u4) 5 u5) 6 u6) 7 u7) (box11 (box11 (box11 (box11 (box11 (box11 (box11 (box11 hX 0 u0) 1 u1) 2 u2) 3 u3) 4 u4) 5 u5) 6 u6) 7 u7) 8 u8) (box11 (box11 (box11 (box11 (box11 (box11 (box11 (box11 (box11 hX 0 u0) 1 u1) 2 u2) 3 u3) 4 u4) 5 u5) 6 u6) 7 u7) 8 u8) 9 u9) (box11 (box11 (box11 (box11 (box11 (box11 (box11 (box11 (box11 (box11 hX 0 u0) 1 u1) 2 u2) 3 u3) 4 u4) 5 u5) 6 u6) 7 u7) 8 u8) 9 u9) 10 u10)

theorem below_set11 {K : Nat} {a w : World} (h : Below K a w) {g : Nat} (hB : K ≤ g) (u0 u1 u2 u3 u4 u5 u6 u7 u8 u9 u10 : Value) : Below K a (((((((((((w.setCell ⟨g, 0, none⟩ u0).setCell ⟨g, 1, none⟩ u1).setCell ⟨g, 2, none⟩ u2).setCell ⟨g, 3, none⟩ u3).setCell ⟨g, 4, none⟩ u4).setCell ⟨g, 5, none⟩ u5).setCell ⟨g, 6, none⟩ u6).setCell ⟨g, 7, none⟩ u7).setCell ⟨g, 8, none⟩ u8).setCell ⟨g, 9, none⟩ u9).setCell ⟨g, 10, none⟩ u10) :=
 (below_set (below_set (below_set (below_set (below_set (below_set (below_set (below_set (below_set (below_set (below_set h hB 0 u0) hB 1 u1) hB 2 u2) hB 3 u3) hB 4 u4) hB 5 u5) hB 6 u6) hB 7 u7) hB 8 u8) hB 9 u9) hB 10 u10)

structure BcSt (w wr : World) (R X : Nat) (cs : Array Value) : Prop where
 box : wr.heap[X]? = some (.cells cs 31)
 res : wr.heap[R]? = some (.cells #[.int .i64 0, .string ⟨#[]⟩, .slice none 0 0, .slice none 0 0, .slice none 0 0, .slice none 0 0, .int .i64 0, .int .i64 0, .int .i64 0, .int .i64 0, .int .i64 0] 31)
 below : Below w.heap.size w wr
 hX : w.heap.size ≤ X
 hR : w.heap.size ≤ R
 ne : R ≠ X

theorem BcSt.later {w wr wx : World} {R X : Nat} {cs : Array Value} (h : BcSt w wr R X cs) (hb : Below wr.heap.size wr wx) : BcSt w wx R X cs :=
 ⟨kept_block h.box hb, kept_block h.res hb, gr_trans h.below hb, h.hX, h.hR, h.ne⟩

theorem BcSt.put {w wr : World} {R X : Nat} {cs : Array Value} (h : BcSt w wr R X cs) (j : Nat) (u : Value) {cs' : Array Value} (he : cs.setIfInBounds j u = cs') : BcSt w (wr.setCell ⟨X, j, none⟩ u) R X cs' :=
 ⟨by rw [← he]; exact box11 h.box j u, kept_set h.res h.ne, below_set h.below h.hX j u, h.hX, h.hR, h.ne⟩

theorem BcSt.grown {w wr wx : World} {R X : Nat} {cs : Array Value} (h : BcSt w wr R X cs) {base k : Nat} {e : TypeId} {v : Value} {n : Nat} {xs : List Value} (ho : wr.ownsRow base e k v n xs) (hne : (e : Nat) ≠ 31) (hg : wr.grownBy wx v.ownBlock) (hb : Below w.heap.size wr wx) : BcSt w wx R X cs :=
 ⟨kept_grown h.box hg (fun i e => box_ne ho h.box hne i e), kept_grown h.res hg (fun i e => box_ne ho h.res hne i e), h.below.trans hb, h.hX, h.hR, h.ne⟩

theorem BcSt.stay {w wr : World} {R X : Nat} {cs : Array Value} (h : BcSt w wr R X cs) {base k : Nat} {e : TypeId} {v : Value} {n : Nat} {xs : List Value} (ho : wr.ownsRow base e k v n xs) (hne : (e : Nat) ≠ 31) (j : Nat) (u : Value) : (wr.setCell ⟨X, j, none⟩ u).ownsRow base e k v n xs :=
 gown_other ho (grown_set (rb := X) j u) (box_ne ho h.box hne)

theorem BcSt.out {w wr : World} {R X : Nat} {cs : Array Value} (h : BcSt w wr R X cs) {base : Nat} {a : Option Addr} {n c : Nat} {fa : Option Addr} {fn fc : Nat} {ra : Option Addr} {rn rc : Nat} {oa : Option Addr} {on oc : Nat} {B : BR} (ho : BrOwn wr base a n c fa fn fc ra rn rc oa on oc B) (u0 u1 u2 u3 u4 u5 u6 u7 u8 u9 u10 : Value) : BrOwn (((((((((((wr.setCell ⟨R, 0, none⟩ u0).setCell ⟨R, 1, none⟩ u1).setCell ⟨R, 2, none⟩ u2).setCell ⟨R, 3, none⟩ u3).setCell ⟨R, 4, none⟩ u4).setCell ⟨R, 5, none⟩ u5).setCell ⟨R, 6, none⟩ u6).setCell ⟨R, 7, none⟩ u7).setCell ⟨R, 8, none⟩ u8).setCell ⟨R, 9, none⟩ u9).setCell ⟨R, 10, none⟩ u10) base a n c fa fn fc ra rn rc oa on oc B ∧ Below w.heap.size w (((((((((((wr.setCell ⟨R, 0, none⟩ u0).setCell ⟨R, 1, none⟩ u1).setCell ⟨R, 2, none⟩ u2).setCell ⟨R, 3, none⟩ u3).setCell ⟨R, 4, none⟩ u4).setCell ⟨R, 5, none⟩ u5).setCell ⟨R, 6, none⟩ u6).setCell ⟨R, 7, none⟩ u7).setCell ⟨R, 8, none⟩ u8).setCell ⟨R, 9, none⟩ u9).setCell ⟨R, 10, none⟩ u10) :=
 ⟨ho.boxed11 h.res u0 u1 u2 u3 u4 u5 u6 u7 u8 u9 u10, below_set11 h.below h.hR u0 u1 u2 u3 u4 u5 u6 u7 u8 u9 u10⟩

theorem kept_set11 {w : World} {i g : Nat} {o : Obj} (h : w.heap[i]? = some o) (hne : i ≠ g) (u0 u1 u2 u3 u4 u5 u6 u7 u8 u9 u10 : Value) : (((((((((((w.setCell ⟨g, 0, none⟩ u0).setCell ⟨g, 1, none⟩ u1).setCell ⟨g, 2, none⟩ u2).setCell ⟨g, 3, none⟩ u3).setCell ⟨g, 4, none⟩ u4).setCell ⟨g, 5, none⟩ u5).setCell ⟨g, 6, none⟩ u6).setCell ⟨g, 7, none⟩ u7).setCell ⟨g, 8, none⟩ u8).setCell ⟨g, 9, none⟩ u9).setCell ⟨g, 10, none⟩ u10).heap[i]? = some o :=
 (kept_set (j := 10) (u := u10) (kept_set (j := 9) (u := u9) (kept_set (j := 8) (u := u8) (kept_set (j := 7) (u := u7) (kept_set (j := 6) (u := u6) (kept_set (j := 5) (u := u5) (kept_set (j := 4) (u := u4) (kept_set (j := 3) (u := u3) (kept_set (j := 2) (u := u2) (kept_set (j := 1) (u := u1) (kept_set (j := 0) (u := u0) h hne) hne) hne) hne) hne) hne) hne) hne) hne) hne) hne)

theorem set_box11B {w : World} {X : Nat} {c0 c1 c2 c3 c4 c5 c6 c7 c8 c9 c10 : Value} {T : TypeId} (h : w.heap[X]? = some (.cells #[c0, c1, c2, c3, c4, c5, c6, c7, c8, c9, c10] T)) (u0 u1 u2 u3 u4 u5 u6 u7 u8 u9 u10 : Value) : (((((((((((w.setCell ⟨X, 0, none⟩ u0).setCell ⟨X, 1, none⟩ u1).setCell ⟨X, 2, none⟩ u2).setCell ⟨X, 3, none⟩ u3).setCell ⟨X, 4, none⟩ u4).setCell ⟨X, 5, none⟩ u5).setCell ⟨X, 6, none⟩ u6).setCell ⟨X, 7, none⟩ u7).setCell ⟨X, 8, none⟩ u8).setCell ⟨X, 9, none⟩ u9).setCell ⟨X, 10, none⟩ u10).heap[X]? = some (.cells #[u0, u1, u2, u3, u4, u5, u6, u7, u8, u9, u10] T) := by
 have h' := (box11 (box11 (box11 (box11 (box11 (box11 (box11 (box11 (box11 (box11 (box11 h 0 u0) 1 u1) 2 u2) 3 u3) 4 u4) 5 u5) 6 u6) 7 u7) 8 u8) 9 u9) 10 u10)
 simp only [lA, lB, lC] at h'
 exact h'

theorem OOwns.ne {w : World} {base : Nat} {ao : Option Addr} {n cap : Nat} {l : List OI} (h : OOwns w base ao n cap l) {X : Nat} {cs : Array Value} {T : TypeId} (hX : w.heap[X]? = some (.cells cs T)) (h1 : (48 : Nat) ≠ T) (h2 : (5 : Nat) ≠ T) : ∀ b ∈ allO ao l, b ∉ [X] := by
 intro b hb hx
 rw [List.mem_singleton] at hx
 rcases List.mem_append.1 hb with hb | hb
 ·exact box_ne h.row hX h1 b (mem_blkL.2 hb) hx
 ·obtain ⟨y, hy, hb⟩ := List.mem_flatMap.1 hb
  exact box_ne (h.item y hy).z hX h2 b (mem_blkL.2 hb) hx

theorem OOwns.put {w : World} {base : Nat} {ao : Option Addr} {n cap : Nat} {l : List OI} (h : OOwns w base ao n cap l) {X : Nat} {cs : Array Value} {T : TypeId} (hX : w.heap[X]? = some (.cells cs T)) (h1 : (48 : Nat) ≠ T) (h2 : (5 : Nat) ≠ T) (j : Nat) (u : Value) : OOwns (w.setCell ⟨X, j, none⟩ u) base ao n cap l :=
 h.only (Only.set w X j u) (h.ne hX h1 h2)

theorem OOwns.put11 {w : World} {base : Nat} {ao : Option Addr} {n cap : Nat} {l : List OI} (h : OOwns w base ao n cap l) {X : Nat} {cs : Array Value} {T : TypeId} (hX : w.heap[X]? = some (.cells cs T)) (h1 : (48 : Nat) ≠ T) (h2 : (5 : Nat) ≠ T) (u0 u1 u2 u3 u4 u5 u6 u7 u8 u9 u10 : Value) : OOwns (((((((((((w.setCell ⟨X, 0, none⟩ u0).setCell ⟨X, 1, none⟩ u1).setCell ⟨X, 2, none⟩ u2).setCell ⟨X, 3, none⟩ u3).setCell ⟨X, 4, none⟩ u4).setCell ⟨X, 5, none⟩ u5).setCell ⟨X, 6, none⟩ u6).setCell ⟨X, 7, none⟩ u7).setCell ⟨X, 8, none⟩ u8).setCell ⟨X, 9, none⟩ u9).setCell ⟨X, 10, none⟩ u10) base ao n cap l :=
 h.only (((((((((((Only.set w X 0 u0).trans (Only.set _ X 1 u1)).trans (Only.set _ X 2 u2)).trans (Only.set _ X 3 u3)).trans (Only.set _ X 4 u4)).trans (Only.set _ X 5 u5)).trans (Only.set _ X 6 u6)).trans (Only.set _ X 7 u7)).trans (Only.set _ X 8 u8)).trans (Only.set _ X 9 u9)).trans (Only.set _ X 10 u10)) (h.ne hX h1 h2)

theorem rowAt_no {l : List VR} {id : Int} (h : rowIdx l id = none) : rowAt l id = -1 := by unfold rowAt; rw [h]
theorem rowAt_yes {l : List VR} {id : Int} {k : Nat} (h : rowIdx l id = some k) : rowAt l id = k := by unfold rowAt; rw [h]

set_option maxRecDepth 100000 in
set_option maxHeartbeats 4000000 in
theorem implVtabOk_any (a : Option Addr) (n c : Nat) (o : Option Addr) (p q : Nat) (v : VT) (ports : Int) (w : World) (h : VTab w a n c o p q v) (hR : ∀ r ∈ v.rows, r.Rng) :
  Calls Tryz.prog 68 #[.agg #[.slice a n c, .slice o p q], .int .i64 ports] w fun r w' => r = .returned (.bool (vtabOk v ports)) ∧ Below w.heap.size w w' := by
 have hle := h.rows.le
 have htop := h.rows.top
 have hle2 := h.own.le
 have htop2 := h.own.top
 unfold maxLen at htop htop2
 have hsz := hide h.rows.size
 have hsz2 := hide h.own.size
 generalize hw1 : w.alloc (Obj.cells #[Value.slice a n c, Value.slice o p q] 29) = w1
 have hW : Below w.heap.size w w1 := by subst hw1; exact below_one _ _
 obtain ⟨e0, e1⟩ := box_two hw1 (Below.refl _ w1)
 have h := h.below hW
 generalize hV : vtabOk v ports = V
 have HV := hide hV
 clear hV
 cases t1 : (decide (1 ≤ ports) && decide (ports ≤ 6))
 ·have HN := hide (vtab_in (v := v) t1)
  have T1 := hide t1
  clear t1
  go_enter Tryz.func68, Tryz.ntmps68
  go_wp2_with (refine (implIn9_any ports 1 6 _).mono ?_; rintro r w2 ⟨rfl, e2⟩; obtain rfl := e2.symm; rw [T1.out])
  go_ret
  exact ⟨ret_bool (by rw [← HV.out, HN.out]), hW⟩
 have T1 := hide t1
 simp only [Bool.and_eq_true, decide_eq_true_eq] at t1
 by_cases t2 : (p : Int) = ports
 case neg =>
  have HN := hide (vtab_len (v := v) (ports := ports) (by rw [hsz2.out]; exact t2))
  go_enter Tryz.func68, Tryz.ntmps68
  go_wp2_with (refine (implIn9_any ports 1 6 _).mono ?_; rintro r w2 ⟨rfl, e2⟩; obtain rfl := e2.symm; rw [T1.out])
  go_ret
  exact ⟨ret_bool (by rw [← HV.out, HN.out]), hW⟩
 subst t2
 by_cases t3 : n ≤ 6
 case neg =>
  have HN := hide (vtab_many (v := v) (ports := p) (by rw [hsz.out]; exact t3))
  go_enter Tryz.func68, Tryz.ntmps68
  go_wp2_with (refine (implIn9_any (p : Int) 1 6 _).mono ?_; rintro r w2 ⟨rfl, e2⟩; obtain rfl := e2.symm; rw [T1.out])
  go_ret
  exact ⟨ret_bool (by rw [← HV.out, HN.out]), hW⟩
 cases t4 : vrises v.rows
 ·have HN := hide (vtab_rise (v := v) (ports := p) t4)
  have T4 := hide t4
  clear t4
  go_enter Tryz.func68, Tryz.ntmps68
  go_wp2_with (refine (implIn9_any (p : Int) 1 6 _).mono ?_; rintro r w2 ⟨rfl, e2⟩; obtain rfl := e2.symm; rw [T1.out])
  refine (implRowsOf_any a n c o p q _).mono ?_
  rintro r w2 ⟨rfl, hb2⟩
  go_wp2_with fail
  refine (implAscends_any a n c v.rows _ (h.rows.below hb2)).mono ?_
  rintro r w3 ⟨rfl, hb3⟩
  rw [T4.out]
  have HB := hide (gr_trans hW (gr_trans hb2 hb3))
  clear hb2 hb3
  go_wp2
  go_ret
  exact ⟨ret_bool (by rw [← HV.out, HN.out]), HB.out⟩
 have T4 := hide t4
 clear t4
 go_enter Tryz.func68, Tryz.ntmps68
 go_wp2_with (refine (implIn9_any (p : Int) 1 6 _).mono ?_; rintro r w2 ⟨rfl, e2⟩; obtain rfl := e2.symm; rw [T1.out])
 refine (implRowsOf_any a n c o p q _).mono ?_
 rintro r w2 ⟨rfl, hb2⟩
 go_wp2_with fail
 refine (implAscends_any a n c v.rows _ (h.rows.below hb2)).mono ?_
 rintro r w3 ⟨rfl, hb3⟩
 rw [T4.out]
 have b13 := gr_trans hb2 hb3
 obtain ⟨x0, x1⟩ := box_two hw1 b13
 clear hb2 hb3 e0 e1
 go_wp2
 go_loopw [34] (fun i wr => ∃ k : Nat, k ≤ n ∧ i = .int .i64 k ∧ rowsTo (allOf p) v.rows k ∧ Below w1.heap.size w1 wr) (fun i _ => n - (intOf i).toNat)
 case atStart => exact ⟨0, Nat.zero_le _, rfl, fun i x hi => by omega, b13⟩
 case round =>
  obtain ⟨k, hk, rfl, hok, hb⟩ := hrel
  by_cases hlt : k < n
  ·obtain ⟨x, b, off, hx, rfl, c0, c1, c2⟩ := vrow_at (h.rows.below hb) k hlt
   have hxr : x.Rng := hR x (List.mem_of_getElem? hx)
   cases t5 : vrowOk (allOf p) x
   ·have HN := hide (vtab_row (v := v) (p := p) hx t5)
    have T5 := hide t5
    have HB := hide hb
    clear t5 hok hb hx x0 x1
    go_wp2_with fail
    refine (implVrowOk_any x p _ hxr (by omega) (by omega)).mono ?_
    rintro r w5 ⟨rfl, hb5⟩
    rw [T5.out]
    have HB1 := hide (gr_trans hW (gr_trans HB.out (gr_trans (below_one _ _) hb5)))
    clear hb5 c0 c1 c2
    go_wp2
    go_ret
    exact ⟨ret_bool (by rw [← HV.out, HN.out]), HB1.out⟩
   ·have HO := hide (rowsTo_next hok hx t5)
    have T5 := hide t5
    have HB := hide hb
    clear t5 hok hb hx x0 x1
    go_wp2_with fail
    refine (implVrowOk_any x p _ hxr (by omega) (by omega)).mono ?_
    rintro r w5 ⟨rfl, hb5⟩
    rw [T5.out]
    have HB1 := hide (gr_trans HB.out (gr_trans (below_one _ _) hb5))
    clear hb5 c0 c1 c2
    go_wp2
    go_roundw
    case rel => exact ⟨k + 1, by omega, by go_num, HO.out, HB1.out⟩
    case measure => simp [intOf]; omega
  ·have HK : Hid (vokTo (allOf p) v.rows v.rows.length) := hide (vokTo_of (fun i x hi hx => hok i x (by have := hsz.out; omega) hx) T4.out)
   obtain ⟨y0, y1⟩ := box_two hw1 hb
   have HB := hide hb
   have hkn : k = n := by omega
   clear hok hb x0 x1
   subst hkn
   go_wp2
   go_loopw [46] (fun i wr => ∃ k : Nat, k ≤ p ∧ i = .int .i64 k ∧ ownTo v k ∧ Below w1.heap.size w1 wr) (fun i _ => p - (intOf i).toNat)
   case atStart => exact ⟨0, Nat.zero_le _, rfl, fun i x hi => by omega, HB.out⟩
   case round =>
    obtain ⟨j, hj, rfl, hto, hb⟩ := hrel
    by_cases hlt : j < p
    ·obtain ⟨x, b, off, hx, rfl, c0⟩ := irow_at (h.own.below hb) j hlt
     obtain ⟨z0, z1⟩ := box_two hw1 hb
     clear y0 y1
     cases hr : rowIdx v.rows x with
     | none =>
      have HN := hide (vtab_own (p := p) (List.mem_of_getElem? hx) hr)
      have HA := hide (rowAt_no hr)
      have HB3 := hide hb
      clear hto hb hx hr
      go_wp2_with fail
      refine (implRowAt_any a k c v.rows (some ⟨b, off, none⟩) p q x _ (h.rows.below HB3.out)).mono ?_
      rintro r w5 ⟨rfl, hb5⟩
      rw [HA.out]
      have HB1 := hide (gr_trans hW (gr_trans HB3.out hb5))
      clear hb5 c0 z0 z1
      go_wp2
      go_ret
      exact ⟨ret_bool (by rw [← HV.out, HN.out]), HB1.out⟩
     | some i =>
      have HO := hide (ownTo_next hto hx (by rw [hr]; exact fun h => by cases h))
      have HA := hide (rowAt_yes hr)
      have HB3 := hide hb
      have hneg : ¬ ((i : Int) < 0) := by omega
      clear hto hb hx hr
      go_wp2_with fail
      refine (implRowAt_any a k c v.rows (some ⟨b, off, none⟩) p q x _ (h.rows.below HB3.out)).mono ?_
      rintro r w5 ⟨rfl, hb5⟩
      rw [HA.out]
      have HB1 := hide (gr_trans HB3.out hb5)
      clear hb5 c0 z0 z1
      go_wp2
      go_roundw
      case rel => exact ⟨j + 1, by omega, by go_num, HO.out, HB1.out⟩
      case measure => simp [intOf]; omega
    ·have HN : Hid (vtabOk v p = true) := hide (vtab_yes t1.1 t1.2 hsz2.out (by have := hsz.out; omega) HK.out (ownTo_all hto (by have := hsz2.out; omega)))
     have HB3 := hide (gr_trans hW hb)
     have hjn : j = p := by omega
     clear hto hb y0 y1
     subst hjn
     go_wp2
     go_ret
     exact ⟨ret_bool (by rw [← HV.out, HN.out]), HB3.out⟩

theorem bitOf_out {n port : Int} (h : in3 port 0 7 = false) : bitOf n port = false := by
 unfold bitOf
 rw [h]
 rfl

theorem bitOf_in {n : Int} {k : Nat} (h : k ≤ 7) : bitOf n (k : Int) = (bits .and .i64 (n / 2 ^ k) 1 == 1) := by
 unfold bitOf in3
 rw [Int.toNat_natCast, decide_eq_true (show (0 : Int) ≤ (k : Int) by omega), decide_eq_true (show (k : Int) ≤ 7 by omega)]
 rfl

set_option maxRecDepth 100000 in
set_option maxHeartbeats 2000000 in
theorem specBit_any (n port : Int) (w : World) :
  Calls Tryz.prog 53 #[.int .i64 n, .int .i64 port] w fun e w' => e = .returned (.bool (bitOf n port)) ∧ w' = w := by
 cases hin : in3 port 0 7
 ·rw [bitOf_out hin]
  have HIN := hide hin
  clear hin
  go_enter Tryz.func53, Tryz.ntmps53
  go_wp2_with fail
  refine (within_any port 0 7 _).mono ?_
  rintro e w1 ⟨rfl, e1⟩
  obtain rfl := e1.symm
  rw [show (decide (0 ≤ port) && decide (port ≤ 7)) = false from HIN.out]
  go_wp2
  go_ret
  exact ⟨rfl, rfl⟩
 ·have hp : 0 ≤ port ∧ port ≤ 7 := by unfold in3 at hin; simpa using hin
  obtain ⟨k, rfl⟩ : ∃ k : Nat, port = (k : Int) := ⟨port.toNat, by omega⟩
  rw [bitOf_in (by omega)]
  generalize hB : (bits .and .i64 (n / 2 ^ k) 1 == 1) = B
  have hwk : IntKind.u64.wrap (k : Int) = (k : Int) := by rw [IntKind.wrap_u64]; omega
  have HIN := hide hin
  clear hin
  go_enter Tryz.func53, Tryz.ntmps53
  go_wp2_with fail
  refine (within_any (k : Int) 0 7 _).mono ?_
  rintro e w1 ⟨rfl, e1⟩
  obtain rfl := e1.symm
  rw [show (decide (0 ≤ (k : Int)) && decide ((k : Int) ≤ 7)) = true from HIN.out]
  go_wp2
  go_ret
  exact ⟨ret_bool (by first | rfl | simp [hB]), rfl⟩

def hasP (n port : Int) : Bool := decide (0 ≤ port) && (bits .and .i64 n (2 ^ port.toNat) != 0)

theorem hasP_same {n port : Int} (hn : I64 n) (h : port ≤ 7 ∨ (port ≤ 9 ∧ 0 ≤ n ∧ n ≤ 63)) : hasP n port = bitOf n port := by
 unfold hasP
 by_cases h0 : 0 ≤ port
 ·obtain ⟨k, rfl⟩ : ∃ k : Nat, port = (k : Int) := ⟨port.toNat, by omega⟩
  rw [decide_eq_true h0, Bool.true_and, Int.toNat_natCast, bit_same n k (by omega) hn]
  by_cases h7 : k ≤ 7
  ·rw [bitOf_in h7]
  ·rw [bitOf_out (by unfold in3; rw [decide_eq_false (show ¬ (k : Int) ≤ 7 by omega), Bool.and_false])]
   have hn2 : 0 ≤ n ∧ n ≤ 63 := by rcases h with h | h <;> omega
   rcases (show k = 8 ∨ k = 9 by omega) with rfl | rfl
   ·rw [show n / 2 ^ 8 = 0 by simp; omega]
    decide
   ·rw [show n / 2 ^ 9 = 0 by simp; omega]
    decide
 ·rw [decide_eq_false h0, Bool.false_and, bitOf_out (by unfold in3; rw [decide_eq_false h0, Bool.false_and])]

set_option maxRecDepth 100000 in
set_option maxHeartbeats 2000000 in
theorem implHasPort_any (n port : Int) (hp : port ≤ 9) (w : World) :
  Calls Tryz.prog 70 #[.int .i64 n, .int .i64 port] w fun e w' => e = .returned (.bool (hasP n port)) ∧ w' = w := by
 by_cases h0 : 0 ≤ port
 ·have hx : port = 0 ∨ port = 1 ∨ port = 2 ∨ port = 3 ∨ port = 4 ∨ port = 5 ∨ port = 6 ∨ port = 7 ∨ port = 8 ∨ port = 9 := by omega
  rcases hx with rfl | rfl | rfl | rfl | rfl | rfl | rfl | rfl | rfl | rfl
  ·rw [show hasP n 0 = (bits .and .i64 n 1 != 0) from rfl]
   generalize hB : (bits .and .i64 n 1 != 0) = B
   go_enter Tryz.func70, Tryz.ntmps70
   go_wp2
   go_ret
   exact ⟨ret_bool (by first | rfl | simp [hB]), rfl⟩
  ·rw [show hasP n 1 = (bits .and .i64 n 2 != 0) from rfl]
   generalize hB : (bits .and .i64 n 2 != 0) = B
   go_enter Tryz.func70, Tryz.ntmps70
   go_wp2
   go_ret
   exact ⟨ret_bool (by first | rfl | simp [hB]), rfl⟩
  ·rw [show hasP n 2 = (bits .and .i64 n 4 != 0) from rfl]
   generalize hB : (bits .and .i64 n 4 != 0) = B
   go_enter Tryz.func70, Tryz.ntmps70
   go_wp2
   go_ret
   exact ⟨ret_bool (by first | rfl | simp [hB]), rfl⟩
  ·rw [show hasP n 3 = (bits .and .i64 n 8 != 0) from rfl]
   generalize hB : (bits .and .i64 n 8 != 0) = B
   go_enter Tryz.func70, Tryz.ntmps70
   go_wp2
   go_ret
   exact ⟨ret_bool (by first | rfl | simp [hB]), rfl⟩
  ·rw [show hasP n 4 = (bits .and .i64 n 16 != 0) from rfl]
   generalize hB : (bits .and .i64 n 16 != 0) = B
   go_enter Tryz.func70, Tryz.ntmps70
   go_wp2
   go_ret
   exact ⟨ret_bool (by first | rfl | simp [hB]), rfl⟩
  ·rw [show hasP n 5 = (bits .and .i64 n 32 != 0) from rfl]
   generalize hB : (bits .and .i64 n 32 != 0) = B
   go_enter Tryz.func70, Tryz.ntmps70
   go_wp2
   go_ret
   exact ⟨ret_bool (by first | rfl | simp [hB]), rfl⟩
  ·rw [show hasP n 6 = (bits .and .i64 n 64 != 0) from rfl]
   generalize hB : (bits .and .i64 n 64 != 0) = B
   go_enter Tryz.func70, Tryz.ntmps70
   go_wp2
   go_ret
   exact ⟨ret_bool (by first | rfl | simp [hB]), rfl⟩
  ·rw [show hasP n 7 = (bits .and .i64 n 128 != 0) from rfl]
   generalize hB : (bits .and .i64 n 128 != 0) = B
   go_enter Tryz.func70, Tryz.ntmps70
   go_wp2
   go_ret
   exact ⟨ret_bool (by first | rfl | simp [hB]), rfl⟩
  ·rw [show hasP n 8 = (bits .and .i64 n 256 != 0) from rfl]
   generalize hB : (bits .and .i64 n 256 != 0) = B
   go_enter Tryz.func70, Tryz.ntmps70
   go_wp2
   go_ret
   exact ⟨ret_bool (by first | rfl | simp [hB]), rfl⟩
  ·rw [show hasP n 9 = (bits .and .i64 n 512 != 0) from rfl]
   generalize hB : (bits .and .i64 n 512 != 0) = B
   go_enter Tryz.func70, Tryz.ntmps70
   go_wp2
   go_ret
   exact ⟨ret_bool (by first | rfl | simp [hB]), rfl⟩
 ·rw [show hasP n port = false by unfold hasP; rw [decide_eq_false h0]; rfl]
  go_enter Tryz.func70, Tryz.ntmps70
  go_wp2
  go_ret
  exact ⟨rfl, rfl⟩

def classId (v : VT) (port tag : Int) : Int := if tag = 0 then v.own.getD port.toNat 0 else tag
def classOf (v : VT) (port tag : Int) : Int × Bool :=
 if (decide (0 ≤ port) && decide (port ≤ (v.own.length : Int) - 1)) && bitOf (egressOf v (classId v port tag)) port then (classId v port tag, true) else (0, false)

theorem bitOf_zero (port : Int) : bitOf 0 port = false := by
 unfold bitOf
 rw [Int.zero_ediv]
 rw [show (bits .and .i64 0 1 == 1) = false by decide, Bool.and_false]

theorem egress_rng {v : VT} (h : ∀ r ∈ v.rows, r.Rng) (id : Int) : I64 (egressOf v id) := by
 unfold egressOf
 cases hf : v.rows.find? (fun r => r.i == id) with
 | none => unfold I64; simp only; omega
 | some r => exact (h r (List.mem_of_find?_eq_some hf)).2.1

set_option maxRecDepth 100000 in
set_option maxHeartbeats 4000000 in
theorem implClassOf_any (a : Option Addr) (n c : Nat) (o : Option Addr) (p q : Nat) (v : VT) (port tag : Int) (w : World) (h : VTab w a n c o p q v) (hR : ∀ r ∈ v.rows, r.Rng) (hp8 : p ≤ 8) :
  Calls Tryz.prog 13 #[.agg #[.slice a n c, .slice o p q], .int .i64 port, .int .i64 tag] w fun e w' => e = .returned (.tuple #[.int .i64 (classOf v port tag).1, .bool (classOf v port tag).2]) ∧ Below w.heap.size w w' := by
 have hsz := h.own.size
 have hle2 := h.own.le
 generalize hw1 : w.alloc (Obj.cells #[Value.slice a n c, Value.slice o p q] 29) = w1
 have b01 : Below w.heap.size w w1 := by subst hw1; exact below_one _ _
 obtain ⟨x0, x1⟩ := box_two hw1 (Below.refl _ w1)
 have h1 := h.below b01
 have hsub : IntKind.i64.wrap ((p : Int) - 1) = (p : Int) - 1 := by rw [IntKind.wrap_i64]; omega
 unfold classOf
 rw [hsz]
 have HSZ := hide hsz
 clear hsz
 cases hin : (decide (0 ≤ port) && decide (port ≤ (p : Int) - 1))
 ·rw [Bool.false_and, if_neg Bool.false_ne_true]
  have HIN := hide hin
  clear hin
  go_enter Tryz.func13, Tryz.ntmps13
  go_wp2_with fail
  refine (implIn9_any port 0 ((p : Int) - 1) _).mono ?_
  rintro e w2 ⟨rfl, e2⟩
  obtain rfl := e2.symm
  rw [HIN.out]
  go_wp2
  exact bodyPost_ret (v := .tuple #[.int .i64 0, .bool false]) (by simp [results, Tryz.results13, go_sem, *]) rfl ⟨rfl, b01⟩
 ·obtain ⟨k, rfl⟩ : ∃ k : Nat, port = (k : Int) := ⟨port.toNat, by simp at hin; omega⟩
  have hk : k < p := by simp at hin; omega
  rw [Bool.true_and]
  have HIN := hide hin
  clear hin
  obtain ⟨y, b, off, hy, rfl, cy⟩ := irow_at h1.own k hk
  have hsame := hasP_same (n := egressOf v (classId v (k : Int) tag)) (port := (k : Int)) (egress_rng hR _) (.inl (by omega))
  have hid : classId v (k : Int) tag = if tag = 0 then y else tag := by
   unfold classId
   rw [Int.toNat_natCast, List.getD_eq_getElem?_getD, hy]
   rfl
  generalize hI : classId v (k : Int) tag = I at hsame hid
  have i1 : (0 : Int) ≤ (k : Int) := by omega
  have i2 : (k : Int) < (p : Int) := by omega
  have HI := hide hI
  clear hI hy
  generalize hBB : bitOf (egressOf v I) (k : Int) = BB at hsame
  have HS := hide hsame
  clear hsame hBB
  by_cases ht : tag = 0
  ·subst ht
   rw [if_pos rfl] at hid
   subst hid
   go_enter Tryz.func13, Tryz.ntmps13
   go_wp2_with fail
   refine (implIn9_any (k : Int) 0 ((p : Int) - 1) _).mono ?_
   rintro e w2 ⟨rfl, e2⟩
   obtain rfl := e2.symm
   rw [HIN.out]
   go_wp2_with fail
   refine (implEgress_any _ _ _ _ _ _ v I _ h1.rows).mono ?_
   rintro e w3 ⟨rfl, hb3⟩
   go_wp2_with fail
   refine (implHasPort_any (egressOf v I) (k : Int) (by omega) _).mono ?_
   rintro e w4 ⟨rfl, e4⟩
   obtain rfl := e4.symm
   rw [HS.out]
   have HB := hide (gr_trans b01 hb3)
   clear hb3
   cases BB
   ·go_wp2
    exact bodyPost_ret (v := .tuple #[.int .i64 0, .bool false]) (by simp [results, Tryz.results13, go_sem, *]) rfl ⟨rfl, HB.out⟩
   ·go_wp2
    exact bodyPost_ret (v := .tuple #[.int .i64 I, .bool true]) (by simp [results, Tryz.results13, go_sem, *]) rfl ⟨rfl, HB.out⟩
  ·rw [if_neg ht] at hid
   subst hid
   go_enter Tryz.func13, Tryz.ntmps13
   go_wp2_with fail
   refine (implIn9_any (k : Int) 0 ((p : Int) - 1) _).mono ?_
   rintro e w2 ⟨rfl, e2⟩
   obtain rfl := e2.symm
   rw [HIN.out]
   go_wp2_with fail
   refine (implEgress_any _ _ _ _ _ _ v I _ h1.rows).mono ?_
   rintro e w3 ⟨rfl, hb3⟩
   go_wp2_with fail
   refine (implHasPort_any (egressOf v I) (k : Int) (by omega) _).mono ?_
   rintro e w4 ⟨rfl, e4⟩
   obtain rfl := e4.symm
   rw [HS.out]
   have HB := hide (gr_trans b01 hb3)
   clear hb3
   cases BB
   ·go_wp2
    exact bodyPost_ret (v := .tuple #[.int .i64 0, .bool false]) (by simp [results, Tryz.results13, go_sem, *]) rfl ⟨rfl, HB.out⟩
   ·go_wp2
    exact bodyPost_ret (v := .tuple #[.int .i64 I, .bool true]) (by simp [results, Tryz.results13, go_sem, *]) rfl ⟨rfl, HB.out⟩

set_option maxRecDepth 100000 in
set_option maxHeartbeats 4000000 in
theorem specClass_end (a : Option Addr) (n c : Nat) (o : Option Addr) (p q : Nat) (v : VT) (k : Nat) (tag I : Int) (w : World) (h : VTab w a n c o p q v) (hk : k < p) (hid : ∀ y, v.own[k]? = some y → I = if tag = 0 then y else tag) (BB : Bool) (hBB : bitOf (egressOf v I) (k : Int) = BB) :
  Calls Tryz.prog 52 #[.agg #[.slice a n c, .slice o p q], .int .i64 k, .int .i64 tag] w fun e w' => e = .returned (.tuple #[.int .i64 (if BB then I else 0), .bool BB]) ∧ Below w.heap.size w w' := by
 have hle2 := h.own.le
 have htop2 := h.own.top
 have hle := h.rows.le
 have htop := h.rows.top
 unfold maxLen at htop htop2
 generalize hw1 : w.alloc (Obj.cells #[Value.slice a n c, Value.slice o p q] 29) = w1
 have b01 : Below w.heap.size w w1 := by subst hw1; exact below_one _ _
 obtain ⟨x0, x1⟩ := box_two hw1 (Below.refl _ w1)
 have h1 := h.below b01
 have hsub : IntKind.i64.wrap ((p : Int) - 1) = (p : Int) - 1 := by rw [IntKind.wrap_i64]; omega
 have HIN : Hid ((decide (0 ≤ (k : Int)) && decide ((k : Int) ≤ (p : Int) - 1)) = true) := hide (by simp; omega)
 obtain ⟨y, b, off, hy, rfl, cy⟩ := irow_at h1.own k hk
 have hid := hid y hy
 have i1 : (0 : Int) ≤ (k : Int) := by omega
 have i2 : (k : Int) < (p : Int) := by omega
 clear hy
 by_cases ht : tag = 0
 ·subst ht
  rw [if_pos rfl] at hid
  subst hid
  cases hr : rowIdx v.rows I with
  | none =>
   have hB0 : BB = false := by
    rw [← hBB, show egressOf v I = 0 by unfold egressOf; rw [rowIdx_find hr]]
    exact bitOf_zero _
   subst hB0
   have HA := hide (rowAt_no hr)
   clear hr hBB
   go_enter Tryz.func52, Tryz.ntmps52
   go_wp2_with fail
   refine (within_any (k : Int) 0 ((p : Int) - 1) _).mono ?_
   rintro e w2 ⟨rfl, e2⟩
   obtain rfl := e2.symm
   rw [HIN.out]
   go_wp2_with fail
   refine (specRowAt_any a n c v.rows _ p q I _ h1.rows).mono ?_
   rintro r w3 ⟨rfl, hb3⟩
   rw [HA.out]
   have HB := hide (gr_trans b01 hb3)
   clear hb3 x0 x1 cy
   go_wp2
   exact bodyPost_ret (v := .tuple #[.int .i64 0, .bool false]) (by simp [results, Tryz.results52, go_sem, *]) rfl ⟨rfl, HB.out⟩
  | some j =>
   obtain ⟨x, hx, -, hf⟩ := rowIdx_some hr
   have hB1 : bitOf x.m (k : Int) = BB := by
    rw [← hBB, show egressOf v I = x.m by unfold egressOf; rw [hf]]
   have HB1 := hide hB1
   have HA := hide (rowAt_yes hr)
   have hjn : j < n := by have := (List.getElem?_eq_some_iff.1 hx).1; have := h.rows.size; omega
   have hneg : ¬ ((j : Int) < 0) := by omega
   have i3 : (0 : Int) ≤ (j : Int) := by omega
   have i4 : (j : Int) < (n : Int) := by omega
   clear hr hf hBB hB1
   go_enter Tryz.func52, Tryz.ntmps52
   go_wp2_with fail
   refine (within_any (k : Int) 0 ((p : Int) - 1) _).mono ?_
   rintro e w2 ⟨rfl, e2⟩
   obtain rfl := e2.symm
   rw [HIN.out]
   go_wp2_with fail
   refine (specRowAt_any a n c v.rows _ p q I _ h1.rows).mono ?_
   rintro r w3 ⟨rfl, hb3⟩
   rw [HA.out]
   obtain ⟨z, b', off', hz, rfl, c0, c1, c2⟩ := vrow_at (h1.rows.below hb3) j hjn
   rw [hx] at hz
   cases hz
   obtain ⟨y0, y1⟩ := box_two hw1 hb3
   have HB := hide (gr_trans b01 hb3)
   clear hb3 x0 x1 cy hx
   go_wp2_with fail
   refine (specBit_any x.m (k : Int) _).mono ?_
   rintro e w4 ⟨rfl, e4⟩
   obtain rfl := e4.symm
   rw [HB1.out]
   cases BB
   ·go_wp2
    exact bodyPost_ret (v := .tuple #[.int .i64 0, .bool false]) (by simp [results, Tryz.results52, go_sem, *]) rfl ⟨rfl, HB.out⟩
   ·go_wp2
    exact bodyPost_ret (v := .tuple #[.int .i64 I, .bool true]) (by simp [results, Tryz.results52, go_sem, *]) rfl ⟨rfl, HB.out⟩
 ·rw [if_neg ht] at hid
  subst hid
  cases hr : rowIdx v.rows I with
  | none =>
   have hB0 : BB = false := by
    rw [← hBB, show egressOf v I = 0 by unfold egressOf; rw [rowIdx_find hr]]
    exact bitOf_zero _
   subst hB0
   have HA := hide (rowAt_no hr)
   clear hr hBB
   go_enter Tryz.func52, Tryz.ntmps52
   go_wp2_with fail
   refine (within_any (k : Int) 0 ((p : Int) - 1) _).mono ?_
   rintro e w2 ⟨rfl, e2⟩
   obtain rfl := e2.symm
   rw [HIN.out]
   go_wp2_with fail
   refine (specRowAt_any a n c v.rows _ p q I _ h1.rows).mono ?_
   rintro r w3 ⟨rfl, hb3⟩
   rw [HA.out]
   have HB := hide (gr_trans b01 hb3)
   clear hb3 x0 x1 cy
   go_wp2
   exact bodyPost_ret (v := .tuple #[.int .i64 0, .bool false]) (by simp [results, Tryz.results52, go_sem, *]) rfl ⟨rfl, HB.out⟩
  | some j =>
   obtain ⟨x, hx, -, hf⟩ := rowIdx_some hr
   have hB1 : bitOf x.m (k : Int) = BB := by
    rw [← hBB, show egressOf v I = x.m by unfold egressOf; rw [hf]]
   have HB1 := hide hB1
   have HA := hide (rowAt_yes hr)
   have hjn : j < n := by have := (List.getElem?_eq_some_iff.1 hx).1; have := h.rows.size; omega
   have hneg : ¬ ((j : Int) < 0) := by omega
   have i3 : (0 : Int) ≤ (j : Int) := by omega
   have i4 : (j : Int) < (n : Int) := by omega
   clear hr hf hBB hB1
   go_enter Tryz.func52, Tryz.ntmps52
   go_wp2_with fail
   refine (within_any (k : Int) 0 ((p : Int) - 1) _).mono ?_
   rintro e w2 ⟨rfl, e2⟩
   obtain rfl := e2.symm
   rw [HIN.out]
   go_wp2_with fail
   refine (specRowAt_any a n c v.rows _ p q I _ h1.rows).mono ?_
   rintro r w3 ⟨rfl, hb3⟩
   rw [HA.out]
   obtain ⟨z, b', off', hz, rfl, c0, c1, c2⟩ := vrow_at (h1.rows.below hb3) j hjn
   rw [hx] at hz
   cases hz
   obtain ⟨y0, y1⟩ := box_two hw1 hb3
   have HB := hide (gr_trans b01 hb3)
   clear hb3 x0 x1 cy hx
   go_wp2_with fail
   refine (specBit_any x.m (k : Int) _).mono ?_
   rintro e w4 ⟨rfl, e4⟩
   obtain rfl := e4.symm
   rw [HB1.out]
   cases BB
   ·go_wp2
    exact bodyPost_ret (v := .tuple #[.int .i64 0, .bool false]) (by simp [results, Tryz.results52, go_sem, *]) rfl ⟨rfl, HB.out⟩
   ·go_wp2
    exact bodyPost_ret (v := .tuple #[.int .i64 I, .bool true]) (by simp [results, Tryz.results52, go_sem, *]) rfl ⟨rfl, HB.out⟩

set_option maxRecDepth 100000 in
set_option maxHeartbeats 400000 in
theorem specClassOf_any (a : Option Addr) (n c : Nat) (o : Option Addr) (p q : Nat) (v : VT) (port tag : Int) (w : World) (h : VTab w a n c o p q v) (hp8 : p ≤ 8) :
  Calls Tryz.prog 52 #[.agg #[.slice a n c, .slice o p q], .int .i64 port, .int .i64 tag] w fun e w' => e = .returned (.tuple #[.int .i64 (classOf v port tag).1, .bool (classOf v port tag).2]) ∧ Below w.heap.size w w' := by
 have hsz := h.own.size
 unfold classOf
 rw [hsz]
 cases hin : (decide (0 ≤ port) && decide (port ≤ (p : Int) - 1))
 ·rw [Bool.false_and, if_neg Bool.false_ne_true]
  have hsub : IntKind.i64.wrap ((p : Int) - 1) = (p : Int) - 1 := by rw [IntKind.wrap_i64]; omega
  have HIN := hide hin
  clear hin
  have b01 := below_one w (Obj.cells #[Value.slice a n c, Value.slice o p q] 29)
  go_enter Tryz.func52, Tryz.ntmps52
  go_wp2_with fail
  refine (within_any port 0 ((p : Int) - 1) _).mono ?_
  rintro e w2 ⟨rfl, e2⟩
  subst e2
  rw [HIN.out]
  go_wp2
  exact bodyPost_ret (v := .tuple #[.int .i64 0, .bool false]) (by simp [results, Tryz.results52, go_sem, *]) rfl ⟨rfl, b01⟩
 ·obtain ⟨k, rfl⟩ : ∃ k : Nat, port = (k : Int) := ⟨port.toNat, by simp at hin; omega⟩
  have hk : k < p := by simp at hin; omega
  rw [Bool.true_and]
  refine (specClass_end a n c o p q v k tag (classId v (k : Int) tag) w h hk (fun y hy => by unfold classId; rw [Int.toNat_natCast, List.getD_eq_getElem?_getD, hy]; rfl) _ rfl).mono ?_
  rintro e w' ⟨rfl, hb⟩
  refine ⟨?_, hb⟩
  cases bitOf (egressOf v (classId v (k : Int) tag)) (k : Int) <;> rfl

set_option maxRecDepth 100000 in
set_option maxHeartbeats 4000000 in
theorem implShown_any (a : Option Addr) (n c : Nat) (o : Option Addr) (p q : Nat) (v : VT) (id port : Int) (w : World) (h : GRow vrowF w a n c v.rows) (hR : ∀ r ∈ v.rows, r.Rng ∧ 0 ≤ r.b ∧ r.b ≤ 63) (hp : port ≤ 9) :
  Calls Tryz.prog 18 #[.agg #[.slice a n c, .slice o p q], .int .i64 id, .int .i64 port] w fun e w' => e = .returned (.int .i64 (shownTag v id port)) ∧ Below w.heap.size w w' := by
 have q0 := below_one w (.cells #[.slice a n c, .slice o p q] 29)
 cases hf : v.rows.find? (fun r => r.i == id) with
 | none =>
  rw [show shownTag v id port = 0 by unfold shownTag; rw [hf]]
  have HF : Hid (findRow v.rows id = ⟨0, 0, 0⟩) := hide (by unfold findRow; rw [hf]; rfl)
  have HT : Hid ((v.rows.find? (fun r => r.i == id)).isSome = false) := hide (by rw [hf]; rfl)
  clear hf
  go_enter Tryz.func18, Tryz.ntmps18
  go_wp2_with fail
  refine (implRowsOf_any a n c o p q _).mono ?_
  rintro e w1 ⟨rfl, hb1⟩
  have q1 := gr_trans q0 hb1
  clear hb1
  go_wp2_with fail
  refine (implFind_any a n c v.rows id _ (h.below q1)).mono ?_
  rw [HF.out, HT.out]
  rintro e w2 ⟨rfl, hb2⟩
  have HB := hide (gr_trans q1 hb2)
  clear hb2 q1 q0
  go_wp2
  go_ret
  exact ⟨rfl, gr_trans HB.out (below_one _ _)⟩
 | some x =>
  have hx := hR x (List.mem_of_find?_eq_some hf)
  have hS := hasP_same (n := x.b) (port := port) hx.1.2.2 (by by_cases h7 : port ≤ 7; exact .inl h7; exact .inr ⟨hp, hx.2⟩)
  rw [show shownTag v id port = if bitOf x.b port then 0 else id by unfold shownTag; rw [hf]]
  generalize bitOf x.b port = BB at hS
  have HF : Hid (findRow v.rows id = x) := hide (by unfold findRow; rw [hf]; rfl)
  have HT : Hid ((v.rows.find? (fun r => r.i == id)).isSome = true) := hide (by rw [hf]; rfl)
  have HS := hide hS
  clear hf hS hx
  go_enter Tryz.func18, Tryz.ntmps18
  go_wp2_with fail
  refine (implRowsOf_any a n c o p q _).mono ?_
  rintro e w1 ⟨rfl, hb1⟩
  have q1 := gr_trans q0 hb1
  clear hb1
  go_wp2_with fail
  refine (implFind_any a n c v.rows id _ (h.below q1)).mono ?_
  rw [HF.out, HT.out]
  rintro e w2 ⟨rfl, hb2⟩
  have q2 := gr_trans q1 hb2
  clear hb2 q1 q0
  go_wp2_with fail
  refine (implHasPort_any x.b port hp _).mono ?_
  rintro e w4 ⟨rfl, e4⟩
  subst e4
  rw [HS.out]
  have HB := hide (gr_trans q2 (below_one w2 (.cells #[.int .i64 x.i, .int .i64 x.m, .int .i64 x.b] 100)))
  clear q2
  cases BB
  ·go_wp2
   go_ret
   exact ⟨rfl, HB.out⟩
  ·go_wp2
   go_ret
   exact ⟨rfl, HB.out⟩

set_option maxRecDepth 100000 in
set_option maxHeartbeats 4000000 in
theorem specShown_any (a : Option Addr) (n c : Nat) (o : Option Addr) (p q : Nat) (v : VT) (id port : Int) (w : World) (h : GRow vrowF w a n c v.rows) :
  Calls Tryz.prog 125 #[.agg #[.slice a n c, .slice o p q], .int .i64 id, .int .i64 port] w fun e w' => e = .returned (.int .i64 (shownTag v id port)) ∧ Below w.heap.size w w' := by
 have hle := h.le
 have htop := h.top
 unfold maxLen at htop
 have hsz := hide h.size
 generalize hw1 : w.alloc (Obj.cells #[Value.slice a n c, Value.slice o p q] 29) = w1
 have q0 : Below w.heap.size w w1 := by subst hw1; exact below_one _ _
 obtain ⟨x0, x1⟩ := box_two hw1 (Below.refl _ w1)
 cases hr : rowIdx v.rows id with
 | none =>
  rw [show shownTag v id port = 0 by unfold shownTag; rw [rowIdx_find hr]]
  have HA := hide (rowAt_no hr)
  clear hr
  go_enter Tryz.func125, Tryz.ntmps125
  go_wp2_with fail
  refine (specRowAt_any a n c v.rows o p q id _ (h.below q0)).mono ?_
  rintro r w2 ⟨rfl, hb2⟩
  rw [HA.out]
  have HB := hide (gr_trans q0 hb2)
  clear hb2 x0 x1
  go_wp2
  go_ret
  exact ⟨rfl, HB.out⟩
 | some k =>
  obtain ⟨x, hx, -, hf⟩ := rowIdx_some hr
  rw [show shownTag v id port = if bitOf x.b port then 0 else id by unfold shownTag; rw [hf]]
  generalize hBB : bitOf x.b port = BB
  have HBB := hide hBB
  have HA := hide (rowAt_yes hr)
  have hkn : k < n := by have := (List.getElem?_eq_some_iff.1 hx).1; have := hsz.out; omega
  have hneg : ¬ ((k : Int) < 0) := by omega
  have i1 : (0 : Int) ≤ (k : Int) := by omega
  have i2 : (k : Int) < (n : Int) := by omega
  clear hr hf hBB
  go_enter Tryz.func125, Tryz.ntmps125
  go_wp2_with fail
  refine (specRowAt_any a n c v.rows o p q id _ (h.below q0)).mono ?_
  rintro r w2 ⟨rfl, hb2⟩
  rw [HA.out]
  obtain ⟨y, b, off, hy, rfl, c0, c1, c2⟩ := vrow_at (h.below (gr_trans q0 hb2)) k hkn
  rw [hx] at hy
  cases hy
  obtain ⟨y0, y1⟩ := box_two hw1 hb2
  have HB := hide (gr_trans q0 hb2)
  clear hb2 x0 x1 hx
  go_wp2_with fail
  refine (specBit_any x.b port _).mono ?_
  rintro e w4 ⟨rfl, e4⟩
  obtain rfl := e4.symm
  rw [HBB.out]
  cases BB
  ·go_wp2
   go_ret
   exact ⟨rfl, HB.out⟩
  ·go_wp2
   go_ret
   exact ⟨rfl, HB.out⟩

def mayB (B : BR) (k : Nat) (id : Int) : Int := bits .andNot .i64 (bits .and .i64 (sendsOf B.id B.ports) (egressOf B.v id)) (2 ^ k)
def toB (F : List FE) (id d : Int) : Int := if d = 0 then -1 else lookUp F id d
def waysB (B : BR) (k : Nat) (id d : Int) (F : List FE) : Int := if 0 ≤ toB F id d then bits .and .i64 (mayB B k id) (2 ^ (toB F id d).toNat) else mayB B k id

def outTo (v : VT) (id m d s : Int) (z : List Int) : Nat → List OD
 | 0 => []
 | i + 1 => outTo v id m d s z i ++ (if bitOf m (i : Int) = true then [⟨(i : Int), d, s, shownTag v id (i : Int), z⟩] else [])

def letB (B : BR) (port t : Int) : Bool := bitOf (sendsOf B.id B.ports) port && (classOf B.v port t).2

def fwdB (B : BR) (port d s t : Int) (n : Nat) : BR :=
 if (thereB B port && okF d s t n) = true then
  if letB B port t = true then { B with f := learnF B.f (classOf B.v port t).1 s port, vers := oneMore B.vers } else { B with drops := oneMore B.drops }
 else B

def fwdO (B : BR) (port d s t : Int) (n : Nat) (z : List Int) : List OD :=
 if (thereB B port && okF d s t n) = true then
  if letB B port t = true then outTo B.v (classOf B.v port t).1 (waysB B port.toNat (classOf B.v port t).1 d (learnF B.f (classOf B.v port t).1 s port)) d s z B.ports.length else []
 else []

theorem i64_bv (x : BitVec 64) : I64 x.toInt := by
 have h1 := BitVec.toInt_lt (x := x)
 have h2 := BitVec.le_toInt (x := x)
 unfold I64
 omega

theorem i64_and (a b : Int) : I64 (bits .and .i64 a b) := by rw [bits_and]; exact i64_bv _
theorem i64_andNot (a b : Int) : I64 (bits .andNot .i64 a b) := by rw [bits_andNot]; exact i64_bv _

theorem bit_get (n : Int) (k : Nat) (hk : k ≤ 7) (hn : I64 n) : bitOf n (k : Int) = (BitVec.ofInt 64 n).getLsbD k := by
 rw [bitOf_in hk, ← bit_same n k (by omega) hn, bits_and]
 have e : BitVec.ofInt 64 (2 ^ k) = BitVec.twoPow 64 k := by
  rcases (show k = 0 ∨ k = 1 ∨ k = 2 ∨ k = 3 ∨ k = 4 ∨ k = 5 ∨ k = 6 ∨ k = 7 by omega) with rfl | rfl | rfl | rfl | rfl | rfl | rfl | rfl <;> rfl
 rw [e, BitVec.and_twoPow]
 cases h : (BitVec.ofInt 64 n).getLsbD k
 ·simp
 ·simp only [if_true, bne_iff_ne, ne_eq]
  rcases (show k = 0 ∨ k = 1 ∨ k = 2 ∨ k = 3 ∨ k = 4 ∨ k = 5 ∨ k = 6 ∨ k = 7 by omega) with rfl | rfl | rfl | rfl | rfl | rfl | rfl | rfl <;> decide

theorem ofInt_toInt (x : BitVec 64) : BitVec.ofInt 64 x.toInt = x := by
 apply BitVec.toInt_inj.1
 exact toInt_of _ (i64_bv x)

theorem bit_and (a b : Int) (k : Nat) (hk : k ≤ 7) (ha : I64 a) (hb : I64 b) : bitOf (bits .and .i64 a b) (k : Int) = (bitOf a (k : Int) && bitOf b (k : Int)) := by
 rw [bit_get _ k hk (i64_and a b), bit_get a k hk ha, bit_get b k hk hb, bits_and, ofInt_toInt, BitVec.getLsbD_and]

theorem bit_andNot (a b : Int) (k : Nat) (hk : k ≤ 7) (ha : I64 a) (hb : I64 b) : bitOf (bits .andNot .i64 a b) (k : Int) = (bitOf a (k : Int) && !bitOf b (k : Int)) := by
 rw [bit_get _ k hk (i64_andNot a b), bit_get a k hk ha, bit_get b k hk hb, bits_andNot, ofInt_toInt, BitVec.getLsbD_and, BitVec.getLsbD_not]
 have : k < 64 := by omega
 simp [this]

theorem bit_pow8 : ∀ k i : Fin 8, bitOf (2 ^ k.val) (i.val : Int) = decide (i.val = k.val) := by decide +kernel

theorem bit_pow (k i : Nat) (hk : k ≤ 7) (hi : i ≤ 7) : bitOf (2 ^ k) (i : Int) = decide (i = k) := bit_pow8 ⟨k, by omega⟩ ⟨i, by omega⟩

theorem i64_pow (k : Nat) (hk : k ≤ 7) : I64 (2 ^ k) := by
 unfold I64
 rcases (show k = 0 ∨ k = 1 ∨ k = 2 ∨ k = 3 ∨ k = 4 ∨ k = 5 ∨ k = 6 ∨ k = 7 by omega) with rfl | rfl | rfl | rfl | rfl | rfl | rfl | rfl <;> decide

theorem six_rng : ∀ b0 b1 b2 b3 b4 b5 : Bool, ∀ n : Fin 7, 0 ≤ sendsB (six b0 b1 b2 b3 b4 b5) n.val ∧ sendsB (six b0 b1 b2 b3 b4 b5) n.val ≤ 63 := by
 decide +kernel

theorem six_of (f : Nat → Bool) (n : Nat) (hn : n ≤ 6) : sendsB f n = sendsB (six (f 0) (f 1) (f 2) (f 3) (f 4) (f 5)) n := by
 refine sendsB_cut f _ n (fun j hj => ?_)
 rcases (show j = 0 ∨ j = 1 ∨ j = 2 ∨ j = 3 ∨ j = 4 ∨ j = 5 by omega) with rfl | rfl | rfl | rfl | rfl | rfl <;> rfl

theorem sends_rng (id : Int) (l : List PT) : 0 ≤ sendsOf id l ∧ sendsOf id l ≤ 63 := by
 unfold sendsOf
 rw [sends_is, six_of _ _ (by omega)]
 exact six_rng _ _ _ _ _ _ ⟨min l.length 6, by omega⟩

theorem sends_i64 (id : Int) (l : List PT) : I64 (sendsOf id l) := by
 have := sends_rng id l
 unfold I64
 omega

theorem sends_out (id : Int) (l : List PT) (i : Nat) (hi : l.length ≤ i) (h6 : i < 6) : bitOf (sendsOf id l) (i : Int) = false := by
 unfold sendsOf
 rw [sends_is, six_of _ _ (by omega)]
 have h := six_bits (decide (roleOf id l ((0 : Nat) : Int) ≤ 2)) (decide (roleOf id l ((1 : Nat) : Int) ≤ 2)) (decide (roleOf id l ((2 : Nat) : Int) ≤ 2)) (decide (roleOf id l ((3 : Nat) : Int) ≤ 2)) (decide (roleOf id l ((4 : Nat) : Int) ≤ 2)) (decide (roleOf id l ((5 : Nat) : Int) ≤ 2)) ⟨min l.length 6, by omega⟩ ⟨i, h6⟩
 rw [h]
 rw [decide_eq_false (show ¬ i < min l.length 6 by omega), Bool.false_and]

theorem may_bit (B : BR) (k : Nat) (id : Int) (i : Nat) (hi : i ≤ 7) (hk : k ≤ 7) (hv : I64 (egressOf B.v id)) : bitOf (mayB B k id) (i : Int) = (bitOf (sendsOf B.id B.ports) (i : Int) && bitOf (egressOf B.v id) (i : Int) && !decide (i = k)) := by
 unfold mayB
 rw [bit_andNot _ _ i hi (i64_and _ _) (i64_pow k hk), bit_and _ _ i hi (sends_i64 _ _) hv, bit_pow k i hk hi]

theorem may_i64 (B : BR) (k : Nat) (id : Int) : I64 (mayB B k id) := i64_andNot _ _

theorem ways_i64 (B : BR) (k : Nat) (id d : Int) (F : List FE) : I64 (waysB B k id d F) := by
 unfold waysB
 split
 ·exact i64_and _ _
 ·exact may_i64 B k id

theorem look_rng {F : List FE} (h : fdbOk F = true) (id d : Int) : -1 ≤ lookUp F id d ∧ lookUp F id d ≤ 7 := by
 unfold lookUp
 cases hl : lookE F id d with
 | none => simp
 | some e =>
  have hm : e ∈ F := by
   unfold lookE at hl
   exact List.mem_of_find?_eq_some hl
  have := (entOk_iff e).1 ((((fdbOk_iff F).1 h).1).1 e hm)
  simp only
  omega

theorem to_rng {F : List FE} (h : fdbOk F = true) (id d : Int) : -1 ≤ toB F id d ∧ toB F id d ≤ 7 := by
 unfold toB
 split
 ·omega
 ·exact look_rng h id d

theorem ways_bit (B : BR) (k : Nat) (id d : Int) (F : List FE) (hF : fdbOk F = true) (i : Nat) (hi : i ≤ 7) : bitOf (waysB B k id d F) (i : Int) = (bitOf (mayB B k id) (i : Int) && (decide (toB F id d < 0) || decide (toB F id d = (i : Int)))) := by
 have hr := to_rng hF id d
 unfold waysB
 by_cases h0 : 0 ≤ toB F id d
 ·obtain ⟨t, ht⟩ : ∃ t : Nat, toB F id d = (t : Int) := ⟨(toB F id d).toNat, by omega⟩
  rw [if_pos h0, ht, Int.toNat_natCast, bit_and _ _ i hi (may_i64 B k id) (i64_pow t (by omega)), bit_pow t i (by omega) hi, decide_eq_false (show ¬ (t : Int) < 0 by omega), Bool.false_or]
  congr 1
  rw [Bool.eq_iff_iff]
  simp only [decide_eq_true_eq]
  omega
 ·rw [if_neg h0, decide_eq_true (show toB F id d < 0 by omega), Bool.true_or, Bool.and_true]

theorem outTo_more (v : VT) (id m d s : Int) (z : List Int) (n : Nat) : ∀ j, (∀ i, n ≤ i → i < n + j → bitOf m (i : Int) = false) → outTo v id m d s z (n + j) = outTo v id m d s z n
 | 0, _ => rfl
 | j + 1, h => by
  rw [← Nat.add_assoc, outTo, h (n + j) (by omega) (by omega), outTo_more v id m d s z n j (fun i h1 h2 => h i h1 (by omega))]
  simp

theorem out_six (B : BR) (k : Nat) (id d s : Int) (z : List Int) (F : List FE) (hF : fdbOk F = true) (hk : k ≤ 7) (hv : I64 (egressOf B.v id)) (hn : B.ports.length ≤ 6) : outTo B.v id (waysB B k id d F) d s z 6 = outTo B.v id (waysB B k id d F) d s z B.ports.length := by
 have := outTo_more B.v id (waysB B k id d F) d s z B.ports.length (6 - B.ports.length) (fun i h1 h2 => by
  rw [ways_bit B k id d F hF i (by omega), may_bit B k id i (by omega) hk hv, sends_out B.id B.ports i h1 (by omega)]
  simp)
 rw [← this]
 congr 1
 omega

theorem outTo_len (v : VT) (id m d s : Int) (z : List Int) : ∀ n, (outTo v id m d s z n).length ≤ n
 | 0 => Nat.le_refl _
 | n + 1 => by
  have := outTo_len v id m d s z n
  rw [outTo, List.length_append]
  split <;> simp <;> omega

theorem fwdO_len (B : BR) (port d s t : Int) (n : Nat) (z : List Int) : (fwdO B port d s t n z).length ≤ 6 := by
 unfold fwdO
 split
 ·rename_i h
  split
  ·have h1 := outTo_len B.v (classOf B.v port t).1 (waysB B port.toNat (classOf B.v port t).1 d (learnF B.f (classOf B.v port t).1 s port)) d s z B.ports.length
   have h2 := (ok_bounds (there_ok (Bool.and_eq_true_iff.1 h).1)).1
   omega
  ·simp
 ·simp

theorem outTo_z (v : VT) (id m d s : Int) (z : List Int) : ∀ n, ∀ x ∈ outTo v id m d s z n, x.z = z
 | 0 => by intro x hx; cases hx
 | n + 1 => by
  intro x hx
  rw [outTo] at hx
  rcases List.mem_append.1 hx with h | h
  ·exact outTo_z v id m d s z n x h
  ·split at h
   ·rw [List.mem_singleton] at h; subst h; rfl
   ·cases h

theorem fwdO_z (B : BR) (port d s t : Int) (n : Nat) (z : List Int) : ∀ x ∈ fwdO B port d s t n z, x.z = z := by
 unfold fwdO
 split
 ·split
  ·exact outTo_z _ _ _ _ _ _ _
  ·intro x hx; cases hx
 ·intro x hx; cases hx

theorem fwdB_len (B : BR) (port d s t : Int) (n : Nat) : (fwdB B port d s t n).ports = B.ports ∧ (fwdB B port d s t n).v = B.v ∧ (fwdB B port d s t n).f.length ≤ B.f.length + 1 := by
 unfold fwdB
 split
 ·split
  ·exact ⟨rfl, rfl, learn_len _ _ _ _⟩
  ·exact ⟨rfl, rfl, by simp⟩
 ·exact ⟨rfl, rfl, by simp⟩

end Go.Proofs.YtddalpglihhipaaGreat
