/-
  Packed: BrNewS BrBuild NetBeside NetUp NetUpI UpA.
-/
import Derived.Test.YtnichegfadgpdaaPUKW
import Derived.Test.YtnichegfadgpdaaPUBrOkS
import Derived.Test.YtnichegfadgpdaaPUK01
import Derived.Test.YtnichegfadgpdaaPUK02
import Derived.Test.YtnichegfadgpdaaPUK03
import Derived.Test.YtnichegfadgpdaaPUK06
import Derived.Deep.RegionHeld3
namespace Go.Proofs.Ytnichegfadgpdaa
open Go.RowKit

theorem BrOwn.boxed11 {w : World} {base : Nat} {a : Option Addr} {n c : Nat} {fa : Option Addr} {fn fc : Nat} {ra : Option Addr} {rn rc : Nat} {oa : Option Addr} {on oc : Nat} {B : BR} (h : BrOwn w base a n c fa fn fc ra rn rc oa on oc B) {X : Nat} {cs : Array Value} (hX : w.heap[X]? = some (.cells cs 62)) (u0 u1 u2 u3 u4 u5 u6 u7 u8 u9 u10 : Value) : BrOwn (((((((((((w.setCell ⟨X, 0, none⟩ u0).setCell ⟨X, 1, none⟩ u1).setCell ⟨X, 2, none⟩ u2).setCell ⟨X, 3, none⟩ u3).setCell ⟨X, 4, none⟩ u4).setCell ⟨X, 5, none⟩ u5).setCell ⟨X, 6, none⟩ u6).setCell ⟨X, 7, none⟩ u7).setCell ⟨X, 8, none⟩ u8).setCell ⟨X, 9, none⟩ u9).setCell ⟨X, 10, none⟩ u10) base a n c fa fn fc ra rn rc oa on oc B :=
 (BrOwn.boxed (BrOwn.boxed (BrOwn.boxed (BrOwn.boxed (BrOwn.boxed (BrOwn.boxed (BrOwn.boxed (BrOwn.boxed (BrOwn.boxed (BrOwn.boxed (BrOwn.boxed h hX 0 u0) (box11 hX 0 u0) 1 u1) (box11 (box11 hX 0 u0) 1 u1) 2 u2) (box11 (box11 (box11 hX 0 u0) 1 u1) 2 u2) 3 u3) (box11 (box11 (box11 (box11 hX 0 u0) 1 u1) 2 u2) 3 u3) 4 u4) (box11 (box11 (box11 (box11 (box11 hX 0 u0) 1 u1) 2 u2) 3 u3) 4 u4) 5 u5) (box11 (box11 (box11 (box11 (box11 (box11 hX 0 u0) 1 u1) 2 u2) 3 u3) 4 u4) 5 u5) 6 u6) (box11 (box11 (box11 (box11 (box11 (box11 (box11 hX 0 u0) 1 u1) 2 u2) 3 u3) 4 u4) 5 u5) 6 u6) 7 u7) (box11 (box11 (box11 (box11 (box11 (box11 (box11 (box11 hX 0 u0) 1 u1) 2 u2) 3 u3) 4 u4) 5 u5) 6 u6) 7 u7) 8 u8) (box11 (box11 (box11 (box11 (box11 (box11 (box11 (box11 (box11 hX 0 u0) 1 u1) 2 u2) 3 u3) 4 u4) 5 u5) 6 u6) 7 u7) 8 u8) 9 u9) (box11 (box11 (box11 (box11 (box11 (box11 (box11 (box11 (box11 (box11 hX 0 u0) 1 u1) 2 u2) 3 u3) 4 u4) 5 u5) 6 u6) 7 u7) 8 u8) 9 u9) 10 u10)

theorem below_set11 {K : Nat} {a w : World} (h : Below K a w) {g : Nat} (hB : K ≤ g) (u0 u1 u2 u3 u4 u5 u6 u7 u8 u9 u10 : Value) : Below K a (((((((((((w.setCell ⟨g, 0, none⟩ u0).setCell ⟨g, 1, none⟩ u1).setCell ⟨g, 2, none⟩ u2).setCell ⟨g, 3, none⟩ u3).setCell ⟨g, 4, none⟩ u4).setCell ⟨g, 5, none⟩ u5).setCell ⟨g, 6, none⟩ u6).setCell ⟨g, 7, none⟩ u7).setCell ⟨g, 8, none⟩ u8).setCell ⟨g, 9, none⟩ u9).setCell ⟨g, 10, none⟩ u10) :=
 (below_set (below_set (below_set (below_set (below_set (below_set (below_set (below_set (below_set (below_set (below_set h hB 0 u0) hB 1 u1) hB 2 u2) hB 3 u3) hB 4 u4) hB 5 u5) hB 6 u6) hB 7 u7) hB 8 u8) hB 9 u9) hB 10 u10)

structure BcSt (w wr : World) (R X : Nat) (cs : Array Value) : Prop where
 box : wr.heap[X]? = some (.cells cs 62)
 res : wr.heap[R]? = some (.cells #[.int .i64 0, .string ⟨#[]⟩, .slice none 0 0, .slice none 0 0, .slice none 0 0, .slice none 0 0, .int .i64 0, .int .i64 0, .int .i64 0, .int .i64 0, .int .i64 0] 62)
 below : Below w.heap.size w wr
 hX : w.heap.size ≤ X
 hR : w.heap.size ≤ R
 ne : R ≠ X

theorem BcSt.later {w wr wx : World} {R X : Nat} {cs : Array Value} (h : BcSt w wr R X cs) (hb : Below wr.heap.size wr wx) : BcSt w wx R X cs :=
 ⟨kept_block h.box hb, kept_block h.res hb, gr_trans h.below hb, h.hX, h.hR, h.ne⟩

theorem BcSt.put {w wr : World} {R X : Nat} {cs : Array Value} (h : BcSt w wr R X cs) (j : Nat) (u : Value) {cs' : Array Value} (he : cs.setIfInBounds j u = cs') : BcSt w (wr.setCell ⟨X, j, none⟩ u) R X cs' :=
 ⟨by rw [← he]; exact box11 h.box j u, kept_set h.res h.ne, below_set h.below h.hX j u, h.hX, h.hR, h.ne⟩

theorem BcSt.grown {w wr wx : World} {R X : Nat} {cs : Array Value} (h : BcSt w wr R X cs) {base k : Nat} {e : TypeId} {v : Value} {n : Nat} {xs : List Value} (ho : wr.ownsRow base e k v n xs) (hne : (e : Nat) ≠ 62) (hg : wr.grownBy wx v.ownBlock) (hb : Below w.heap.size wr wx) : BcSt w wx R X cs :=
 ⟨kept_grown h.box hg (fun i e => box_ne ho h.box hne i e), kept_grown h.res hg (fun i e => box_ne ho h.res hne i e), h.below.trans hb, h.hX, h.hR, h.ne⟩

theorem BcSt.stay {w wr : World} {R X : Nat} {cs : Array Value} (h : BcSt w wr R X cs) {base k : Nat} {e : TypeId} {v : Value} {n : Nat} {xs : List Value} (ho : wr.ownsRow base e k v n xs) (hne : (e : Nat) ≠ 62) (j : Nat) (u : Value) : (wr.setCell ⟨X, j, none⟩ u).ownsRow base e k v n xs :=
 gown_other ho (grown_set (rb := X) j u) (box_ne ho h.box hne)

theorem BcSt.out {w wr : World} {R X : Nat} {cs : Array Value} (h : BcSt w wr R X cs) {base : Nat} {a : Option Addr} {n c : Nat} {fa : Option Addr} {fn fc : Nat} {ra : Option Addr} {rn rc : Nat} {oa : Option Addr} {on oc : Nat} {B : BR} (ho : BrOwn wr base a n c fa fn fc ra rn rc oa on oc B) (u0 u1 u2 u3 u4 u5 u6 u7 u8 u9 u10 : Value) : BrOwn (((((((((((wr.setCell ⟨R, 0, none⟩ u0).setCell ⟨R, 1, none⟩ u1).setCell ⟨R, 2, none⟩ u2).setCell ⟨R, 3, none⟩ u3).setCell ⟨R, 4, none⟩ u4).setCell ⟨R, 5, none⟩ u5).setCell ⟨R, 6, none⟩ u6).setCell ⟨R, 7, none⟩ u7).setCell ⟨R, 8, none⟩ u8).setCell ⟨R, 9, none⟩ u9).setCell ⟨R, 10, none⟩ u10) base a n c fa fn fc ra rn rc oa on oc B ∧ Below w.heap.size w (((((((((((wr.setCell ⟨R, 0, none⟩ u0).setCell ⟨R, 1, none⟩ u1).setCell ⟨R, 2, none⟩ u2).setCell ⟨R, 3, none⟩ u3).setCell ⟨R, 4, none⟩ u4).setCell ⟨R, 5, none⟩ u5).setCell ⟨R, 6, none⟩ u6).setCell ⟨R, 7, none⟩ u7).setCell ⟨R, 8, none⟩ u8).setCell ⟨R, 9, none⟩ u9).setCell ⟨R, 10, none⟩ u10) :=
 ⟨ho.boxed11 h.res u0 u1 u2 u3 u4 u5 u6 u7 u8 u9 u10, below_set11 h.below h.hR u0 u1 u2 u3 u4 u5 u6 u7 u8 u9 u10⟩

theorem cells4n {w : World} {g : Nat} {T : TypeId} {c0 c1 c2 c3 : Value} (h : w.heap[g]? = some (.cells #[c0, c1, c2, c3] T)) : w.cell? ⟨g, 0, none⟩ = some c0 ∧ w.cell? ⟨g, 1, none⟩ = some c1 ∧ w.cell? ⟨g, 2, none⟩ = some c2 ∧ w.cell? ⟨g, 3, none⟩ = some c3 := by
 simp [World.cell?, h]

theorem cells2n {w : World} {g : Nat} {T : TypeId} {c0 c1 : Value} (h : w.heap[g]? = some (.cells #[c0, c1] T)) : w.cell? ⟨g, 0, none⟩ = some c0 ∧ w.cell? ⟨g, 1, none⟩ = some c1 := by
 simp [World.cell?, h]

theorem cells3m {w : World} {g : Nat} {T : TypeId} {c0 c1 c2 : Value} (h : w.heap[g]? = some (.cells #[c0, c1, c2] T)) : w.cell? ⟨g, 0, none⟩ = some c0 ∧ w.cell? ⟨g, 1, none⟩ = some c1 ∧ w.cell? ⟨g, 2, none⟩ = some c2 := by
 simp [World.cell?, h]

set_option maxRecDepth 100000 in
set_option maxHeartbeats 1000000 in
theorem endsOf_any (x : LK) (w : World) : Calls Try.prog 40 #[.agg #[.int .i64 x.a, .int .i64 x.p, .int .i64 x.b, .int .i64 x.q]] w fun e w' => e = .returned (.agg #[.int .i64 x.a, .int .i64 x.p, .int .i64 x.b, .int .i64 x.q]) ∧ Below w.heap.size w w' := by
 go_enter Try.func40, Try.ntmps40
 go_wp2
 exact bodyPost_ret (v := .agg #[.int .i64 x.a, .int .i64 x.p, .int .i64 x.b, .int .i64 x.q]) (by simp [results, Try.results40, go_sem, *]) rfl ⟨rfl, below_two _ _ _⟩

abbrev q1 : Oper := ⟨some 10, .move (.tmp 5), 63, "l13_net.go:99", #[], none⟩
abbrev q2 : Oper := ⟨some 11, .binOp .eql 63 (.tmp 10) (.const (.pointer none)) 63, 4, "l13_net.go:99", #[⟨0, .data⟩], none⟩
abbrev q3 : Oper := ⟨some 12, .move (.tmp 11), 4, "l13_net.go:99", #[⟨1, .data⟩], none⟩
abbrev q4 : Oper := ⟨some 13, .move (.tmp 5), 63, "l13_net.go:99", #[⟨2, .guard⟩], some (2, false)⟩
abbrev q5 : Oper := ⟨some 14, .nilCheck (.tmp 13), 0, "l13_net.go:99", #[⟨3, .data⟩, ⟨2, .guard⟩], some (2, false)⟩
abbrev q6 : Oper := ⟨some 15, .fieldAddr 62 (.tmp 14) 2, 0, "l13_net.go:99", #[⟨4, .data⟩, ⟨2, .guard⟩], some (2, false)⟩
abbrev q7 : Oper := ⟨some 16, .load 56 (.tmp 15), 56, "l13_net.go:99", #[⟨5, .data⟩, ⟨2, .guard⟩], some (2, false)⟩
abbrev q8 : Oper := ⟨some 17, .fieldAddr 89 (.tmp 3) 1, 0, "l13_net.go:99", #[⟨2, .guard⟩], some (2, false)⟩
abbrev q9 : Oper := ⟨some 18, .load 3 (.tmp 17), 3, "l13_net.go:99", #[⟨7, .data⟩, ⟨2, .guard⟩], some (2, false)⟩
abbrev q10 : Oper := ⟨some 19, .call ⟨.value (.func 62), #[.tmp 16, .tmp 18], #[120, 3]⟩, 4, "l13_net.go:99", #[⟨6, .data⟩, ⟨8, .data⟩, ⟨2, .chain⟩, ⟨2, .guard⟩], some (2, false)⟩
abbrev q11 : Oper := ⟨some 20, .unOp .not 4 (.tmp 19), 4, "l13_net.go:99", #[⟨9, .data⟩, ⟨2, .guard⟩], some (2, false)⟩
abbrev q12 : Oper := ⟨some 21, .pick (.tmp 12) (.const (.bool true)) (.tmp 20), 4, "l13_net.go:99", #[⟨2, .data⟩, ⟨10, .data⟩], none⟩

def portOf (bs : List BR) (b p : Int) : Option PT := if 0 ≤ b ∧ 0 ≤ p then (bs[b.toNat]?).bind (fun B => B.ports[p.toNat]?) else none
def upAt (bs : List BR) (b p : Int) : Bool := match portOf bs b p with
 | some x => x.up
 | none => false
def linkUp (bs : List BR) (ls : List LK) (k : Int) : Bool := if 0 ≤ k then (match ls[k.toNat]? with
 | some x => upAt bs x.a x.p && upAt bs x.b x.q
 | none => false) else false

theorem brs_at {N : NV} {k : Nat} {x : BV} (h : N.bs[k]? = some x) : N.brs[k]? = some x.B := by unfold NV.brs; rw [List.getElem?_map, h]; rfl
theorem brs_len (N : NV) : N.brs.length = N.bs.length := by unfold NV.brs; simp

theorem port_no {bs : List BR} {b p : Int} (h : (decide (0 ≤ b) && decide (b ≤ (bs.length : Int) - 1)) = false) : portOf bs b p = none := by
 unfold portOf
 split
 ·rename_i hc
  rw [List.getElem?_eq_none (by simp at h; omega)]
  rfl
 ·rfl
theorem port_at {bs : List BR} {k : Nat} {B : BR} (h : bs[k]? = some B) (p : Int) : portOf bs (k : Int) p = if 0 ≤ p then B.ports[p.toNat]? else none := by
 unfold portOf
 by_cases hp : 0 ≤ p
 ·rw [if_pos ⟨by omega, hp⟩, if_pos hp, Int.toNat_natCast, h]; rfl
 ·rw [if_neg (fun hc => hp hc.2), if_neg hp]
theorem port_out {bs : List BR} {k : Nat} {B : BR} (h : bs[k]? = some B) {p : Int} (hp : (decide (0 ≤ p) && decide (p ≤ (B.ports.length : Int) - 1)) = false) : portOf bs (k : Int) p = none := by
 rw [port_at h]
 split
 ·exact List.getElem?_eq_none (by simp at hp; omega)
 ·rfl
theorem port_in {bs : List BR} {k : Nat} {B : BR} (h : bs[k]? = some B) {j : Nat} {y : PT} (hy : B.ports[j]? = some y) : portOf bs (k : Int) (j : Int) = some y := by
 rw [port_at h, if_pos (by omega), Int.toNat_natCast, hy]

set_option maxRecDepth 100000 in
set_option maxHeartbeats 4000000 in
theorem specUp_any (N : NV) (b p : Int) (w : World) (h : NetRow w N) :
  Calls Try.prog 35 #[.agg #[.slice N.ba N.bn N.bc, .slice N.la N.ln N.lc, .slice N.sa N.sn N.sc], .int .i64 b, .int .i64 p] w fun e w' => e = .returned (.bool (upAt N.brs b p)) ∧ Below w.heap.size w w' := by
 have hle := Nat.le_trans h.b.le h.b.top
 unfold maxLen at hle
 have hsz := h.b.size
 generalize hG : upAt N.brs b p = U
 have HG := hide hG
 clear hG
 generalize hw1 : w.alloc (Obj.cells #[.slice N.ba N.bn N.bc, .slice N.la N.ln N.lc, .slice N.sa N.sn N.sc] 34) = w1
 have b01 : Below w.heap.size w w1 := by rw [← hw1]; exact below_one _ _
 have k1 : w1.heap[w.heap.size]? = some (.cells #[.slice N.ba N.bn N.bc, .slice N.la N.ln N.lc, .slice N.sa N.sn N.sc] 34) := by rw [← hw1]; exact block_last _ _
 obtain ⟨x0, x1, x2⟩ := cells3m k1
 cases hA : (decide (0 ≤ b) && decide (b ≤ (N.bn : Int) - 1))
 ·have HF : Hid (U = false) := hide (by rw [← HG.out]; unfold upAt; rw [port_no (by rw [brs_len, hsz]; exact hA)])
  go_enter Try.func35, Try.ntmps35
  go_wp2_with fail
  refine (within_any b 0 ((N.bn : Int) - 1) _).mono ?_
  rintro e w2 ⟨rfl, ew⟩
  obtain rfl := ew.symm
  rw [hA]
  clear hA
  go_wp2
  go_ret
  exact ⟨by rw [HF.out]; rfl, b01⟩
 ·obtain ⟨k, rfl⟩ : ∃ k : Nat, b = (k : Int) := ⟨b.toNat, by simp at hA; omega⟩
  have hk : k < N.bn := by simp at hA; omega
  obtain ⟨x, bb, off, hx, hba, c0, c1, c2, c3, c4, c5, c6, c7, c8, c9, c10⟩ := br_at (h.b.below b01) k hk
  have hm := List.mem_of_getElem? hx
  have hr := (h.item x hm).below b01
  have hpl := Nat.le_trans hr.ports.le hr.ports.top
  unfold maxLen at hpl
  have i1 : (0 : Int) ≤ (k : Int) := by omega
  have i2 : (k : Int) < (N.bn : Int) := by omega
  have HX := hide (brs_at hx)
  clear hx hm
  rw [hba] at x0
  cases hB : (decide (0 ≤ p) && decide (p ≤ (x.n : Int) - 1))
  ·have HF : Hid (U = false) := hide (by rw [← HG.out]; unfold upAt; rw [port_out HX.out (by rw [hr.ports.size]; exact hB)])
   clear hba
   go_enter Try.func35, Try.ntmps35
   go_wp2_with fail
   refine (within_any (k : Int) 0 ((N.bn : Int) - 1) _).mono ?_
   rintro e w2 ⟨rfl, ew⟩
   obtain rfl := ew.symm
   rw [hA]
   clear hA
   go_wp2_with fail
   refine (within_any p 0 ((x.n : Int) - 1) _).mono ?_
   rintro e w2 ⟨rfl, ew⟩
   obtain rfl := ew.symm
   rw [hB]
   clear hB
   go_wp2
   go_ret
   exact ⟨by rw [HF.out]; rfl, b01⟩
  ·obtain ⟨j, rfl⟩ : ∃ j : Nat, p = (j : Int) := ⟨p.toNat, by simp at hB; omega⟩
   have hj : j < x.n := by simp at hB; omega
   obtain ⟨y, pb, po, hy, hpa, d0, -⟩ := pt_at hr.ports j hj
   have HF : Hid (U = y.up) := hide (by rw [← HG.out]; unfold upAt; rw [port_in HX.out hy])
   have i3 : (0 : Int) ≤ (j : Int) := by omega
   have i4 : (j : Int) < (x.n : Int) := by omega
   rw [hpa] at c2
   clear hba hpa
   go_enter Try.func35, Try.ntmps35
   go_wp2_with fail
   refine (within_any (k : Int) 0 ((N.bn : Int) - 1) _).mono ?_
   rintro e w2 ⟨rfl, ew⟩
   obtain rfl := ew.symm
   rw [hA]
   clear hA
   go_wp2_with fail
   refine (within_any (j : Int) 0 ((x.n : Int) - 1) _).mono ?_
   rintro e w2 ⟨rfl, ew⟩
   obtain rfl := ew.symm
   rw [hB]
   clear hB
   go_wp2
   go_ret
   exact ⟨by rw [HF.out]; rfl, b01⟩

set_option maxRecDepth 100000 in
set_option maxHeartbeats 4000000 in
theorem specLinkUp_any (N : NV) (k : Int) (w : World) (h : NetRow w N) :
  Calls Try.prog 19 #[.agg #[.slice N.ba N.bn N.bc, .slice N.la N.ln N.lc, .slice N.sa N.sn N.sc], .int .i64 k] w fun e w' => e = .returned (.bool (linkUp N.brs N.ls k)) ∧ Below w.heap.size w w' := by
 have hle := Nat.le_trans h.l.le h.l.top
 unfold maxLen at hle
 have hsz := h.l.size
 generalize hG : linkUp N.brs N.ls k = U
 have HG := hide hG
 clear hG
 generalize hw1 : w.alloc (Obj.cells #[.slice N.ba N.bn N.bc, .slice N.la N.ln N.lc, .slice N.sa N.sn N.sc] 34) = w1
 have b01 : Below w.heap.size w w1 := by rw [← hw1]; exact below_one _ _
 have k1 : w1.heap[w.heap.size]? = some (.cells #[.slice N.ba N.bn N.bc, .slice N.la N.ln N.lc, .slice N.sa N.sn N.sc] 34) := by rw [← hw1]; exact block_last _ _
 obtain ⟨x0, x1, x2⟩ := cells3m k1
 cases hA : (decide (0 ≤ k) && decide (k ≤ (N.ln : Int) - 1))
 ·have HF : Hid (U = false) := hide (by
   rw [← HG.out]
   unfold linkUp
   split
   ·rw [List.getElem?_eq_none (by simp at hA; omega)]
   ·rfl)
  go_enter Try.func19, Try.ntmps19
  go_wp2_with fail
  refine (within_any k 0 ((N.ln : Int) - 1) _).mono ?_
  rintro e w2 ⟨rfl, ew⟩
  obtain rfl := ew.symm
  rw [hA]
  clear hA
  go_wp2
  go_ret
  exact ⟨by rw [HF.out]; rfl, b01⟩
 ·obtain ⟨j, rfl⟩ : ∃ j : Nat, k = (j : Int) := ⟨k.toNat, by simp at hA; omega⟩
  have hj : j < N.ln := by simp at hA; omega
  obtain ⟨x, lb, off, hx, hla, a0, a1, a2, a3⟩ := link_at (h.l.below b01) j hj
  have HF : Hid (U = (upAt N.brs x.a x.p && upAt N.brs x.b x.q)) := hide (by rw [← HG.out]; unfold linkUp; rw [if_pos (by omega), Int.toNat_natCast, hx])
  have i1 : (0 : Int) ≤ (j : Int) := by omega
  have i2 : (j : Int) < (N.ln : Int) := by omega
  have y1 := x1
  rw [hla] at y1
  clear hx
  have HLA := hide hla
  clear hla x1
  go_enter Try.func19, Try.ntmps19
  go_wp2_with fail
  refine (within_any (j : Int) 0 ((N.ln : Int) - 1) _).mono ?_
  rintro e w2 ⟨rfl, ew⟩
  obtain rfl := ew.symm
  rw [hA]
  clear hA
  generalize hwa : w1.alloc (Obj.cells #[.int .i64 x.a, .int .i64 x.p, .int .i64 x.b, .int .i64 x.q] 75) = wa
  have ba : Below w1.heap.size w1 wa := by rw [← hwa]; exact below_one _ _
  have ka : wa.heap[w1.heap.size]? = some (.cells #[.int .i64 x.a, .int .i64 x.p, .int .i64 x.b, .int .i64 x.q] 75) := by rw [← hwa]; exact block_last _ _
  have kNe := kept_block k1 ba
  have b0a := gr_trans b01 ba
  obtain ⟨z0, z1, z2⟩ := cells3m kNe
  obtain ⟨u0, u1, u2, u3⟩ := cells4n ka
  go_wp2_with fail
  refine (specUp_any N x.a x.p _ (h.below b0a)).mono ?_
  rintro e w3 ⟨rfl, hb3⟩
  have kNe := kept_block kNe hb3
  have ka := kept_block ka hb3
  have b03 := gr_trans b0a hb3
  clear z0 z1 z2 u0 u1 u2 u3 a0 a1 a2 a3 x0 x2 y1 hwa hb3 ba
  generalize hR : w1.heap.size = R at *
  obtain ⟨z0, z1, z2⟩ := cells3m kNe
  obtain ⟨u0, u1, u2, u3⟩ := cells4n ka
  cases hU : upAt N.brs x.a x.p
  ·have HF : Hid (U = false) := hide (by rw [HF.out, hU]; rfl)
   go_wp2
   go_ret
   exact ⟨by rw [HF.out]; rfl, b03⟩
  ·have HF : Hid (U = upAt N.brs x.b x.q) := hide (by rw [HF.out, hU]; rfl)
   go_wp2_with fail
   refine (specUp_any N x.b x.q _ (h.below b03)).mono ?_
   rintro e w4 ⟨rfl, hb4⟩
   have HB := hide (gr_trans b03 hb4)
   clear z0 z1 z2 u0 u1 u2 u3 hb4
   go_wp2
   go_ret
   exact ⟨by rw [HF.out]; rfl, HB.out⟩

theorem implHas13 (a : Option Addr) (n c : Nat) (port : Int) (w : World) (hn : n ≤ 9223372036854775807) :
  Calls Try.prog 62 #[.slice a n c, .int .i64 port] w fun e w' => e = .returned (.bool (decide (0 ≤ port) && decide (port ≤ (n : Int) - 1))) ∧ w' = w := by
 go_enter Try.func62, Try.ntmps62
 go_wp2_with fail
 refine (implWithin_any port 0 ((n : Int) - 1) _).mono ?_
 rintro r w3 ⟨rfl, ew⟩
 obtain rfl := ew.symm
 go_wp2
 go_ret
 exact ⟨rfl, rfl⟩

set_option maxRecDepth 100000 in
set_option maxHeartbeats 1000000 in
theorem bridgeAt_no (N : NV) (b : Int) (w : World) (hle : N.bn ≤ 9223372036854775807) (hA : (decide (0 ≤ b) && decide (b ≤ (N.bn : Int) - 1)) = false) :
  Calls Try.prog 31 #[.agg #[.slice N.ba N.bn N.bc, .slice N.la N.ln N.lc, .slice N.sa N.sn N.sc], .int .i64 b] w fun e w' => e = .returned (.pointer none) ∧ Below w.heap.size w w' := by
 generalize hw1 : w.alloc (Obj.cells #[.slice N.ba N.bn N.bc, .slice N.la N.ln N.lc, .slice N.sa N.sn N.sc] 34) = w1
 have b01 : Below w.heap.size w w1 := by rw [← hw1]; exact below_one _ _
 have k1 : w1.heap[w.heap.size]? = some (.cells #[.slice N.ba N.bn N.bc, .slice N.la N.ln N.lc, .slice N.sa N.sn N.sc] 34) := by rw [← hw1]; exact block_last _ _
 obtain ⟨x0, x1, x2⟩ := cells3m k1
 go_enter Try.func31, Try.ntmps31
 go_wp2_with fail
 refine (implWithin_any b 0 ((N.bn : Int) - 1) _).mono ?_
 rintro e w2 ⟨rfl, ew⟩
 obtain rfl := ew.symm
 rw [hA]
 clear hA
 go_wp2
 go_ret
 exact ⟨rfl, b01⟩

set_option maxRecDepth 100000 in
set_option maxHeartbeats 1000000 in
theorem bridgeAt_yes (N : NV) (k : Nat) (g off : Nat) (w : World) (hle : N.bn ≤ 9223372036854775807) (hk : k < N.bn) (hba : N.ba = some ⟨g, off, none⟩) :
  Calls Try.prog 31 #[.agg #[.slice N.ba N.bn N.bc, .slice N.la N.ln N.lc, .slice N.sa N.sn N.sc], .int .i64 (k : Int)] w fun e w' => e = .returned (.pointer (some ⟨g, off + k * 11, none⟩)) ∧ Below w.heap.size w w' := by
 generalize hw1 : w.alloc (Obj.cells #[.slice N.ba N.bn N.bc, .slice N.la N.ln N.lc, .slice N.sa N.sn N.sc] 34) = w1
 have b01 : Below w.heap.size w w1 := by rw [← hw1]; exact below_one _ _
 have k1 : w1.heap[w.heap.size]? = some (.cells #[.slice N.ba N.bn N.bc, .slice N.la N.ln N.lc, .slice N.sa N.sn N.sc] 34) := by rw [← hw1]; exact block_last _ _
 obtain ⟨x0, x1, x2⟩ := cells3m k1
 have hA : (decide (0 ≤ (k : Int)) && decide ((k : Int) ≤ (N.bn : Int) - 1)) = true := by simp; omega
 have i1 : (0 : Int) ≤ (k : Int) := by omega
 have i2 : (k : Int) < (N.bn : Int) := by omega
 rw [hba] at x0
 clear hba
 go_enter Try.func31, Try.ntmps31
 go_wp2_with fail
 refine (implWithin_any (k : Int) 0 ((N.bn : Int) - 1) _).mono ?_
 rintro e w2 ⟨rfl, ew⟩
 obtain rfl := ew.symm
 rw [hA]
 clear hA
 go_wp2
 go_ret
 exact ⟨rfl, b01⟩

def PtAt (w : World) (v : Option Addr) (o : Option PT) : Prop := match o with
 | none => v = none
 | some y => ∃ g j : Nat, v = some ⟨g, j, none⟩ ∧ w.cell? ⟨g, j, none⟩ = some (.bool y.up)
def PtAll (w : World) (v : Option Addr) (o : Option PT) : Prop := match o with
 | none => v = none
 | some y => ∃ g j : Nat, v = some ⟨g, j, none⟩ ∧ w.cell? ⟨g, j, none⟩ = some (.bool y.up) ∧ w.cell? ⟨g, j + 1, none⟩ = some (.int .i64 y.k) ∧ w.cell? ⟨g, j + 2, none⟩ = some (.bool y.has) ∧ w.cell? ⟨g, j + 3, none⟩ = some (.int .i64 y.v.r) ∧ w.cell? ⟨g, j + 4, none⟩ = some (.int .i64 y.v.c) ∧ w.cell? ⟨g, j + 5, none⟩ = some (.int .i64 y.v.h) ∧ w.cell? ⟨g, j + 6, none⟩ = some (.int .i64 y.v.b) ∧ w.cell? ⟨g, j + 7, none⟩ = some (.int .i64 y.v.p)
theorem PtAll.upAt {w : World} {v : Option Addr} {o : Option PT} (h : PtAll w v o) : PtAt w v o := by
 cases o with
 | none => exact h
 | some y =>
  obtain ⟨g, j, e, c, -⟩ := h
  exact ⟨g, j, e, c⟩

set_option maxRecDepth 100000 in
set_option maxHeartbeats 4000000 in
theorem portAt_all (N : NV) (b p : Int) (w : World) (h : NetRow w N) :
  Calls Try.prog 41 #[.agg #[.slice N.ba N.bn N.bc, .slice N.la N.ln N.lc, .slice N.sa N.sn N.sc], .agg #[.int .i64 b, .int .i64 p]] w fun e w' => ∃ v, e = .returned (.pointer v) ∧ PtAll w v (portOf N.brs b p) ∧ Below w.heap.size w w' := by
 have hle := Nat.le_trans h.b.le h.b.top
 unfold maxLen at hle
 have hsz := h.b.size
 generalize hw1 : w.alloc (Obj.cells #[.slice N.ba N.bn N.bc, .slice N.la N.ln N.lc, .slice N.sa N.sn N.sc] 34) = w1
 generalize hw2 : w1.alloc (Obj.cells #[.int .i64 b, .int .i64 p] 89) = w2
 have b01 : Below w.heap.size w w1 := by rw [← hw1]; exact below_one _ _
 have b12 : Below w1.heap.size w1 w2 := by rw [← hw2]; exact below_one _ _
 have kNe : w2.heap[w.heap.size]? = some (.cells #[.slice N.ba N.bn N.bc, .slice N.la N.ln N.lc, .slice N.sa N.sn N.sc] 34) := kept_block (by rw [← hw1]; exact block_last _ _) b12
 have kE : w2.heap[w1.heap.size]? = some (.cells #[.int .i64 b, .int .i64 p] 89) := by rw [← hw2]; exact block_last _ _
 have b02 := gr_trans b01 b12
 obtain ⟨x0, x1, x2⟩ := cells3m kNe
 obtain ⟨e0, e1⟩ := cells2n kE
 cases hA : (decide (0 ≤ b) && decide (b ≤ (N.bn : Int) - 1))
 ·have HF := hide (port_no (bs := N.brs) (b := b) (p := p) (by rw [brs_len, hsz]; exact hA))
  go_enter Try.func41, Try.ntmps41
  go_wp2_with fail
  refine (bridgeAt_no N b _ hle hA).mono ?_
  rintro e w3 ⟨rfl, hb3⟩
  have b03 := gr_trans b02 hb3
  clear x0 x1 x2 e0 e1 hb3
  have vv : Below w3.heap.size w3 w3.drew := gr_drew (Below.refl _ _)
  go_wp2_with fail
  refine wp_region_held_drew (S := (fun _ => True)) (by kernel_rfl) (trivial) (fun hHeld => ?_)
  refine kK 0 q1 ?_
  refine kK 1 q2 ?_
  refine kK 2 q3 ?_
  refine kN 3 q4 ?_
  refine kN 4 q5 ?_
  refine kN 5 q6 ?_
  refine kN 6 q7 ?_
  refine kN 7 q8 ?_
  refine kN 8 q9 ?_
  refine kN 9 q10 ?_
  refine kN 10 q11 ?_
  refine kK 11 q12 ?_
  refine wpAnyH_done (by kernel_rfl) ?_ _
  have HB := hide (gr_trans b03 vv)
  clear hHeld vv
  go_wp2
  go_ret
  exact ⟨none, rfl, by rw [HF.out]; rfl, HB.out⟩
 ·obtain ⟨k, rfl⟩ : ∃ k : Nat, b = (k : Int) := ⟨b.toNat, by simp at hA; omega⟩
  have hk : k < N.bn := by simp at hA; omega
  obtain ⟨x, bb, off, hx, hba, cc0, cc1, cc2, -⟩ := br_at h.b k hk
  have hr := h.item x (List.mem_of_getElem? hx)
  have hpl := Nat.le_trans hr.ports.le hr.ports.top
  unfold maxLen at hpl
  have HX := hide (brs_at hx)
  have HBA := hide hba
  clear hx hA hba
  go_enter Try.func41, Try.ntmps41
  go_wp2_with fail
  refine (bridgeAt_yes N k bb off _ hle hk HBA.out).mono ?_
  rintro e w3 ⟨rfl, hb3⟩
  have b03 := gr_trans b02 hb3
  have kE := kept_block kE hb3
  have c2 := (b03.cell (block_lt cc2)).trans cc2
  clear x0 x1 x2 e0 e1 hb3 cc0 cc1 cc2
  obtain ⟨e0, e1⟩ := cells2n kE
  generalize hR : w1.heap.size = R at *
  have vv : Below w3.heap.size w3 w3.drew := gr_drew (Below.refl _ _)
  go_wp2_with fail
  cases hB : (decide (0 ≤ p) && decide (p ≤ (x.n : Int) - 1))
  ·have HF := hide (port_out HX.out (by rw [hr.ports.size]; exact hB))
   refine wp_region_held_drew (S := (fun W => W.cell? ⟨bb, off + k * 11 + 2, none⟩ = some (.slice x.a x.n x.c) ∧ W.cell? ⟨R, 1, none⟩ = some (.int .i64 p))) (by kernel_rfl) (⟨(vv.cell (block_lt c2)).trans c2, (cells2n (kept_block kE vv)).2⟩) (fun hHeld => ?_)
   refine kK 0 q1 ?_
   refine kK 1 q2 ?_
   refine kK 2 q3 ?_
   refine kK 3 q4 ?_
   refine kK 4 q5 ?_
   refine kK 5 q6 ?_
   refine kK 6 q7 ?_
   refine kK 7 q8 ?_
   refine kK 8 q9 ?_
   refine kR 9 q10 (fun K hK => ?_)
   go_simp
   refine (implHas13 x.a x.n x.c p _ hpl).mono ?_
   rintro r wz ⟨rfl, ew⟩
   obtain rfl := ew.symm
   rw [hB]
   go_wp2_with fail
   refine hK.out _ _ (⟨(vv.cell (block_lt c2)).trans c2, (cells2n (kept_block kE vv)).2⟩) (fun hHeld => ?_)
   clear hK K
   try simp only [Act.put, lA, lB, lC]
   refine kK 10 q11 ?_
   refine kK 11 q12 ?_
   refine wpAnyH_done (by kernel_rfl) ?_ _
   have HB := hide (gr_trans b03 vv)
   clear hHeld vv c2 kE
   go_wp2
   go_ret
   exact ⟨none, rfl, by rw [HF.out]; rfl, HB.out⟩
  ·obtain ⟨j, rfl⟩ : ∃ j : Nat, p = (j : Int) := ⟨p.toNat, by simp at hB; omega⟩
   have hj : j < x.n := by simp at hB; omega
   obtain ⟨y, pb, po, hy, hpa, d0⟩ := pt_at hr.ports j hj
   have HF := hide (port_in HX.out hy)
   have i3 : (0 : Int) ≤ (j : Int) := by omega
   have i4 : (j : Int) < (x.n : Int) := by omega
   have HD := hide d0
   rw [hpa] at c2
   clear hpa d0
   refine wp_region_held_drew (S := (fun W => W.cell? ⟨bb, off + k * 11 + 2, none⟩ = some (.slice (some ⟨pb, po, none⟩) x.n x.c) ∧ W.cell? ⟨R, 1, none⟩ = some (.int .i64 (j : Int)))) (by kernel_rfl) (⟨(vv.cell (block_lt c2)).trans c2, (cells2n (kept_block kE vv)).2⟩) (fun hHeld => ?_)
   refine kK 0 q1 ?_
   refine kK 1 q2 ?_
   refine kK 2 q3 ?_
   refine kK 3 q4 ?_
   refine kK 4 q5 ?_
   refine kK 5 q6 ?_
   refine kK 6 q7 ?_
   refine kK 7 q8 ?_
   refine kK 8 q9 ?_
   refine kR 9 q10 (fun K hK => ?_)
   go_simp
   refine (implHas13 (some ⟨pb, po, none⟩) x.n x.c (j : Int) _ hpl).mono ?_
   rintro r wz ⟨rfl, ew⟩
   obtain rfl := ew.symm
   rw [hB]
   go_wp2_with fail
   refine hK.out _ _ (⟨(vv.cell (block_lt c2)).trans c2, (cells2n (kept_block kE vv)).2⟩) (fun hHeld => ?_)
   clear hK K
   try simp only [Act.put, lA, lB, lC]
   refine kK 10 q11 ?_
   refine kK 11 q12 ?_
   refine wpAnyH_done (by kernel_rfl) ?_ _
   have HB := hide (gr_trans b03 (gr_drew vv))
   have c2 := (vv.cell (block_lt c2)).trans c2
   have e1 := (cells2n (kept_block kE vv)).2
   clear hHeld vv kE hB
   go_wp2_with fail
   go_region
   go_wp2
   go_ret
   exact ⟨_, rfl, by rw [HF.out]; exact ⟨_, _, rfl, HD.out⟩, HB.out⟩

theorem portAt_any (N : NV) (b p : Int) (w : World) (h : NetRow w N) :
  Calls Try.prog 41 #[.agg #[.slice N.ba N.bn N.bc, .slice N.la N.ln N.lc, .slice N.sa N.sn N.sc], .agg #[.int .i64 b, .int .i64 p]] w fun e w' => ∃ v, e = .returned (.pointer v) ∧ PtAt w v (portOf N.brs b p) ∧ Below w.heap.size w w' := by
 refine (portAt_all N b p w h).mono ?_
 rintro e w1 ⟨v, rfl, hv, hb⟩
 exact ⟨v, rfl, hv.upAt, hb⟩

theorem PtAt.later {w w' : World} {v : Option Addr} {o : Option PT} (h : PtAt w v o) (hb : Below w.heap.size w w') : PtAt w' v o := by
 cases o with
 | none => exact h
 | some y =>
  obtain ⟨g, j, e, c⟩ := h
  exact ⟨g, j, e, (hb.cell (block_lt c)).trans c⟩

set_option maxRecDepth 100000 in
set_option maxHeartbeats 4000000 in
theorem implLinkUp_any (N : NV) (k : Int) (w : World) (h : NetRow w N) :
  Calls Try.prog 23 #[.agg #[.slice N.ba N.bn N.bc, .slice N.la N.ln N.lc, .slice N.sa N.sn N.sc], .int .i64 k] w fun e w' => e = .returned (.bool (linkUp N.brs N.ls k)) ∧ Below w.heap.size w w' := by
 have hle := Nat.le_trans h.l.le h.l.top
 unfold maxLen at hle
 have hsz := h.l.size
 generalize hG : linkUp N.brs N.ls k = U
 have HG := hide hG
 clear hG
 generalize hw1 : w.alloc (Obj.cells #[.slice N.ba N.bn N.bc, .slice N.la N.ln N.lc, .slice N.sa N.sn N.sc] 34) = w1
 have b01 : Below w.heap.size w w1 := by rw [← hw1]; exact below_one _ _
 have k1 : w1.heap[w.heap.size]? = some (.cells #[.slice N.ba N.bn N.bc, .slice N.la N.ln N.lc, .slice N.sa N.sn N.sc] 34) := by rw [← hw1]; exact block_last _ _
 obtain ⟨x0, x1, x2⟩ := cells3m k1
 cases hA : (decide (0 ≤ k) && decide (k ≤ (N.ln : Int) - 1))
 ·have HF : Hid (U = false) := hide (by
   rw [← HG.out]
   unfold linkUp
   split
   ·rw [List.getElem?_eq_none (by simp at hA; omega)]
   ·rfl)
  go_enter Try.func23, Try.ntmps23
  go_wp2_with fail
  refine (implWithin_any k 0 ((N.ln : Int) - 1) _).mono ?_
  rintro e w2 ⟨rfl, ew⟩
  obtain rfl := ew.symm
  rw [hA]
  clear hA
  go_wp2
  go_ret
  exact ⟨by rw [HF.out]; rfl, b01⟩
 ·obtain ⟨j, rfl⟩ : ∃ j : Nat, k = (j : Int) := ⟨k.toNat, by simp at hA; omega⟩
  have hj : j < N.ln := by simp at hA; omega
  obtain ⟨x, lb, off, hx, hla, a0, a1, a2, a3⟩ := link_at (h.l.below b01) j hj
  have HG : Hid ((upAt N.brs x.a x.p && upAt N.brs x.b x.q) = U) := hide (by rw [← HG.out]; unfold linkUp; rw [if_pos (by omega), Int.toNat_natCast, hx])
  have i1 : (0 : Int) ≤ (j : Int) := by omega
  have i2 : (j : Int) < (N.ln : Int) := by omega
  rw [hla] at x1
  clear hx hla
  go_enter Try.func23, Try.ntmps23
  go_wp2_with fail
  refine (implWithin_any (j : Int) 0 ((N.ln : Int) - 1) _).mono ?_
  rintro e w2 ⟨rfl, ew⟩
  obtain rfl := ew.symm
  rw [hA]
  clear hA
  go_wp2_with fail
  refine (endsOf_any x _).mono ?_
  rintro e we ⟨rfl, hbe⟩
  have kNe := kept_block k1 hbe
  have b0e := gr_trans b01 hbe
  clear x0 x1 x2 a0 a1 a2 a3 k1 hbe
  generalize hwq : we.alloc (Obj.cells #[.int .i64 x.a, .int .i64 x.p, .int .i64 x.b, .int .i64 x.q] 90) = wq
  have bq : Below we.heap.size we wq := by rw [← hwq]; exact below_one _ _
  have kE : wq.heap[we.heap.size]? = some (.cells #[.int .i64 x.a, .int .i64 x.p, .int .i64 x.b, .int .i64 x.q] 90) := by rw [← hwq]; exact block_last _ _
  have kNe := kept_block kNe bq
  have bq := gr_trans b0e bq
  clear b0e
  have vv : Below wq.heap.size wq wq.drew := gr_drew (Below.refl _ _)
  go_wp2_with fail
  refine wp_region_held_drew (S := (fun W => (W.cell? ⟨w.heap.size, 0, none⟩ = some (.slice N.ba N.bn N.bc) ∧ W.cell? ⟨w.heap.size, 1, none⟩ = some (.slice N.la N.ln N.lc) ∧ W.cell? ⟨w.heap.size, 2, none⟩ = some (.slice N.sa N.sn N.sc)) ∧ (W.cell? ⟨we.heap.size, 0, none⟩ = some (.int .i64 x.a) ∧ W.cell? ⟨we.heap.size, 1, none⟩ = some (.int .i64 x.p) ∧ W.cell? ⟨we.heap.size, 2, none⟩ = some (.int .i64 x.b) ∧ W.cell? ⟨we.heap.size, 3, none⟩ = some (.int .i64 x.q)))) (by kernel_rfl) (⟨cells3m (kept_block kNe vv), cells4n (kept_block kE vv)⟩) (fun hHeld => ?_)
  refine kK 0 ⟨some 21, .load 34 (.tmp 2), 34, "l13_net.go:74", #[], none⟩ ?_
  refine kK 1 ⟨some 22, .indexAddr 90 (.tmp 5) (.const (.int .i64 0)), 0, "l13_net.go:74", #[], none⟩ ?_
  refine kK 2 ⟨some 23, .load 89 (.tmp 22), 89, "l13_net.go:74", #[⟨1, .data⟩], none⟩ ?_
  refine kK 4 ⟨some 25, .load 34 (.tmp 2), 34, "l13_net.go:74", #[], none⟩ ?_
  refine kK 5 ⟨some 26, .indexAddr 90 (.tmp 5) (.const (.int .i64 1)), 0, "l13_net.go:74", #[], none⟩ ?_
  refine kK 6 ⟨some 27, .load 89 (.tmp 26), 89, "l13_net.go:74", #[⟨5, .data⟩], none⟩ ?_
  refine kR 3 ⟨some 24, .call ⟨.value (.func 41), #[.tmp 21, .tmp 23], #[34, 89]⟩, 92, "l13_net.go:74", #[⟨0, .data⟩, ⟨2, .data⟩], none⟩ (fun K hK => ?_)
  go_simp
  refine (portAt_any N x.a x.p _ (h.below (gr_trans bq vv))).mono ?_
  rintro r wz ⟨v1, rfl, v1P, hbz⟩
  have v1P := PtAt.later v1P hbz
  try have v2P := PtAt.later v2P hbz
  have vv := gr_trans vv hbz
  go_wp2_with fail
  refine hK.out _ _ (⟨cells3m (kept_block kNe vv), cells4n (kept_block kE vv)⟩) (fun hHeld => ?_)
  clear hK K
  try simp only [Act.put, lA, lB, lC]
  refine kR 7 ⟨some 28, .call ⟨.value (.func 41), #[.tmp 25, .tmp 27], #[34, 89]⟩, 92, "l13_net.go:74", #[⟨4, .data⟩, ⟨6, .data⟩, ⟨3, .chain⟩], none⟩ (fun K hK => ?_)
  go_simp
  refine (portAt_any N x.b x.q _ (h.below (gr_trans bq vv))).mono ?_
  rintro r wz ⟨v2, rfl, v2P, hbz⟩
  have v2P := PtAt.later v2P hbz
  try have v1P := PtAt.later v1P hbz
  have vv := gr_trans vv hbz
  go_wp2_with fail
  refine hK.out _ _ (⟨cells3m (kept_block kNe vv), cells4n (kept_block kE vv)⟩) (fun hHeld => ?_)
  clear hK K
  try simp only [Act.put, lA, lB, lC]
  refine kK 8 ⟨some 6, .assign (.tmp 24), 92, "l13_net.go:74", #[⟨3, .data⟩, ⟨7, .chain⟩, ⟨0, .phase⟩, ⟨1, .phase⟩, ⟨2, .phase⟩, ⟨3, .phase⟩, { on := 4, ground := Ground.textOnly Departure.lateStores }, { on := 5, ground := Ground.textOnly Departure.lateStores }, { on := 6, ground := Ground.textOnly Departure.lateStores }, { on := 7, ground := Ground.textOnly Departure.lateStoresUnsure }], none⟩ ?_
  refine kK 9 ⟨some 7, .assign (.tmp 28), 92, "l13_net.go:74", #[⟨7, .data⟩, ⟨8, .chain⟩, ⟨0, .phase⟩, ⟨1, .phase⟩, ⟨2, .phase⟩, ⟨3, .phase⟩, ⟨4, .phase⟩, ⟨5, .phase⟩, ⟨6, .phase⟩, ⟨7, .phase⟩, ⟨8, .phase⟩], none⟩ ?_
  refine wpAnyH_done (by kernel_rfl) ?_ _
  have HB := hide (gr_trans bq vv)
  have bz := gr_trans bq vv
  clear hHeld kNe kE vv
  cases hP : portOf N.brs x.a x.p with
  | none =>
   rw [hP] at v1P
   have e1 : v1 = none := v1P
   subst e1
   have HF : Hid (U = false) := hide (by rw [← HG.out]; unfold upAt; rw [hP]; rfl)
   clear bz v2P v1P
   go_wp2
   go_ret
   exact ⟨by rw [HF.out]; rfl, HB.out⟩
  | some y1 =>
   rw [hP] at v1P
   obtain ⟨p1, o1, rfl, q1⟩ := v1P
   cases hQ : portOf N.brs x.b x.q with
   | none =>
    rw [hQ] at v2P
    have e2 : v2 = none := v2P
    subst e2
    have HF : Hid (U = false) := hide (by rw [← HG.out]; unfold upAt; rw [hQ]; simp)
    clear bz v2P q1
    go_wp2
    go_ret
    exact ⟨by rw [HF.out]; rfl, HB.out⟩
   | some y2 =>
    rw [hQ] at v2P
    obtain ⟨p2, o2, rfl, q2⟩ := v2P
    have HF : Hid (U = (y1.up && y2.up)) := hide (by rw [← HG.out]; unfold upAt; rw [hP, hQ])
    clear bz hP hQ
    cases h1 : y1.up
    ·rw [h1] at q1
     have HF : Hid (U = false) := hide (by rw [HF.out, h1]; rfl)
     go_wp2
     go_ret
     exact ⟨by rw [HF.out]; rfl, HB.out⟩
    ·rw [h1] at q1
     have HF : Hid (U = y2.up) := hide (by rw [HF.out, h1]; rfl)
     go_wp2
     go_ret
     exact ⟨by rw [HF.out]; rfl, HB.out⟩

def upTo (bs : List BR) (ls : List LK) : Nat → List Int
 | 0 => []
 | k + 1 => if linkUp bs ls (k : Int) = true then upTo bs ls k ++ [(k : Int)] else upTo bs ls k

theorem upTo_no {bs : List BR} {ls : List LK} {k : Nat} (h : linkUp bs ls (k : Int) = false) : upTo bs ls (k + 1) = upTo bs ls k := by
 rw [upTo, if_neg (by rw [h]; decide)]
theorem upTo_yes {bs : List BR} {ls : List LK} {k : Nat} (h : linkUp bs ls (k : Int) = true) : upTo bs ls (k + 1) = upTo bs ls k ++ [(k : Int)] := by
 rw [upTo, if_pos h]
theorem upTo_len (bs : List BR) (ls : List LK) : ∀ k, (upTo bs ls k).length ≤ k
 | 0 => Nat.le_refl _
 | k + 1 => by
  have := upTo_len bs ls k
  cases h : linkUp bs ls (k : Int)
  ·rw [upTo_no h]; omega
  ·rw [upTo_yes h, List.length_append]; simp; omega
theorem upTo_in (bs : List BR) (ls : List LK) : ∀ k, ∀ z ∈ upTo bs ls k, 0 ≤ z ∧ z < (k : Int) ∧ linkUp bs ls z = true
 | 0 => fun z hz => by simp [upTo] at hz
 | k + 1 => fun z hz => by
  have ih := upTo_in bs ls k
  cases h : linkUp bs ls (k : Int)
  ·rw [upTo_no h] at hz
   have := ih z hz
   exact ⟨this.1, by omega, this.2.2⟩
  ·rw [upTo_yes h, List.mem_append] at hz
   rcases hz with hz | hz
   ·have := ih z hz
    exact ⟨this.1, by omega, this.2.2⟩
   ·simp at hz
    subst hz
    exact ⟨by omega, by omega, h⟩
theorem upTo_64 (bs : List BR) (ls : List LK) (k : Nat) (hk : k ≤ 1048576) : I64s (upTo bs ls k) := by
 intro z hz
 have := upTo_in bs ls k z hz
 omega

set_option maxRecDepth 100000 in
set_option maxHeartbeats 8000000 in
theorem specUpLinks_made (N : NV) (w : World) (h : NetRow w N) (h20 : N.ln ≤ 1048576) :
  Calls Try.prog 6 #[.agg #[.slice N.ba N.bn N.bc, .slice N.la N.ln N.lc, .slice N.sa N.sn N.sc]] w fun e w' => ∃ ao cap, e = .returned (.slice ao (upTo N.brs N.ls N.ln).length cap) ∧ w'.ownsRow w.heap.size 3 1 (.slice ao (upTo N.brs N.ls N.ln).length cap) (upTo N.brs N.ls N.ln).length (intF.all (upTo N.brs N.ls N.ln)) ∧ Below w.heap.size w w' := by
 generalize hw1 : w.alloc (Obj.cells #[.slice N.ba N.bn N.bc, .slice N.la N.ln N.lc, .slice N.sa N.sn N.sc] 34) = w1
 have b01 : Below w.heap.size w w1 := by rw [← hw1]; exact below_one _ _
 have k1 : w1.heap[w.heap.size]? = some (.cells #[.slice N.ba N.bn N.bc, .slice N.la N.ln N.lc, .slice N.sa N.sn N.sc] 34) := by rw [← hw1]; exact block_last _ _
 have HZ : Hid (w1.heap.size = w.heap.size + 1) := hide (by rw [← hw1]; simp)
 obtain ⟨x0, x1, x2⟩ := cells3m k1
 generalize hw2 : w1.alloc (Obj.cells #[] 3) = w2
 have b12 : Below w1.heap.size w1 w2 := by rw [← hw2]; exact below_one _ _
 have k2 : w2.heap[w1.heap.size]? = some (.cells #[] 3) := by rw [← hw2]; exact block_last _ _
 go_enter Try.func6, Try.ntmps6
 go_wp2_with fail
 clear hw1 x0 x1 x2
 go_loopw [3, 4] (fun p i wr => ∃ (k : Nat) (ao : Option Addr) (cap : Nat), k ≤ N.ln ∧ i = .int .i64 k ∧ p = .slice ao (upTo N.brs N.ls k).length cap ∧ wr.ownsRow w.heap.size 3 1 (.slice ao (upTo N.brs N.ls k).length cap) (upTo N.brs N.ls k).length (intF.all (upTo N.brs N.ls k)) ∧ wr.heap[w.heap.size]? = some (.cells #[.slice N.ba N.bn N.bc, .slice N.la N.ln N.lc, .slice N.sa N.sn N.sc] 34) ∧ Below w.heap.size w wr) (fun _ i _ => N.ln - (intOf i).toNat)
 case atStart => exact ⟨0, some ⟨w1.heap.size, 0, none⟩, 0, Nat.zero_le _, rfl, rfl, flat_nil intF w _ 3 w1.heap.size k2 (by have := HZ.out; omega), kept_block k1 b12, gr_trans b01 b12⟩
 case round =>
  obtain ⟨k, ao, cap, hk, rfl, rfl, ow, kP, hb⟩ := hrel
  clear k1 b01 b12 k2 hw2
  obtain ⟨x0, x1, x2⟩ := cells3m kP
  by_cases hlt : k < N.ln
  ·have i1 : (0 : Int) ≤ (k : Int) := by omega
   have i2 : (k : Int) < (N.ln : Int) := by omega
   have HLQ := hide (upTo_len N.brs N.ls k)
   go_wp2_with fail
   clear x0 x1 x2
   refine (specLinkUp_any N (k : Int) _ (h.below hb)).mono ?_
   rintro e w3 ⟨rfl, hbc⟩
   have kP := kept_block kP hbc
   have hb := gr_trans hb hbc
   have ow := gown_below ow hbc
   clear hbc
   obtain ⟨x0, x1, x2⟩ := cells3m kP
   cases hU : linkUp N.brs N.ls (k : Int)
   ·have HF := hide (upTo_no hU)
    clear hU
    have HO := hide ow
    have HP := hide kP
    have HB := hide hb
    clear ow kP hb
    go_wp2
    go_roundw
    case rel => exact ⟨k + 1, ao, cap, by omega, by go_num, by rw [HF.out], by rw [HF.out]; exact HO.out, HP.out, HB.out⟩
    case measure => simp [intOf]; omega
   ·have HF := hide (upTo_yes hU)
    clear hU
    generalize hwa : w3.alloc (Obj.cells #[Value.int .i64 k] 3) = wa
    have bra : Below w3.heap.size w3 wa := by subst hwa; exact below_one _ _
    have ka : wa.heap[w3.heap.size]? = some (.cells #[.int .i64 k] 3) := by rw [← hwa]; exact block_last _ _
    have gone : GRow intF wa (some ⟨w3.heap.size, 0, none⟩) 1 1 [(k : Int)] := grow_own (F := intF) (own_one intF (x := (k : Int)) (base := 0) ka rfl (Nat.zero_le _))
    have hI2 := gown_below ow bra
    have HBA := hide (gr_trans hb bra)
    have KPA := hide (kept_block kP bra)
    clear ow hb kP
    generalize hq : (upTo N.brs N.ls k).length = q at *
    go_wp2_with (at_builtin; refine wpList_append_flat (F := intF) _ rfl _ _ 28 3 rfl w.heap.size Try.underlying28 Try.infoI64 rfl (by decide) _ q (upTo N.brs N.ls k) rfl hI2 (some ⟨w3.heap.size, 0, none⟩) 1 1 [(k : Int)] rfl gone (by have := HLQ.out; omega) HBA.out.size ?_)
    intro a7 c7 w7 how hr hgr hb7
    have HB7 := hide (HBA.out.trans hb7)
    have KP7 := hide (kept_grown KPA.out hgr (fun b e => box_ne hI2 KPA.out (by decide) b e))
    have HQ1 : Hid ((upTo N.brs N.ls (k + 1)).length = q + 1) := hide (by rw [HF.out, List.length_append, hq]; rfl)
    rw [← HF.out] at how
    have HO := hide how
    clear how hr hgr hb7 hI2 gone ka hq
    go_wp2
    go_roundw
    case rel => exact ⟨k + 1, a7, c7, by omega, by go_num, by rw [HQ1.out], by rw [HQ1.out]; exact HO.out, KP7.out, HB7.out⟩
    case measure => simp [intOf]; omega
  ·have hkn : k = N.ln := by omega
   subst hkn
   have HO := hide ow
   have HB := hide hb
   clear ow hb
   go_wp2
   go_ret
   exact ⟨ao, cap, rfl, HO.out, HB.out⟩

theorem specUpLinks_l (N : NV) (LL : List Int) (w : World) (h : NetRow w N) (hL : LL = upTo N.brs N.ls N.ls.length) (h20 : N.ln ≤ 1048576) :
  Calls Try.prog 6 #[.agg #[.slice N.ba N.bn N.bc, .slice N.la N.ln N.lc, .slice N.sa N.sn N.sc]] w fun e w' => ∃ ao cap, e = .returned (.slice ao LL.length cap) ∧ w'.ownsRow w.heap.size 3 1 (.slice ao LL.length cap) LL.length (cI LL) ∧ Below w.heap.size w w' := by
 refine (specUpLinks_made N w h h20).mono ?_
 rintro e w' ⟨ao, cap, rfl, ho, hb⟩
 rw [show N.ln = N.ls.length from h.l.size.symm, ← hL] at ho ⊢
 exact ⟨ao, cap, rfl, by rw [← intF_all]; exact ho, hb⟩

set_option maxRecDepth 100000 in
set_option maxHeartbeats 8000000 in
theorem implUpLinks_made (N : NV) (w : World) (h : NetRow w N) (h20 : N.ln ≤ 1048576) :
  Calls Try.prog 8 #[.agg #[.slice N.ba N.bn N.bc, .slice N.la N.ln N.lc, .slice N.sa N.sn N.sc]] w fun e w' => ∃ ao cap, e = .returned (.slice ao (upTo N.brs N.ls N.ln).length cap) ∧ w'.ownsRow w.heap.size 3 1 (.slice ao (upTo N.brs N.ls N.ln).length cap) (upTo N.brs N.ls N.ln).length (intF.all (upTo N.brs N.ls N.ln)) ∧ Below w.heap.size w w' := by
 generalize hw1 : w.alloc (Obj.cells #[.slice N.ba N.bn N.bc, .slice N.la N.ln N.lc, .slice N.sa N.sn N.sc] 34) = w1
 have b01 : Below w.heap.size w w1 := by rw [← hw1]; exact below_one _ _
 have k1 : w1.heap[w.heap.size]? = some (.cells #[.slice N.ba N.bn N.bc, .slice N.la N.ln N.lc, .slice N.sa N.sn N.sc] 34) := by rw [← hw1]; exact block_last _ _
 have HZ : Hid (w1.heap.size = w.heap.size + 1) := hide (by rw [← hw1]; simp)
 obtain ⟨x0, x1, x2⟩ := cells3m k1
 go_enter Try.func8, Try.ntmps8
 go_wp2_with fail
 clear hw1 x0 x1 x2
 go_loopw [3, 4, 8] (fun p u i wr => ∃ (k : Nat) (ao : Option Addr) (cap : Nat), k ≤ N.ln ∧ i = .int .i64 k ∧ p = .slice ao (upTo N.brs N.ls k).length cap ∧ wr.ownsRow w.heap.size 3 1 (.slice ao (upTo N.brs N.ls k).length cap) (upTo N.brs N.ls k).length (intF.all (upTo N.brs N.ls k)) ∧ wr.heap[w.heap.size]? = some (.cells #[.slice N.ba N.bn N.bc, .slice N.la N.ln N.lc, .slice N.sa N.sn N.sc] 34) ∧ Below w.heap.size w wr) (fun _ _ i _ => N.ln - (intOf i).toNat)
 case atStart => exact ⟨0, none, 0, Nat.zero_le _, rfl, rfl, World.ownsRow_nil _ _ _ _, k1, b01⟩
 case round =>
  obtain ⟨k, ao, cap, hk, rfl, rfl, ow, kP, hb⟩ := hrel
  clear k1 b01
  obtain ⟨x0, x1, x2⟩ := cells3m kP
  by_cases hlt : k < N.ln
  ·have i1 : (0 : Int) ≤ (k : Int) := by omega
   have i2 : (k : Int) < (N.ln : Int) := by omega
   have HLQ := hide (upTo_len N.brs N.ls k)
   go_wp2_with fail
   clear x0 x1 x2
   refine (implLinkUp_any N (k : Int) _ (h.below hb)).mono ?_
   rintro e w3 ⟨rfl, hbc⟩
   have kP := kept_block kP hbc
   have hb := gr_trans hb hbc
   have ow := gown_below ow hbc
   clear hbc
   obtain ⟨x0, x1, x2⟩ := cells3m kP
   cases hU : linkUp N.brs N.ls (k : Int)
   ·have HF := hide (upTo_no hU)
    clear hU
    have HO := hide ow
    have HP := hide kP
    have HB := hide hb
    clear ow kP hb
    go_wp2
    go_roundw
    case rel => exact ⟨k + 1, ao, cap, by omega, by go_num, by rw [HF.out], by rw [HF.out]; exact HO.out, HP.out, HB.out⟩
    case measure => simp [intOf]; omega
   ·have HF := hide (upTo_yes hU)
    clear hU
    generalize hwa : w3.alloc (Obj.cells #[Value.int .i64 k] 3) = wa
    have bra : Below w3.heap.size w3 wa := by subst hwa; exact below_one _ _
    have ka : wa.heap[w3.heap.size]? = some (.cells #[.int .i64 k] 3) := by rw [← hwa]; exact block_last _ _
    have gone : GRow intF wa (some ⟨w3.heap.size, 0, none⟩) 1 1 [(k : Int)] := grow_own (F := intF) (own_one intF (x := (k : Int)) (base := 0) ka rfl (Nat.zero_le _))
    have hI2 := gown_below ow bra
    have HBA := hide (gr_trans hb bra)
    have KPA := hide (kept_block kP bra)
    clear ow hb kP
    generalize hq : (upTo N.brs N.ls k).length = q at *
    go_wp2_with (at_builtin; refine wpList_append_flat (F := intF) _ rfl _ _ 28 3 rfl w.heap.size Try.underlying28 Try.infoI64 rfl (by decide) _ q (upTo N.brs N.ls k) rfl hI2 (some ⟨w3.heap.size, 0, none⟩) 1 1 [(k : Int)] rfl gone (by have := HLQ.out; omega) HBA.out.size ?_)
    intro a7 c7 w7 how hr hgr hb7
    have HB7 := hide (HBA.out.trans hb7)
    have KP7 := hide (kept_grown KPA.out hgr (fun b e => box_ne hI2 KPA.out (by decide) b e))
    have HQ1 : Hid ((upTo N.brs N.ls (k + 1)).length = q + 1) := hide (by rw [HF.out, List.length_append, hq]; rfl)
    rw [← HF.out] at how
    have HO := hide how
    clear how hr hgr hb7 hI2 gone ka hq
    go_wp2
    go_roundw
    case rel => exact ⟨k + 1, a7, c7, by omega, by go_num, by rw [HQ1.out], by rw [HQ1.out]; exact HO.out, KP7.out, HB7.out⟩
    case measure => simp [intOf]; omega
  ·have hkn : k = N.ln := by omega
   subst hkn
   have HO := hide ow
   have HB := hide hb
   clear ow hb
   go_wp2
   go_ret
   exact ⟨ao, cap, rfl, HO.out, HB.out⟩

theorem implUpLinks_l (N : NV) (LL : List Int) (w : World) (h : NetRow w N) (hL : LL = upTo N.brs N.ls N.ls.length) (h20 : N.ln ≤ 1048576) :
  Calls Try.prog 8 #[.agg #[.slice N.ba N.bn N.bc, .slice N.la N.ln N.lc, .slice N.sa N.sn N.sc]] w fun e w' => ∃ ao cap, e = .returned (.slice ao LL.length cap) ∧ w'.ownsRow w.heap.size 3 1 (.slice ao LL.length cap) LL.length (cI LL) ∧ Below w.heap.size w w' := by
 refine (implUpLinks_made N w h h20).mono ?_
 rintro e w' ⟨ao, cap, rfl, ho, hb⟩
 rw [show N.ln = N.ls.length from h.l.size.symm, ← hL] at ho ⊢
 exact ⟨ao, cap, rfl, by rw [← intF_all]; exact ho, hb⟩

end Go.Proofs.Ytnichegfadgpdaa
