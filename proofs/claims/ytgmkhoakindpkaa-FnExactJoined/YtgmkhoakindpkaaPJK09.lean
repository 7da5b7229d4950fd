/-
  Packed: BrNewS BrBuild NetBeside NetUp JoinI JoinT.
-/
import Derived.Test.YtgmkhoakindpkaaPJBrOkS
import Derived.Test.YtgmkhoakindpkaaPJK01
import Derived.Test.YtgmkhoakindpkaaPJK02
import Derived.Test.YtgmkhoakindpkaaPJK03
import Derived.Test.YtgmkhoakindpkaaPJK07
import Derived.Deep.RegionHeld3
import Derived.Lib.SlicesCompact
import Derived.Lib.SlKeysI
import Derived.Maps.OwnSet
namespace Go.Proofs.Ytgmkhoakindpkaa
open Go.RowKit

theorem BrOwn.boxed11 {w : World} {base : Nat} {a : Option Addr} {n c : Nat} {fa : Option Addr} {fn fc : Nat} {ra : Option Addr} {rn rc : Nat} {oa : Option Addr} {on oc : Nat} {B : BR} (h : BrOwn w base a n c fa fn fc ra rn rc oa on oc B) {X : Nat} {cs : Array Value} (hX : w.heap[X]? = some (.cells cs 98)) (u0 u1 u2 u3 u4 u5 u6 u7 u8 u9 u10 : Value) : BrOwn (((((((((((w.setCell ⟨X, 0, none⟩ u0).setCell ⟨X, 1, none⟩ u1).setCell ⟨X, 2, none⟩ u2).setCell ⟨X, 3, none⟩ u3).setCell ⟨X, 4, none⟩ u4).setCell ⟨X, 5, none⟩ u5).setCell ⟨X, 6, none⟩ u6).setCell ⟨X, 7, none⟩ u7).setCell ⟨X, 8, none⟩ u8).setCell ⟨X, 9, none⟩ u9).setCell ⟨X, 10, none⟩ u10) base a n c fa fn fc ra rn rc oa on oc B :=
 (BrOwn.boxed (BrOwn.boxed (BrOwn.boxed (BrOwn.boxed (BrOwn.boxed (BrOwn.boxed (BrOwn.boxed (BrOwn.boxed (BrOwn.boxed (BrOwn.boxed (BrOwn.boxed h hX 0 u0) (box11 hX 0 u0) 1 u1) (box11 (box11 hX 0 u0) 1 u1) 2 u2) (box11 (box11 (box11 hX 0 u0) 1 u1) 2 u2) 3 u3) (box11 (box11 (box11 (box11 hX 0 u0) 1 u1) 2 u2) 3 u3) 4 u4) (box11 (box11 (box11 (box11 (box11 hX 0 u0) 1 u1) 2 u2) 3 u3) 4 u4) 5 u5) (box11 (box11 (box11 (box11 (box11 (box11 hX 0 u0) 1 u1) 2 u2) 3 u3) 4 u4) 5 u5) 6 u6) (box11 (box11 (box11 (box11 (box11 (box11 (box11 hX 0 u0) 1 u1) 2 u2) 3 u3) 4 u4) 5 u5) 6 u6) 7 u7) (box11 (box11 (box11 (box11 (box11 (box11 (box11 (box11 hX 0 u0) 1 u1) 2 u2) 3 u3) 4 u4) 5 u5) 6 u6) 7 u7) 8 u8) (box11 (box11 (box11 (box11 (box11 (box11 (box11 (box11 (box11 hX 0 u0) 1 u1) 2 u2) 3 u3) 4 u4) 5 u5) 6 u6) 7 u7) 8 u8) 9 u9) (box11 (box11 (box11 (box11 (box11 (box11 (box11 (box11 (box11 (box11 hX 0 u0) 1 u1) 2 u2) 3 u3) 4 u4) 5 u5) 6 u6) 7 u7) 8 u8) 9 u9) 10 u10)

theorem below_set11 {K : Nat} {a w : World} (h : Below K a w) {g : Nat} (hB : K ≤ g) (u0 u1 u2 u3 u4 u5 u6 u7 u8 u9 u10 : Value) : Below K a (((((((((((w.setCell ⟨g, 0, none⟩ u0).setCell ⟨g, 1, none⟩ u1).setCell ⟨g, 2, none⟩ u2).setCell ⟨g, 3, none⟩ u3).setCell ⟨g, 4, none⟩ u4).setCell ⟨g, 5, none⟩ u5).setCell ⟨g, 6, none⟩ u6).setCell ⟨g, 7, none⟩ u7).setCell ⟨g, 8, none⟩ u8).setCell ⟨g, 9, none⟩ u9).setCell ⟨g, 10, none⟩ u10) :=
 (below_set (below_set (below_set (below_set (below_set (below_set (below_set (below_set (below_set (below_set (below_set h hB 0 u0) hB 1 u1) hB 2 u2) hB 3 u3) hB 4 u4) hB 5 u5) hB 6 u6) hB 7 u7) hB 8 u8) hB 9 u9) hB 10 u10)

structure BcSt (w wr : World) (R X : Nat) (cs : Array Value) : Prop where
 box : wr.heap[X]? = some (.cells cs 98)
 res : wr.heap[R]? = some (.cells #[.int .i64 0, .string ⟨#[]⟩, .slice none 0 0, .slice none 0 0, .slice none 0 0, .slice none 0 0, .int .i64 0, .int .i64 0, .int .i64 0, .int .i64 0, .int .i64 0] 98)
 below : Below w.heap.size w wr
 hX : w.heap.size ≤ X
 hR : w.heap.size ≤ R
 ne : R ≠ X

theorem BcSt.later {w wr wx : World} {R X : Nat} {cs : Array Value} (h : BcSt w wr R X cs) (hb : Below wr.heap.size wr wx) : BcSt w wx R X cs :=
 ⟨kept_block h.box hb, kept_block h.res hb, gr_trans h.below hb, h.hX, h.hR, h.ne⟩

theorem BcSt.put {w wr : World} {R X : Nat} {cs : Array Value} (h : BcSt w wr R X cs) (j : Nat) (u : Value) {cs' : Array Value} (he : cs.setIfInBounds j u = cs') : BcSt w (wr.setCell ⟨X, j, none⟩ u) R X cs' :=
 ⟨by rw [← he]; exact box11 h.box j u, kept_set h.res h.ne, below_set h.below h.hX j u, h.hX, h.hR, h.ne⟩

theorem BcSt.grown {w wr wx : World} {R X : Nat} {cs : Array Value} (h : BcSt w wr R X cs) {base k : Nat} {e : TypeId} {v : Value} {n : Nat} {xs : List Value} (ho : wr.ownsRow base e k v n xs) (hne : (e : Nat) ≠ 98) (hg : wr.grownBy wx v.ownBlock) (hb : Below w.heap.size wr wx) : BcSt w wx R X cs :=
 ⟨kept_grown h.box hg (fun i e => box_ne ho h.box hne i e), kept_grown h.res hg (fun i e => box_ne ho h.res hne i e), h.below.trans hb, h.hX, h.hR, h.ne⟩

theorem BcSt.stay {w wr : World} {R X : Nat} {cs : Array Value} (h : BcSt w wr R X cs) {base k : Nat} {e : TypeId} {v : Value} {n : Nat} {xs : List Value} (ho : wr.ownsRow base e k v n xs) (hne : (e : Nat) ≠ 98) (j : Nat) (u : Value) : (wr.setCell ⟨X, j, none⟩ u).ownsRow base e k v n xs :=
 gown_other ho (grown_set (rb := X) j u) (box_ne ho h.box hne)

theorem BcSt.out {w wr : World} {R X : Nat} {cs : Array Value} (h : BcSt w wr R X cs) {base : Nat} {a : Option Addr} {n c : Nat} {fa : Option Addr} {fn fc : Nat} {ra : Option Addr} {rn rc : Nat} {oa : Option Addr} {on oc : Nat} {B : BR} (ho : BrOwn wr base a n c fa fn fc ra rn rc oa on oc B) (u0 u1 u2 u3 u4 u5 u6 u7 u8 u9 u10 : Value) : BrOwn (((((((((((wr.setCell ⟨R, 0, none⟩ u0).setCell ⟨R, 1, none⟩ u1).setCell ⟨R, 2, none⟩ u2).setCell ⟨R, 3, none⟩ u3).setCell ⟨R, 4, none⟩ u4).setCell ⟨R, 5, none⟩ u5).setCell ⟨R, 6, none⟩ u6).setCell ⟨R, 7, none⟩ u7).setCell ⟨R, 8, none⟩ u8).setCell ⟨R, 9, none⟩ u9).setCell ⟨R, 10, none⟩ u10) base a n c fa fn fc ra rn rc oa on oc B ∧ Below w.heap.size w (((((((((((wr.setCell ⟨R, 0, none⟩ u0).setCell ⟨R, 1, none⟩ u1).setCell ⟨R, 2, none⟩ u2).setCell ⟨R, 3, none⟩ u3).setCell ⟨R, 4, none⟩ u4).setCell ⟨R, 5, none⟩ u5).setCell ⟨R, 6, none⟩ u6).setCell ⟨R, 7, none⟩ u7).setCell ⟨R, 8, none⟩ u8).setCell ⟨R, 9, none⟩ u9).setCell ⟨R, 10, none⟩ u10) :=
 ⟨ho.boxed11 h.res u0 u1 u2 u3 u4 u5 u6 u7 u8 u9 u10, below_set11 h.below h.hR u0 u1 u2 u3 u4 u5 u6 u7 u8 u9 u10⟩

theorem cells4n {w : World} {g : Nat} {T : TypeId} {c0 c1 c2 c3 : Value} (h : w.heap[g]? = some (.cells #[c0, c1, c2, c3] T)) : w.cell? ⟨g, 0, none⟩ = some c0 ∧ w.cell? ⟨g, 1, none⟩ = some c1 ∧ w.cell? ⟨g, 2, none⟩ = some c2 ∧ w.cell? ⟨g, 3, none⟩ = some c3 := by
 simp [World.cell?, h]

theorem cells3m {w : World} {g : Nat} {T : TypeId} {c0 c1 c2 : Value} (h : w.heap[g]? = some (.cells #[c0, c1, c2] T)) : w.cell? ⟨g, 0, none⟩ = some c0 ∧ w.cell? ⟨g, 1, none⟩ = some c1 ∧ w.cell? ⟨g, 2, none⟩ = some c2 := by
 simp [World.cell?, h]

set_option maxRecDepth 100000 in
set_option maxHeartbeats 1000000 in
theorem bridgeAt_no (N : NV) (b : Int) (w : World) (hle : N.bn ≤ 9223372036854775807) (hA : (decide (0 ≤ b) && decide (b ≤ (N.bn : Int) - 1)) = false) :
  Calls Try.prog 42 #[.agg #[.slice N.ba N.bn N.bc, .slice N.la N.ln N.lc, .slice N.sa N.sn N.sc], .int .i64 b] w fun e w' => e = .returned (.pointer none) ∧ Below w.heap.size w w' := by
 generalize hw1 : w.alloc (Obj.cells #[.slice N.ba N.bn N.bc, .slice N.la N.ln N.lc, .slice N.sa N.sn N.sc] 33) = w1
 have b01 : Below w.heap.size w w1 := by rw [← hw1]; exact below_one _ _
 have k1 : w1.heap[w.heap.size]? = some (.cells #[.slice N.ba N.bn N.bc, .slice N.la N.ln N.lc, .slice N.sa N.sn N.sc] 33) := by rw [← hw1]; exact block_last _ _
 obtain ⟨x0, x1, x2⟩ := cells3m k1
 go_enter Try.func42, Try.ntmps42
 go_wp2_with fail
 refine (implWithin_any b 0 ((N.bn : Int) - 1) _).mono ?_
 rintro e w2 ⟨rfl, ew⟩
 obtain rfl := ew.symm
 rw [hA]
 clear hA
 go_wp2
 go_ret
 exact ⟨rfl, b01⟩

set_option maxRecDepth 100000 in
set_option maxHeartbeats 1000000 in
theorem bridgeAt_yes (N : NV) (k : Nat) (g off : Nat) (w : World) (hle : N.bn ≤ 9223372036854775807) (hk : k < N.bn) (hba : N.ba = some ⟨g, off, none⟩) :
  Calls Try.prog 42 #[.agg #[.slice N.ba N.bn N.bc, .slice N.la N.ln N.lc, .slice N.sa N.sn N.sc], .int .i64 (k : Int)] w fun e w' => e = .returned (.pointer (some ⟨g, off + k * 11, none⟩)) ∧ Below w.heap.size w w' := by
 generalize hw1 : w.alloc (Obj.cells #[.slice N.ba N.bn N.bc, .slice N.la N.ln N.lc, .slice N.sa N.sn N.sc] 33) = w1
 have b01 : Below w.heap.size w w1 := by rw [← hw1]; exact below_one _ _
 have k1 : w1.heap[w.heap.size]? = some (.cells #[.slice N.ba N.bn N.bc, .slice N.la N.ln N.lc, .slice N.sa N.sn N.sc] 33) := by rw [← hw1]; exact block_last _ _
 obtain ⟨x0, x1, x2⟩ := cells3m k1
 have hA : (decide (0 ≤ (k : Int)) && decide ((k : Int) ≤ (N.bn : Int) - 1)) = true := by simp; omega
 have i1 : (0 : Int) ≤ (k : Int) := by omega
 have i2 : (k : Int) < (N.bn : Int) := by omega
 rw [hba] at x0
 clear hba
 go_enter Try.func42, Try.ntmps42
 go_wp2_with fail
 refine (implWithin_any (k : Int) 0 ((N.bn : Int) - 1) _).mono ?_
 rintro e w2 ⟨rfl, ew⟩
 obtain rfl := ew.symm
 rw [hA]
 clear hA
 go_wp2
 go_ret
 exact ⟨rfl, b01⟩

def across (x : LK) (b : Int) : Option Int := if b = x.a then some x.b else if b = x.b then some x.a else none
def acrossV : Option Int → Value
 | some z => .tuple #[.int .i64 z, .bool true]
 | none => .tuple #[.int .i64 0, .bool false]

set_option maxRecDepth 100000 in
set_option maxHeartbeats 2000000 in
theorem across_any (x : LK) (b : Int) (w : World) :
  Calls Try.prog 71 #[.agg #[.int .i64 x.a, .int .i64 x.p, .int .i64 x.b, .int .i64 x.q], .int .i64 b] w fun e w' => e = .returned (acrossV (across x b)) ∧ Below w.heap.size w w' := by
 generalize hw1 : w.alloc (Obj.cells #[.int .i64 x.a, .int .i64 x.p, .int .i64 x.b, .int .i64 x.q] 57) = w1
 have b01 : Below w.heap.size w w1 := by rw [← hw1]; exact below_one _ _
 have k1 : w1.heap[w.heap.size]? = some (.cells #[.int .i64 x.a, .int .i64 x.p, .int .i64 x.b, .int .i64 x.q] 57) := by rw [← hw1]; exact block_last _ _
 obtain ⟨c0, c1, c2, c3⟩ := cells4n k1
 have HB := hide b01
 clear b01 k1
 by_cases h1 : b = x.a
 ·have HE : Hid (across x b = some x.b) := hide (by unfold across; rw [if_pos h1])
  subst h1
  go_enter Try.func71, Try.ntmps71
  go_wp2
  rw [HE.out]
  exact bodyPost_ret (v := .tuple #[.int .i64 x.b, .bool true]) (by simp [results, Try.results71, go_sem, *]) rfl ⟨rfl, HB.out⟩
 ·by_cases h2 : b = x.b
  ·have HE : Hid (across x b = some x.a) := hide (by unfold across; rw [if_neg h1, if_pos h2])
   have h1' : ¬ x.a = b := fun e => h1 e.symm
   go_enter Try.func71, Try.ntmps71
   go_wp2
   rw [HE.out]
   exact bodyPost_ret (v := .tuple #[.int .i64 x.a, .bool true]) (by simp [results, Try.results71, go_sem, *]) rfl ⟨rfl, HB.out⟩
  ·have HE : Hid (across x b = none) := hide (by unfold across; rw [if_neg h1, if_neg h2])
   have h1' : ¬ x.a = b := fun e => h1 e.symm
   have h2' : ¬ x.b = b := fun e => h2 e.symm
   go_enter Try.func71, Try.ntmps71
   go_wp2
   rw [HE.out]
   exact bodyPost_ret (v := .tuple #[.int .i64 0, .bool false]) (by simp [results, Try.results71, go_sem, *]) rfl ⟨rfl, HB.out⟩

set_option maxRecDepth 100000 in
set_option maxHeartbeats 4000000 in
theorem bridgeAt_all (N : NV) (b : Int) (w : World) (h : NetRow w N) :
  Calls Try.prog 42 #[.agg #[.slice N.ba N.bn N.bc, .slice N.la N.ln N.lc, .slice N.sa N.sn N.sc], .int .i64 b] w fun e w' => ∃ v : Option Addr, e = .returned (.pointer v) ∧ (v = none ↔ inB N.bn b = false) ∧ Below w.heap.size w w' := by
 have hle := Nat.le_trans h.b.le h.b.top
 unfold maxLen at hle
 cases hA : inB N.bn b
 ·refine (bridgeAt_no N b w hle hA).mono ?_
  rintro e w' ⟨rfl, hb⟩
  exact ⟨none, rfl, by simp, hb⟩
 ·obtain ⟨k, rfl⟩ : ∃ k : Nat, b = (k : Int) := ⟨b.toNat, by have := inB_iff.1 hA; omega⟩
  have hk : k < N.bn := by have := inB_iff.1 hA; omega
  obtain ⟨x, bb, off, hx, hba, -⟩ := br_at h.b k hk
  refine (bridgeAt_yes N k bb off w hle hk hba).mono ?_
  rintro e w' ⟨rfl, hb⟩
  exact ⟨_, rfl, by simp, hb⟩

set_option maxRecDepth 100000 in
set_option maxHeartbeats 4000000 in
theorem endsOn_any (N : NV) (x : LK) (w : World) (h : NetRow w N) :
  Calls Try.prog 74 #[.agg #[.slice N.ba N.bn N.bc, .slice N.la N.ln N.lc, .slice N.sa N.sn N.sc], .agg #[.int .i64 x.a, .int .i64 x.p, .int .i64 x.b, .int .i64 x.q]] w fun e w' => e = .returned (.bool (inB N.bn x.a && inB N.bn x.b)) ∧ Below w.heap.size w w' := by
 generalize hR : (inB N.bn x.a && inB N.bn x.b) = R
 have HR := hide hR
 clear hR
 generalize hw1 : w.alloc (Obj.cells #[.slice N.ba N.bn N.bc, .slice N.la N.ln N.lc, .slice N.sa N.sn N.sc] 33) = w1
 generalize hw2 : w1.alloc (Obj.cells #[.int .i64 x.a, .int .i64 x.p, .int .i64 x.b, .int .i64 x.q] 57) = w2
 have b01 : Below w.heap.size w w1 := by rw [← hw1]; exact below_one _ _
 have b12 : Below w1.heap.size w1 w2 := by rw [← hw2]; exact below_one _ _
 have b02 := gr_trans b01 b12
 have kP : w2.heap[w.heap.size]? = some (.cells #[.slice N.ba N.bn N.bc, .slice N.la N.ln N.lc, .slice N.sa N.sn N.sc] 33) := kept_block (by rw [← hw1]; exact block_last _ _) b12
 have kL : w2.heap[w1.heap.size]? = some (.cells #[.int .i64 x.a, .int .i64 x.p, .int .i64 x.b, .int .i64 x.q] 57) := by rw [← hw2]; exact block_last _ _
 obtain ⟨x0, x1, x2⟩ := cells3m kP
 obtain ⟨l0, l1, l2, l3⟩ := cells4n kL
 go_enter Try.func74, Try.ntmps74
 go_wp2_with fail
 refine (bridgeAt_all N x.a _ (h.below b02)).mono ?_
 rintro e w3 ⟨v3, rfl, hv3, hb3⟩
 have kP := kept_block kP hb3
 have kL := kept_block kL hb3
 have b03 := gr_trans b02 hb3
 clear x0 x1 x2 l0 l1 l2 l3 hb3 b01 b12 b02 hw1 hw2
 obtain ⟨x0, x1, x2⟩ := cells3m kP
 obtain ⟨l0, l1, l2, l3⟩ := cells4n kL
 cases v3 with
 | none =>
  have HE : Hid (R = false) := hide (by rw [← HR.out, hv3.1 rfl]; rfl)
  have HB := hide b03
  clear hv3 b03 kP kL HR
  go_wp2
  go_ret
  exact ⟨by rw [HE.out]; rfl, HB.out⟩
 | some p3 =>
  have h3 : inB N.bn x.a = true := by
   cases hc : inB N.bn x.a
   ·have := hv3.2 hc
    cases this
   ·rfl
  have HE : Hid (R = inB N.bn x.b) := hide (by rw [← HR.out, h3]; rfl)
  clear hv3 h3 HR
  go_wp2_with fail
  refine (bridgeAt_all N x.b _ (h.below b03)).mono ?_
  rintro e w4 ⟨v4, rfl, hv4, hb4⟩
  have HB := hide (gr_trans b03 hb4)
  clear b03 hb4 kP kL x0 x1 x2 l0 l1 l2 l3
  cases v4 with
  | none =>
   have HE : Hid (R = false) := hide (by rw [HE.out, hv4.1 rfl])
   clear hv4
   go_wp2
   go_ret
   exact ⟨by rw [HE.out]; rfl, HB.out⟩
  | some p4 =>
   have HE : Hid (R = true) := hide (by
    rw [HE.out]
    cases hc : inB N.bn x.b
    ·have := hv4.2 hc
     cases this
    ·rfl)
   clear hv4
   go_wp2
   go_ret
   exact ⟨by rw [HE.out]; rfl, HB.out⟩

section
open Go.RowKit Go.Lib

def toldOne (nb : Nat) (ls : List LK) (k : Int) : Option LK := match linkAt ls k with
 | some x => if (inB nb x.a && inB nb x.b) = true then some x else none
 | none => none
def told (nb : Nat) (ls : List LK) (cs : List Int) : List LK := cs.filterMap (toldOne nb ls)
def CloT (T : List LK) (S : Int → Prop) : Prop := ∀ x ∈ T, (S x.a → S x.b) ∧ (S x.b → S x.a)
def RchT (T : List LK) (b z : Int) : Prop := ∀ S : Int → Prop, S b → CloT T S → S z

theorem told_mem {nb : Nat} {ls : List LK} {cs : List Int} {x : LK} : x ∈ told nb ls cs ↔ ∃ k ∈ cs, linkAt ls k = some x ∧ inB nb x.a = true ∧ inB nb x.b = true := by
 unfold told
 rw [List.mem_filterMap]
 constructor
 ·rintro ⟨k, hk, h⟩
  unfold toldOne at h
  split at h
  ·rename_i y hy
   split at h
   ·rename_i hc
    cases h
    simp only [Bool.and_eq_true] at hc
    exact ⟨k, hk, hy, hc.1, hc.2⟩
   ·cases h
  ·cases h
 ·rintro ⟨k, hk, h, h1, h2⟩
  refine ⟨k, hk, ?_⟩
  unfold toldOne
  rw [h]
  dsimp only
  rw [h1, h2]
  rfl

theorem rch_told {nb : Nat} {ls : List LK} {l cs : List Int} {b z : Int} (hcs : ∀ k, k ∈ cs ↔ k ∈ l) (hb : inB nb b = true) : Rch nb ls l b z ↔ RchT (told nb ls cs) b z := by
 constructor
 ·intro h S h1 h2
  refine (h (fun y => S y ∧ inB nb y = true) ⟨h1, hb⟩ (fun k hk x hx => ⟨fun ha hi => ⟨?_, hi⟩, fun ha hi => ⟨?_, hi⟩⟩)).1
  ·exact (h2 x (told_mem.2 ⟨k, (hcs k).2 hk, hx, ha.2, hi⟩)).1 ha.1
  ·exact (h2 x (told_mem.2 ⟨k, (hcs k).2 hk, hx, hi, ha.2⟩)).2 ha.1
 ·intro h S h1 h2
  refine h S h1 (fun x hx => ?_)
  obtain ⟨k, hk, hl, ha, hb⟩ := told_mem.1 hx
  have := h2 k ((hcs k).1 hk) x hl
  exact ⟨fun h => this.1 h hb, fun h => this.2 h ha⟩

theorem across_in {x : LK} {z y : Int} (h : across x z = some y) : (z = x.a ∧ y = x.b) ∨ (z = x.b ∧ y = x.a) := by
 unfold across at h
 split at h
 ·rename_i e; cases h; exact .inl ⟨e, rfl⟩
 ·split at h
  ·rename_i e; cases h; exact .inr ⟨e, rfl⟩
  ·cases h

structure RI (nb : Nat) (T : List LK) (b : Int) (S : List Int) (p : Nat) : Prop where
 good : GoodL nb S
 here : b ∈ S
 le : p ≤ S.length
 rch : ∀ z ∈ S, RchT T b z
 done : ∀ j z, j < p → S[j]? = some z → ∀ x ∈ T, ∀ y, across x z = some y → y ∈ S

structure RJ (nb : Nat) (T : List LK) (b : Int) (S : List Int) (p : Nat) (z : Int) (i : Nat) : Prop where
 ri : RI nb T b S p
 at' : S[p]? = some z
 part : ∀ j x, j < i → T[j]? = some x → ∀ y, across x z = some y → y ∈ S

theorem RI.start {nb : Nat} {T : List LK} {b : Int} (hb : inB nb b = true) : RI nb T b [b] 0 where
 good := ⟨by simp, fun z hz => by simp at hz; rw [hz]; exact inB_iff.1 hb⟩
 here := by simp
 le := Nat.zero_le _
 rch := fun z hz => by simp at hz; rw [hz]; exact fun S h _ => h
 done := fun _ _ hj => absurd hj (Nat.not_lt_zero _)

theorem RI.begin {nb : Nat} {T : List LK} {b : Int} {S : List Int} {p : Nat} {z : Int} (h : RI nb T b S p) (hz : S[p]? = some z) : RJ nb T b S p z 0 := ⟨h, hz, fun _ _ hj => absurd hj (Nat.not_lt_zero _)⟩

theorem RJ.stay {nb : Nat} {T : List LK} {b : Int} {S : List Int} {p : Nat} {z : Int} {i : Nat} (h : RJ nb T b S p z i) {x : LK} (hx : T[i]? = some x) (hs : ∀ y, across x z = some y → y ∈ S) : RJ nb T b S p z (i + 1) :=
 ⟨h.ri, h.at', fun j u hj hu y hy => by
  by_cases e : j = i
  ·subst e
   rw [hx] at hu
   cases hu
   exact hs y hy
  ·exact h.part j u (by omega) hu y hy⟩

theorem RJ.more {nb : Nat} {T : List LK} {b : Int} {S : List Int} {p : Nat} {z : Int} {i : Nat} (h : RJ nb T b S p z i) (hT : ∀ x ∈ T, inB nb x.a = true ∧ inB nb x.b = true) {x : LK} (hx : T[i]? = some x) {y : Int} (hy : across x z = some y) (hn : y ∉ S) : RJ nb T b (S ++ [y]) p z (i + 1) := by
 have hxT := List.mem_of_getElem? hx
 have hzS : z ∈ S := List.mem_of_getElem? h.at'
 have hp : p < S.length := (List.getElem?_eq_some_iff.1 h.at').1
 have old : ∀ {j : Nat} {u : Int}, j < S.length → (S ++ [y])[j]? = some u → S[j]? = some u := fun hj hu => by rw [List.getElem?_append_left hj] at hu; exact hu
 have hyB : inB nb y = true := by
  rcases across_in hy with ⟨-, rfl⟩ | ⟨-, rfl⟩
  ·exact (hT x hxT).2
  ·exact (hT x hxT).1
 refine ⟨⟨⟨?_, fun u hu => ?_⟩, List.mem_append.2 (.inl h.ri.here), by rw [List.length_append]; omega, fun u hu => ?_, fun j u hj hu v hv q hq => ?_⟩, by rw [List.getElem?_append_left hp]; exact h.at', fun j u hj hu v hv => ?_⟩
 ·rw [List.nodup_append]
  exact ⟨h.ri.good.1, by simp, fun u hu v hv => by simp at hv; rw [hv]; exact fun e => hn (e ▸ hu)⟩
 ·rcases List.mem_append.1 hu with h1 | h1
  ·exact h.ri.good.2 u h1
  ·simp at h1; rw [h1]; exact inB_iff.1 hyB
 ·rcases List.mem_append.1 hu with h1 | h1
  ·exact h.ri.rch u h1
  ·simp at h1
   rw [h1]
   intro Q hQ hc
   have hz := h.ri.rch z hzS Q hQ hc
   rcases across_in hy with ⟨rfl, rfl⟩ | ⟨rfl, rfl⟩
   ·exact (hc x hxT).1 hz
   ·exact (hc x hxT).2 hz
 ·exact List.mem_append.2 (.inl (h.ri.done j u hj (old (by have := h.ri.le; omega) hu) v hv q hq))
 ·by_cases e : j = i
  ·subst e
   rw [hx] at hu
   cases hu
   rw [hy] at hv
   cases hv
   simp
  ·exact List.mem_append.2 (.inl (h.part j u (by omega) hu v hv))

theorem RJ.next {nb : Nat} {T : List LK} {b : Int} {S : List Int} {p : Nat} {z : Int} (h : RJ nb T b S p z T.length) : RI nb T b S (p + 1) where
 good := h.ri.good
 here := h.ri.here
 le := (List.getElem?_eq_some_iff.1 h.at').1
 rch := h.ri.rch
 done := fun j u hj hu x hx y hy => by
  by_cases e : j = p
  ·subst e
   rw [h.at'] at hu
   cases hu
   obtain ⟨k, hk, rfl⟩ := List.mem_iff_getElem.1 hx
   exact h.part k _ hk (List.getElem?_eq_getElem hk) y hy
  ·exact h.ri.done j u (by omega) hu x hx y hy

theorem RI.all {nb : Nat} {T : List LK} {b : Int} {S : List Int} (h : RI nb T b S S.length) {z : Int} : z ∈ S ↔ RchT T b z := by
 refine ⟨h.rch z, fun hr => hr _ h.here (fun x hx => ⟨fun ha => ?_, fun hb => ?_⟩)⟩
 ·obtain ⟨j, hj, e⟩ := List.mem_iff_getElem.1 ha
  exact h.done j x.a hj (by rw [List.getElem?_eq_getElem hj, e]) x hx x.b (by unfold across; rw [if_pos rfl])
 ·by_cases e : x.b = x.a
  ·rw [← e]; exact hb
  ·obtain ⟨j, hj, e'⟩ := List.mem_iff_getElem.1 hb
   exact h.done j x.b hj (by rw [List.getElem?_eq_getElem hj, e']) x hx x.a (by unfold across; rw [if_neg e, if_pos rfl])

theorem join_rise (S : List Int) : ∀ k, (joinTo S k).Pairwise (fun a b => a < b)
 | 0 => List.Pairwise.nil
 | k + 1 => by
  unfold joinTo
  split
  ·rw [List.pairwise_append]
   exact ⟨join_rise S k, by simp, fun a ha c hc => by simp at hc; rw [hc]; exact (join_mem.1 ha).2.2⟩
  ·exact join_rise S k

theorem joined_sorted {nb : Nat} {ls : List LK} {l cs S : List Int} {b : Int} (hcs : ∀ k, k ∈ cs ↔ k ∈ l) (hb : inB nb b = true) (h : RI nb (told nb ls cs) b S S.length) : S.mergeSort leI = joined nb ls b l := by
 have hj : joined nb ls b l = joinTo (itTo nb ls l b nb) nb := by unfold joined; rw [if_pos hb]
 have hp := join_rise (itTo nb ls l b nb) nb
 have hperm : S.Perm (joined nb ls b l) := by
  rw [hj]
  refine (List.perm_ext_iff_of_nodup h.good.1 (hp.imp (fun hlt e => by omega))).2 (fun z => ?_)
  rw [h.all, ← rch_told hcs hb, ← it_rch hb, join_mem]
  exact ⟨fun hz => ⟨hz, (it_good hb nb).2 z hz⟩, fun hz => hz.1⟩
 rw [mergeSort_of_perm_i hperm]
 have tr : ∀ a b c : Int, leI a b = true → leI b c = true → leI a c = true := fun a b c h1 h2 => by simp only [leI, decide_eq_true_eq] at *; omega
 have tot : ∀ a b : Int, (leI a b || leI b a) = true := fun a b => by simp only [leI, Bool.or_eq_true, decide_eq_true_eq]; omega
 refine List.Perm.eq_of_pairwise (le := fun a b => leI a b = true) (fun a c _ _ h1 h2 => ?_) (List.pairwise_mergeSort tr tot _) ?_ (List.mergeSort_perm _ leI)
 ·simp only [leI, decide_eq_true_eq] at h1 h2
  omega
 ·rw [hj]
  exact hp.imp (fun hlt => by simp only [leI, decide_eq_true_eq]; omega)

theorem upTo_mem {d : Array Int} : ∀ m, m ≤ d.size → ∀ j, j < m → d[j]! ∈ compactUpTo d m
 | 0, _, j, hj => absurd hj (Nat.not_lt_zero _)
 | m + 1, hm, j, hj => by
  rw [compactUpTo_succ]
  by_cases e : j = m
  ·subst e
   by_cases hk : keeps d j = true
   ·rw [if_pos hk]; simp
   ·have hj0 : ¬ (j = 0 ∨ d[j]! ≠ d[j - 1]!) := by simpa [keeps] using hk
    have h0 : j ≠ 0 := fun h => hj0 (.inl h)
    have h1 : d[j]! = d[j - 1]! := Classical.byContradiction fun h => hj0 (.inr h)
    rw [h1]
    exact List.mem_append.2 (.inl (upTo_mem j (by omega) (j - 1) (by omega)))
  ·exact List.mem_append.2 (.inl (upTo_mem m (by omega) j (by omega)))

theorem compact_mem {zs : List Int} {z : Int} : z ∈ compact zs ↔ z ∈ zs := by
 constructor
 ·intro h
  unfold compact compactUpTo at h
  obtain ⟨j, hj, rfl⟩ := List.mem_map.1 h
  have hj := List.mem_range.1 (List.mem_filter.1 hj).1
  simp [hj]
 ·intro h
  obtain ⟨j, hj, rfl⟩ := List.mem_iff_getElem.1 h
  have := upTo_mem (d := zs.toArray) zs.length (by simp) j hj
  unfold compact
  simpa [hj] using this
theorem compact_len (zs : List Int) : (compact zs).length ≤ zs.length := by
 unfold compact compactUpTo
 rw [List.length_map]
 exact Nat.le_trans (List.length_filter_le _ _) (by simp)

/-! The map of what is reached. -/
open Go.Maps in
def setI (S : List Int) : DataW Unit := setOf (.agg []) (S.map (Lit.int .i64))
open Go.Maps in
theorem key_lit (z : Int) : WideAt.IsKeyLit (.int .i64 z) := by first | exact trivial | (simp [WideAt.IsKeyLit])
open Go.Maps in
theorem has_setI (S : List Int) (z : Int) : has (setI S) (.int .i64 z) = S.contains z := by
 unfold setI
 rw [has_setOf _ _ _ (fun x hx => by obtain ⟨y, _, rfl⟩ := List.mem_map.1 hx; exact key_lit y)]
 rw [List.any_map, Bool.eq_iff_iff, List.any_eq_true, List.contains_iff_mem]
 constructor
 ·rintro ⟨y, hy, h⟩
  by_cases e : y = z
  ·rw [← e]; exact hy
  ·have := sameKey_ne (a := Lit.int .i64 y) (b := Lit.int .i64 z) (fun e' => e (by simpa using e'))
   rw [Function.comp] at h
   rw [this] at h
   cases h
 ·intro h
  exact ⟨z, h, WideAt.sameKey_self (key_lit z)⟩
open Go.Maps in
theorem setI_snoc (S : List Int) (z : Int) : setI (S ++ [z]) = (setI S).put (.int .i64 z) (.agg []) := by
 unfold setI
 rw [List.map_append]
 exact setOf_snoc _ _ _

end

end Go.Proofs.Ytgmkhoakindpkaa
