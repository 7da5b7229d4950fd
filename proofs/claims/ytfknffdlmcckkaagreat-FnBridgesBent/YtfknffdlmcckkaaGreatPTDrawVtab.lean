/-
  Tables that are drawn: rows, and tables that are made of a new one by changes.
-/
import Derived.Test.YtfknffdlmcckkaaGreatPTKW
import Derived.Test.YtfknffdlmcckkaaGreatPTK01
import Derived.Test.YtfknffdlmcckkaaGreatPTK02
import Derived.Test.YtfknffdlmcckkaaGreatPTK03
import Derived.Test.YtfknffdlmcckkaaGreatPTK10
import Derived.Test.YtfknffdlmcckkaaGreatPTK11
import Derived.Test.YtfknffdlmcckkaaGreatPTK16
namespace Go.Proofs.YtfknffdlmcckkaaGreat
open Go.RowKit

abbrev q121 : Oper := ⟨some 28, .load 29 (.tmp 5), 29, "l09_vlan.go:146", #[], none⟩
abbrev q122 : Oper := ⟨some 31, .call ⟨.value (.func 31), #[.tmp 29, .tmp 30], #[60, 3]⟩, 3, "l09_vlan.go:146", #[⟨1, .data⟩, ⟨2, .data⟩], none⟩
abbrev q123 : Oper := ⟨some 33, .call ⟨.value (.func 31), #[.tmp 32, .const (.int .i64 3)], #[60, 3]⟩, 3, "l09_vlan.go:146", #[⟨4, .data⟩, ⟨3, .chain⟩], none⟩
abbrev q124 : Oper := ⟨some 34, .binOp .add 3 (.const (.int .i64 1)) (.tmp 33) 3, 3, "l09_vlan.go:146", #[⟨5, .data⟩], none⟩
abbrev q125 : Oper := ⟨some 35, .call ⟨.value (.func 114), #[.tmp 28, .tmp 31, .tmp 34], #[29, 3, 3]⟩, 140, "l09_vlan.go:146", #[⟨0, .data⟩, ⟨3, .data⟩, ⟨6, .data⟩, ⟨5, .chain⟩], none⟩
abbrev q126 : Oper := ⟨some 27, .move (.tmp 35), 140, "l09_vlan.go:146", #[⟨7, .data⟩], none⟩
abbrev q127 : Oper := ⟨some 36, .extract (.tmp 27) 0, 29, "l09_vlan.go:146", #[⟨8, .data⟩], none⟩
abbrev q128 : Oper := ⟨some 37, .extract (.tmp 27) 1, 4, "l09_vlan.go:146", #[⟨8, .data⟩, { on := 11, ground := Ground.gcOnly Departure.lateStores }], none⟩
abbrev q129 : Oper := ⟨none, .store 29 (.tmp 5) (.tmp 36), 0, "l09_vlan.go:146", #[⟨9, .data⟩, ⟨7, .chain⟩, ⟨0, .phase⟩, ⟨1, .phase⟩, ⟨2, .phase⟩, ⟨3, .phase⟩, ⟨4, .phase⟩, ⟨5, .phase⟩, ⟨6, .phase⟩, ⟨7, .phase⟩, ⟨8, .phase⟩, ⟨9, .phase⟩, { on := 10, ground := Ground.textOnly Departure.lateStores }], none⟩
abbrev q130 : Oper := ⟨some 41, .load 29 (.tmp 5), 29, "l09_vlan.go:148", #[], none⟩
abbrev q131 : Oper := ⟨some 43, .call ⟨.value (.func 31), #[.tmp 42, .const (.int .i64 2)], #[60, 3]⟩, 3, "l09_vlan.go:148", #[⟨1, .data⟩], none⟩
abbrev q132 : Oper := ⟨some 44, .binOp .add 3 (.const (.int .i64 2)) (.tmp 43) 3, 3, "l09_vlan.go:148", #[⟨2, .data⟩], none⟩
abbrev q133 : Oper := ⟨some 45, .call ⟨.value (.func 115), #[.tmp 41, .tmp 44], #[29, 3]⟩, 140, "l09_vlan.go:148", #[⟨0, .data⟩, ⟨3, .data⟩, ⟨2, .chain⟩], none⟩
abbrev q134 : Oper := ⟨some 40, .move (.tmp 45), 140, "l09_vlan.go:148", #[⟨4, .data⟩], none⟩
abbrev q135 : Oper := ⟨some 46, .extract (.tmp 40) 0, 29, "l09_vlan.go:148", #[⟨5, .data⟩], none⟩
abbrev q136 : Oper := ⟨some 47, .extract (.tmp 40) 1, 4, "l09_vlan.go:148", #[⟨5, .data⟩, { on := 8, ground := Ground.gcOnly Departure.lateStores }], none⟩
abbrev q137 : Oper := ⟨none, .store 29 (.tmp 5) (.tmp 46), 0, "l09_vlan.go:148", #[⟨6, .data⟩, ⟨4, .chain⟩, ⟨0, .phase⟩, ⟨1, .phase⟩, ⟨2, .phase⟩, ⟨3, .phase⟩, ⟨4, .phase⟩, ⟨5, .phase⟩, ⟨6, .phase⟩, { on := 7, ground := Ground.textOnly Departure.lateStores }], none⟩
abbrev q138 : Oper := ⟨some 19, .move (.tmp 0), 60, "l09_vlan.go:150", #[], none⟩
abbrev q139 : Oper := ⟨some 20, .move (.tmp 1), 3, "l09_vlan.go:150", #[], none⟩
abbrev q140 : Oper := ⟨some 18, .load 29 (.tmp 5), 29, "l09_vlan.go:150", #[], none⟩
abbrev q141 : Oper := ⟨some 21, .call ⟨.value (.func 117), #[.tmp 19, .tmp 20], #[60, 3]⟩, 81, "l09_vlan.go:150", #[⟨1, .data⟩, ⟨2, .data⟩], none⟩
abbrev q142 : Oper := ⟨some 22, .call ⟨.value (.func 116), #[.tmp 18, .tmp 21], #[29, 81]⟩, 140, "l09_vlan.go:150", #[⟨0, .data⟩, ⟨3, .data⟩, ⟨3, .chain⟩], none⟩
abbrev q143 : Oper := ⟨some 17, .move (.tmp 22), 140, "l09_vlan.go:150", #[⟨4, .data⟩], none⟩
abbrev q144 : Oper := ⟨some 23, .extract (.tmp 17) 0, 29, "l09_vlan.go:150", #[⟨5, .data⟩], none⟩
abbrev q145 : Oper := ⟨some 24, .extract (.tmp 17) 1, 4, "l09_vlan.go:150", #[⟨5, .data⟩, { on := 8, ground := Ground.gcOnly Departure.lateStores }], none⟩
abbrev q146 : Oper := ⟨none, .store 29 (.tmp 5) (.tmp 23), 0, "l09_vlan.go:150", #[⟨6, .data⟩, ⟨4, .chain⟩, ⟨0, .phase⟩, ⟨1, .phase⟩, ⟨2, .phase⟩, ⟨3, .phase⟩, ⟨4, .phase⟩, ⟨5, .phase⟩, ⟨6, .phase⟩, { on := 7, ground := Ground.textOnly Departure.lateStores }], none⟩

def VR.Few (r : VR) : Prop := r.Rng ∧ 0 ≤ r.b ∧ r.b ≤ 63

structure Fine (v : VT) (p m : Nat) : Prop where
 rows : ∀ r ∈ v.rows, r.Few
 own : v.own.length = p
 len : v.rows.length ≤ m

theorem Fine.mono {v : VT} {p m m' : Nat} (h : Fine v p m) (hm : m ≤ m') : Fine v p m' := ⟨h.rows, h.own, Nat.le_trans h.len hm⟩

theorem Fine.or {x v : VT} {p m : Nat} (hx : Fine x p m) (hv : Fine v p m) : Fine (orV x v).1 p m := by
 unfold orV
 split
 ·exact hx
 ·exact hv

theorem Fine.set {v : VT} {p m : Nat} (h : Fine v p m) (port id : Int) : Fine (setPvid v port id).1 p (m + 1) := by
 unfold setPvid
 split
 ·exact (Fine.or (x := ⟨v.rows, v.own.set port.toNat id⟩) ⟨h.rows, by simpa using h.own, h.len⟩ h).mono (Nat.le_succ _)
 ·exact h.mono (Nat.le_succ _)

theorem Fine.drop {v : VT} {p m : Nat} (h : Fine v p m) (id : Int) : Fine (dropRow v id).1 p (m + 1) := by
 unfold dropRow
 cases rowIdx v.rows id with
 | none => exact h.mono (by omega)
 | some k =>
  simp only
  split
  ·refine (Fine.or (x := ⟨v.rows.take k ++ v.rows.drop (k + 1), v.own⟩) ⟨fun r hr => ?_, h.own, ?_⟩ h).mono (Nat.le_succ _)
   ·rcases List.mem_append.1 hr with hr | hr
    ·exact h.rows r (List.mem_of_mem_take hr)
    ·exact h.rows r (List.mem_of_mem_drop hr)
   ·have := h.len
    simp
    omega
  ·exact h.mono (by omega)

theorem putF_mem (r : VR) : ∀ (l : List VR) (d : Bool) (x : VR), x ∈ putRowF l r d → x ∈ l ∨ x = r
 | [], d, x, hx => by
  cases d
  ·simp [putRowF] at hx
   exact .inr hx
  ·simp [putRowF] at hx
 | y :: t, d, x, hx => by
  rw [show putRowF (y :: t) r d = (if !d && decide (r.i ≤ y.i) then [r] else []) ++ (if y.i != r.i then [y] else []) ++ putRowF t r (d || decide (r.i ≤ y.i)) by simp [putRowF]] at hx
  rcases List.mem_append.1 hx with hx | hx
  ·rcases List.mem_append.1 hx with hx | hx
   ·split at hx
    ·exact .inr (by simpa using hx)
    ·cases hx
   ·split at hx
    ·have e : x = y := by simpa using hx
     subst e
     exact .inl List.mem_cons_self
    ·cases hx
  ·rcases putF_mem r t _ x hx with h | h
   ·exact .inl (List.mem_cons_of_mem _ h)
   ·exact .inr h

theorem putF_size (r : VR) : ∀ (l : List VR) (d : Bool), (putRowF l r d).length ≤ l.length + (if d then 0 else 1)
 | [], d => by cases d <;> simp [putRowF]
 | x :: t, d => by
  have ih := putF_size r t (d || decide (r.i ≤ x.i))
  rw [show putRowF (x :: t) r d = (if !d && decide (r.i ≤ x.i) then [r] else []) ++ (if x.i != r.i then [x] else []) ++ putRowF t r (d || decide (r.i ≤ x.i)) by simp [putRowF]]
  rw [List.length_append, List.length_append, List.length_cons]
  have h2 : (if x.i != r.i then [x] else ([] : List VR)).length ≤ 1 := by split <;> simp
  generalize (if x.i != r.i then [x] else ([] : List VR)) = L at h2 ⊢
  cases d
  ·cases h : decide (r.i ≤ x.i)
   ·rw [h] at ih
    simp at ih ⊢
    omega
   ·rw [h] at ih
    simp at ih ⊢
    omega
  ·simp at ih ⊢
   omega

theorem Fine.row {v : VT} {p m : Nat} (h : Fine v p m) {r : VR} (hr : r.Few) : Fine ⟨putRowF v.rows r false, v.own⟩ p (m + 1) := by
 refine ⟨fun x hx => ?_, h.own, ?_⟩
 ·rcases putF_mem r v.rows false x hx with hx | rfl
  ·exact h.rows x hx
  ·exact hr
 ·have := putF_size r v.rows false
  have := h.len
  simp at *
  omega

theorem Fine.put {v : VT} {p m : Nat} (h : Fine v p m) {r : VR} (hr : r.Few) : Fine (putRow v r).1 p (m + 1) := by
 unfold putRow
 split
 ·exact Fine.or (h.row hr) (h.mono (by omega))
 ·exact h.mono (by omega)

structure VSt (w wr : World) (C : Nat) (a0 : Option Addr) (l0 c0 : Nat) (z0 : List Int) (X B : Nat) (a : Option Addr) (n c : Nat) (o : Option Addr) (p q : Nat) (v : VT) : Prop where
 box : wr.heap[X]? = some (.cells #[.slice a n c, .slice o p q] 29)
 own : VOwn wr B a n c o p q v
 res : wr.heap[w.heap.size]? = some (.cells #[.slice none 0 0, .slice none 0 0] 29)
 went : Went w wr C a0 l0 c0 z0
 hC : C < w.heap.size
 hB : w.heap.size < B
 hX : B ≤ X

theorem VSt.size {w wr : World} {C : Nat} {a0 : Option Addr} {l0 c0 : Nat} {z0 : List Int} {X B : Nat} {a : Option Addr} {n c : Nat} {o : Option Addr} {p q : Nat} {v : VT} (h : VSt w wr C a0 l0 c0 z0 X B a n c o p q v) : B ≤ wr.heap.size := Nat.le_trans h.hX (Nat.le_of_lt (Array.getElem?_eq_some_iff.1 h.box).1)

theorem VSt.below {w wr wx : World} {C : Nat} {a0 : Option Addr} {l0 c0 : Nat} {z0 : List Int} {X B : Nat} {a : Option Addr} {n c : Nat} {o : Option Addr} {p q : Nat} {v : VT} (h : VSt w wr C a0 l0 c0 z0 X B a n c o p q v) (hb : Below wr.heap.size wr wx) : VSt w wx C a0 l0 c0 z0 X B a n c o p q v :=
 ⟨kept_block h.box hb, h.own.below hb, kept_block h.res hb, h.went.made hb, h.hC, h.hB, h.hX⟩

theorem VSt.draw {w wr wx : World} {C : Nat} {a0 : Option Addr} {l0 c0 : Nat} {z0 : List Int} {X B : Nat} {a : Option Addr} {n c : Nat} {o : Option Addr} {p q : Nat} {v : VT} (h : VSt w wr C a0 l0 c0 z0 X B a n c o p q v) (g : Went wr wx C a0 l0 c0 z0) : VSt w wx C a0 l0 c0 z0 X B a n c o p q v := by
 have hC := h.hC
 have hB := h.hB
 have hX := h.hX
 have hl : ∀ b, some C = some b → b < B := by intro b e; cases e; omega
 exact ⟨kept_grown h.box g.grown (by intro k e; cases e; omega), ⟨gown_apart h.own.rows g.grown hl, gown_apart h.own.own g.grown hl, h.own.i64⟩, kept_grown h.res g.grown (by intro k e; cases e; omega), h.went.trans g, hC, hB, hX⟩

theorem boxed2 {w : World} {X : Nat} {x y : Value} {T : TypeId} (hX : w.heap[X]? = some (.cells #[x, y] T)) (u1 u2 : Value) : ((w.setCell ⟨X, 0, none⟩ u1).setCell ⟨X, 1, none⟩ u2).heap[X]? = some (.cells #[u1, u2] T) :=
 set_block5 (j := 1) (set_block5 (j := 0) hX u1) u2

theorem VOwn.boxed {w : World} {base : Nat} {a : Option Addr} {n c : Nat} {o : Option Addr} {p q : Nat} {v : VT} (h : VOwn w base a n c o p q v) {X : Nat} {x y : Value} (hX : w.heap[X]? = some (.cells #[x, y] 29)) (u1 u2 : Value) : VOwn ((w.setCell ⟨X, 0, none⟩ u1).setCell ⟨X, 1, none⟩ u2) base a n c o p q v := by
 have hX1 := set_block5 (j := 0) hX u1
 have r1 := gown_other h.rows (grown_set (rb := X) 0 u1) (box_ne h.rows hX (by decide))
 have o1 := gown_other h.own (grown_set (rb := X) 0 u1) (box_ne h.own hX (by decide))
 exact ⟨gown_other r1 (grown_set (rb := X) 1 u2) (box_ne r1 hX1 (by decide)), gown_other o1 (grown_set (rb := X) 1 u2) (box_ne o1 hX1 (by decide)), h.i64⟩

theorem VSt.set {w wr : World} {C : Nat} {a0 : Option Addr} {l0 c0 : Nat} {z0 : List Int} {X B : Nat} {a : Option Addr} {n c : Nat} {o : Option Addr} {p q : Nat} {v : VT} (h : VSt w wr C a0 l0 c0 z0 X B a n c o p q v) {a' : Option Addr} {n' c' : Nat} {o' : Option Addr} {p' q' : Nat} {v' : VT} (hO : VOwn wr B a' n' c' o' p' q' v') : VSt w ((wr.setCell ⟨X, 0, none⟩ (.slice a' n' c')).setCell ⟨X, 1, none⟩ (.slice o' p' q')) C a0 l0 c0 z0 X B a' n' c' o' p' q' v' := by
 have hC := h.hC
 have hB := h.hB
 have hX := h.hX
 exact ⟨boxed2 h.box _ _, hO.boxed h.box _ _, kept_set (kept_set h.res (by omega)) (by omega), h.went.madeAt (below_set (below_set (Below.refl w.heap.size wr) (by omega) _ _) (by omega) _ _) hC (Nat.le_refl _), hC, hB, hX⟩

theorem VSt.out {w wr : World} {C : Nat} {a0 : Option Addr} {l0 c0 : Nat} {z0 : List Int} {X B : Nat} {a : Option Addr} {n c : Nat} {o : Option Addr} {p q : Nat} {v : VT} (h : VSt w wr C a0 l0 c0 z0 X B a n c o p q v) : VOwn ((wr.setCell ⟨w.heap.size, 0, none⟩ (.slice a n c)).setCell ⟨w.heap.size, 1, none⟩ (.slice o p q)) w.heap.size a n c o p q v ∧ Went w ((wr.setCell ⟨w.heap.size, 0, none⟩ (.slice a n c)).setCell ⟨w.heap.size, 1, none⟩ (.slice o p q)) C a0 l0 c0 z0 :=
 ⟨(h.own.boxed h.res _ _).lt (Nat.le_of_lt h.hB), h.went.madeAt (below_set (below_set (Below.refl w.heap.size wr) (Nat.le_refl _) _ _) (Nat.le_refl _) _ _) h.hC (Nat.le_refl _)⟩

theorem all_small (p : Nat) (h1 : 1 ≤ p) (h6 : p ≤ 6) : 1 ≤ allOf p ∧ allOf p ≤ 63 := by
 rcases (show p = 1 ∨ p = 2 ∨ p = 3 ∨ p = 4 ∨ p = 5 ∨ p = 6 by omega) with rfl | rfl | rfl | rfl | rfl | rfl <;> (unfold allOf; omega)

set_option maxRecDepth 100000 in
set_option maxHeartbeats 2000000 in
theorem l9Row2_any (C : Nat) (a0 : Option Addr) (l0 c0 : Nat) (z0 : List Int) (p : Nat) (hp1 : 1 ≤ p) (hp6 : p ≤ 6) (w : World) (hc : Cur w C a0 l0 c0 z0) :
  Calls Tryz.prog 117 #[.pointer (some ⟨C, 0, none⟩), .int .i64 p] w fun e w' => ∃ r : VR, e = .returned (.agg #[.int .i64 r.i, .int .i64 r.m, .int .i64 r.b]) ∧ r.Few ∧ Went w w' C a0 l0 c0 z0 := by
 have hlt := hc.lt
 generalize hw1 : w.alloc (Obj.cells #[Value.int .i64 0, Value.int .i64 0, Value.int .i64 0] 81) = w1
 have b01 : Below w.heap.size w w1 := by subst hw1; exact below_one _ _
 have k0 : w1.heap[w.heap.size]? = some (.cells #[.int .i64 0, .int .i64 0, .int .i64 0] 81) := by rw [← hw1]; exact block_last _ _
 have wn1 := Went.start hc b01
 have hall := vall_is p (by omega) (by omega)
 obtain ⟨hA1, hA2⟩ := all_small p hp1 hp6
 generalize allOf p = A at hall hA1 hA2
 have hwp : IntKind.u64.wrap (p : Int) = (p : Int) := by rw [IntKind.wrap_u64]; omega
 have hwA : IntKind.i64.wrap (A + 1) = A + 1 := by rw [IntKind.wrap_i64]; omega
 go_enter Tryz.func117, Tryz.ntmps117
 go_wp2_with fail
 refine (below_any C a0 l0 c0 z0 (A + 1) _ wn1.cur (by omega)).mono ?_
 rintro e w2 ⟨m, rfl, hm0, hm1, -, wt2⟩
 have hm1 := hm1 (by omega)
 have wn2 := wn1.trans wt2
 have k2 := kept_grown k0 wt2.grown (by intro k e; cases e; omega)
 clear wt2 wn1
 go_wp2_with fail
 refine (pick_any C a0 l0 c0 z0 [1, 2, 3, 2] _ _ w2 wn2.cur rfl rfl (by simp) (by simp)).mono ?_
 rintro e w3 ⟨i, hi, rfl, wt3⟩
 have hi : 1 ≤ i ∧ i ≤ 3 := by simp at hi; omega
 have wn3 := wn2.trans wt3
 have k3 := kept_grown k2 wt3.grown (by intro k e; cases e; omega)
 clear wt3 wn2 k2
 go_wp2_with fail
 refine (below_any C a0 l0 c0 z0 (A + 1) _ wn3.cur (by omega)).mono ?_
 rintro e w4 ⟨x, rfl, hx0, hx1, -, wt4⟩
 have hx1 := hx1 (by omega)
 have wn4 := wn3.trans wt4
 have k4 := kept_grown k3 wt4.grown (by intro k e; cases e; omega)
 obtain ⟨hb0, hb1⟩ := and_mask m x (by omega)
 obtain ⟨⟨g0, g1, g2⟩, f0, f1, f2⟩ := cells3 k4
 generalize hbb : bits .and .i64 m x = b at hb0 hb1
 have HW := hide (wn4.madeAt (below_set (below_set (below_set (Below.refl w.heap.size w4) (Nat.le_refl _) 0 (.int .i64 i)) (Nat.le_refl _) 1 (.int .i64 m)) (Nat.le_refl _) 2 (.int .i64 b)) hlt (Nat.le_refl _))
 have HF : Hid (VR.Few ⟨i, m, b⟩) := hide (by unfold VR.Few VR.Rng I64; simp only; omega)
 clear wt4 wn4 wn3 k3
 go_wp2
 exact bodyPost_ret (v := .agg #[.int .i64 i, .int .i64 m, .int .i64 b]) (by simp [results, Tryz.results117, go_sem, *]) rfl ⟨⟨i, m, b⟩, rfl, HF.out, HW.out⟩

structure FineOk (v : VT) (p m : Nat) : Prop extends Fine v p m where
 ok : vtabOk v (p : Int) = true

theorem FineOk.mono {v : VT} {p m m' : Nat} (h : FineOk v p m) (hm : m ≤ m') : FineOk v p m' := ⟨h.toFine.mono hm, h.ok⟩

theorem or_ok {x v : VT} {p : Nat} (ho : v.own.length = p) (hv : vtabOk v (p : Int) = true) : vtabOk (orV x v).1 (p : Int) = true := by
 unfold orV
 rw [ho]
 cases hx : vtabOk x (p : Int)
 ·exact hv
 ·exact hx

theorem FineOk.set {v : VT} {p m : Nat} (h : FineOk v p m) (port id : Int) : FineOk (setPvid v port id).1 p (m + 1) := by
 refine ⟨h.toFine.set port id, ?_⟩
 unfold setPvid
 split
 ·exact or_ok h.own h.ok
 ·exact h.ok

theorem FineOk.drop {v : VT} {p m : Nat} (h : FineOk v p m) (id : Int) : FineOk (dropRow v id).1 p (m + 1) := by
 refine ⟨h.toFine.drop id, ?_⟩
 unfold dropRow
 cases rowIdx v.rows id with
 | none => exact h.ok
 | some k =>
  simp only
  split
  ·exact or_ok h.own h.ok
  ·exact h.ok

theorem FineOk.put {v : VT} {p m : Nat} (h : FineOk v p m) {r : VR} (hr : r.Few) : FineOk (putRow v r).1 p (m + 1) := by
 refine ⟨h.toFine.put hr, ?_⟩
 unfold putRow
 split
 ·exact or_ok h.own h.ok
 ·exact h.ok

theorem vtabNew_fit {p : Nat} (h : (decide (1 ≤ (p : Int)) && decide ((p : Int) ≤ 6)) = true) : vtabOk (vtabNew p) p = true := by
 rw [vtabNew_yes h]
 have hp : 1 ≤ p ∧ p ≤ 6 := by simp at h; omega
 rcases (show p = 1 ∨ p = 2 ∨ p = 3 ∨ p = 4 ∨ p = 5 ∨ p = 6 by omega) with rfl | rfl | rfl | rfl | rfl | rfl <;> decide +kernel

set_option maxRecDepth 100000 in
set_option maxHeartbeats 8000000 in
theorem l9Draw_ok (C : Nat) (a0 : Option Addr) (l0 c0 : Nat) (z0 : List Int) (ports : Nat) (hp1 : 1 ≤ ports) (hp6 : ports ≤ 6) (w : World) (hc : Cur w C a0 l0 c0 z0) :
  Calls Tryz.prog 74 #[.pointer (some ⟨C, 0, none⟩), .int .i64 ports] w fun e w' => ∃ a n c o p q v, e = .returned (.agg #[.slice a n c, .slice o p q]) ∧ VOwn w' w.heap.size a n c o p q v ∧ FineOk v ports 6 ∧ Went w w' C a0 l0 c0 z0 := by
 have hlt := hc.lt
 generalize hw1 : w.alloc (Obj.cells #[Value.slice none 0 0, Value.slice none 0 0] 29) = w1
 have b01 : Below w.heap.size w w1 := by subst hw1; exact below_one _ _
 have k0 : w1.heap[w.heap.size]? = some (.cells #[.slice none 0 0, .slice none 0 0] 29) := by rw [← hw1]; exact block_last _ _
 have z1 : w.heap.size < w1.heap.size := by rw [← hw1]; simp
 have hin : (decide (1 ≤ (ports : Int)) && decide ((ports : Int) ≤ 6)) = true := by simp; omega
 obtain ⟨hA1, hA2⟩ := all_small ports hp1 hp6
 have hF0 : FineOk (vtabNew ports) ports 1 := by
  refine ⟨?_, vtabNew_fit hin⟩
  rw [vtabNew_yes hin]
  refine ⟨fun r hr => ?_, by simp, Nat.le_refl _⟩
  have : r = ⟨1, allOf ports, allOf ports⟩ := by simpa using hr
  subst this
  unfold VR.Few VR.Rng I64
  simp only
  omega
 clear hin hA1 hA2
 go_enter Tryz.func74, Tryz.ntmps74
 go_wp2_with fail
 refine (specVtabNew_made (ports : Int) _).mono ?_
 rintro e w2 ⟨a, n, c, o, p, q, rfl, t2, hb2⟩
 generalize vtabNew (ports : Int) = v0 at t2 hF0
 obtain ⟨B, hB⟩ : ∃ B, B = w1.heap.size := ⟨_, rfl⟩
 generalize hwX : w2.alloc (Obj.cells #[Value.slice a n c, Value.slice o p q] 29) = wX
 have b2X : Below w2.heap.size w2 wX := by subst hwX; exact below_one _ _
 have st : VSt w wX C a0 l0 c0 z0 w2.heap.size B a n c o p q v0 := ⟨by rw [← hwX]; exact block_last _ _, by rw [hB]; exact t2.below b2X, kept_block k0 (gr_trans hb2 b2X), Went.start hc (gr_trans b01 (gr_trans hb2 b2X)), hlt, by rw [hB]; exact z1, by rw [hB]; exact hb2.size⟩
 obtain ⟨⟨x0, x1⟩, x2, x3⟩ := cells2 st.box
 clear t2 hb2 b2X k0
 go_wp2_with fail
 refine (below_any C a0 l0 c0 z0 6 _ st.went.cur (by omega)).mono ?_
 rintro e w3 ⟨x, rfl, hx0, hx1, -, wtx⟩
 have hx1 := hx1 (by omega)
 obtain ⟨mx, rfl⟩ : ∃ m : Nat, x = m := ⟨x.toNat, by omega⟩
 have st := st.draw wtx
 clear wtx x0 x1 x2 x3 hwX
 generalize w2.heap.size = X at st ⊢
 go_wp2
 go_loopw [6] (fun i wr => ∃ (k : Nat) (a : Option Addr) (n c : Nat) (o : Option Addr) (p q : Nat) (v : VT), k ≤ 5 ∧ i = .int .i64 k ∧ VSt w wr C a0 l0 c0 z0 X B a n c o p q v ∧ FineOk v ports (6 - k)) (fun i _ => (intOf i).toNat)
 case atStart => exact ⟨mx, a, n, c, o, p, q, v0, by omega, rfl, st, hF0.mono (by omega)⟩
 case round =>
  clear st hF0
  obtain ⟨k, a, n, c, o, p, q, v, hk, rfl, st, hF⟩ := hrel
  have hnp := st.own.len
  have hFl := hF.len
  have hFo := hF.own
  have HF := hide hF
  clear hF
  by_cases hk0 : 0 < k
  ·obtain ⟨⟨x0, x1⟩, -⟩ := cells2 st.box
   go_wp2_with fail
   refine (below_any C a0 l0 c0 z0 4 _ st.went.cur (by omega)).mono ?_
   rintro e w4 ⟨x, rfl, hx0, hx1, -, wtx⟩
   have hx1 := hx1 (by omega)
   have st := st.draw wtx
   clear wtx x0 x1
   have st := st.below (gr_drew (Below.refl _ _))
   have h78 : n ≤ 16777216 ∧ p ≤ 16777216 := by omega
   have HN := hide hnp
   clear hnp hFl hFo
   obtain ⟨⟨x0, x1⟩, -⟩ := cells2 st.box
   rcases (show x = 0 ∨ x = 1 ∨ x = 2 ∨ x = 3 by omega) with rfl | rfl | rfl | rfl
   ·go_wp2_with fail
    refine wp_region_held_drew (S := (fun _ => True)) (by kernel_rfl) (trivial) (fun hHeld => ?_)
    refine kK 1 ⟨some 29, .move (.tmp 0), 60, "l09_vlan.go:146", #[], none⟩ ?_
    refine kK 2 ⟨some 30, .move (.tmp 1), 3, "l09_vlan.go:146", #[], none⟩ ?_
    refine kK 4 ⟨some 32, .move (.tmp 0), 60, "l09_vlan.go:146", #[], none⟩ ?_
    refine tR [0, 3] ?_
    refine AllReadyH.cons (o := q121) rfl (fun K hK => ?_) ?_
    ·go_simp
     refine hK.out _ _ (trivial) (fun hHeld => ?_)
     clear hK K
     try simp only [Act.put, lA, lB, lC]
     refine tR [3] ?_
     refine AllReadyH.cons (o := q122) rfl (fun K hK => ?_) ?_
     ·go_simp
      refine (below_any C a0 l0 c0 z0 (ports : Int) _ st.went.cur (by omega)).mono ?_
      rintro e wx ⟨y, rfl, y0, y1, -, wtx⟩
      have y1 := y1 (by omega)
      have st := st.draw wtx
      clear wtx x0 x1
      obtain ⟨⟨x0, x1⟩, -⟩ := cells2 st.box
      go_wp2_with fail
      refine hK.out _ _ (trivial) (fun hHeld => ?_)
      clear hK K
      try simp only [Act.put, lA, lB, lC]
      refine tR [5] ?_
      refine AllReadyH.cons (o := q123) rfl (fun K hK => ?_) ?_
      ·go_simp
       refine (below_any C a0 l0 c0 z0 3 _ st.went.cur (by omega)).mono ?_
       rintro e wx ⟨z, rfl, z0, z1, -, wtx⟩
       have z1 := z1 (by omega)
       have st := st.draw wtx
       clear wtx x0 x1
       obtain ⟨⟨x0, x1⟩, -⟩ := cells2 st.box
       have hz : IntKind.i64.wrap (1 + z) = 1 + z := by rw [IntKind.wrap_i64]; omega
       go_wp2_with fail
       refine hK.out _ _ (trivial) (fun hHeld => ?_)
       clear hK K
       try simp only [Act.put, lA, lB, lC]
       refine kK 6 q124 ?_
       refine tR [7] ?_
       refine AllReadyH.cons (o := q125) rfl (fun K hK => ?_) ?_
       ·go_simp
        refine (specSetPvid_made a n c o p q v y (1 + z) _ st.own.tab (by omega) (by omega) (by omega)).mono ?_
        rintro e wx ⟨a7, n7, c7, o7, p7, q7, rfl, hO, hb⟩
        have hF := HF.out.set y (1 + z)
        have hO := hO.lt (base' := B) st.size
        have st := st.below hb
        generalize setPvid v y (1 + z) = V7 at hO hF ⊢
        clear hb x0 x1
        obtain ⟨⟨x0, x1⟩, -⟩ := cells2 st.box
        go_wp2_with fail
        refine hK.out _ _ (trivial) (fun hHeld => ?_)
        clear hK K
        try simp only [Act.put, lA, lB, lC]
        refine kK 8 q126 ?_
        refine kK 9 q127 ?_
        refine kK 10 q128 ?_
        refine tR [11] ?_
        refine AllReadyH.cons (o := q129) rfl (fun K hK => ?_) ?_
        ·obtain ⟨⟨g0, g1⟩, f0, f1⟩ := cells2 st.box
         go_simp
         have st := st.set hO
         clear g0 g1 f0 f1 hO
         refine hK.out _ _ (trivial) (fun hHeld => ?_)
         clear hK K
         try simp only [Act.put, lA, lB, lC]
         refine wpAnyH_done (by kernel_rfl) ?_ _
         clear hHeld
         go_wp2
         go_roundw
         case rel => exact ⟨k - 1, a7, n7, c7, o7, p7, q7, V7.1, by omega, by go_num, st, hF.mono (by omega)⟩
         case measure => simp [intOf]; omega
        exact AllReadyH.nil
       exact AllReadyH.nil
      exact AllReadyH.nil
     exact AllReadyH.nil
    refine AllReadyH.cons (o := q122) rfl (fun K hK => ?_) ?_
    ·go_simp
     refine (below_any C a0 l0 c0 z0 (ports : Int) _ st.went.cur (by omega)).mono ?_
     rintro e wx ⟨y, rfl, y0, y1, -, wtx⟩
     have y1 := y1 (by omega)
     have st := st.draw wtx
     clear wtx x0 x1
     obtain ⟨⟨x0, x1⟩, -⟩ := cells2 st.box
     go_wp2_with fail
     refine hK.out _ _ (trivial) (fun hHeld => ?_)
     clear hK K
     try simp only [Act.put, lA, lB, lC]
     refine tR [0, 5] ?_
     refine AllReadyH.cons (o := q121) rfl (fun K hK => ?_) ?_
     ·go_simp
      refine hK.out _ _ (trivial) (fun hHeld => ?_)
      clear hK K
      try simp only [Act.put, lA, lB, lC]
      refine tR [5] ?_
      refine AllReadyH.cons (o := q123) rfl (fun K hK => ?_) ?_
      ·go_simp
       refine (below_any C a0 l0 c0 z0 3 _ st.went.cur (by omega)).mono ?_
       rintro e wx ⟨z, rfl, z0, z1, -, wtx⟩
       have z1 := z1 (by omega)
       have st := st.draw wtx
       clear wtx x0 x1
       obtain ⟨⟨x0, x1⟩, -⟩ := cells2 st.box
       have hz : IntKind.i64.wrap (1 + z) = 1 + z := by rw [IntKind.wrap_i64]; omega
       go_wp2_with fail
       refine hK.out _ _ (trivial) (fun hHeld => ?_)
       clear hK K
       try simp only [Act.put, lA, lB, lC]
       refine kK 6 q124 ?_
       refine tR [7] ?_
       refine AllReadyH.cons (o := q125) rfl (fun K hK => ?_) ?_
       ·go_simp
        refine (specSetPvid_made a n c o p q v y (1 + z) _ st.own.tab (by omega) (by omega) (by omega)).mono ?_
        rintro e wx ⟨a7, n7, c7, o7, p7, q7, rfl, hO, hb⟩
        have hF := HF.out.set y (1 + z)
        have hO := hO.lt (base' := B) st.size
        have st := st.below hb
        generalize setPvid v y (1 + z) = V7 at hO hF ⊢
        clear hb x0 x1
        obtain ⟨⟨x0, x1⟩, -⟩ := cells2 st.box
        go_wp2_with fail
        refine hK.out _ _ (trivial) (fun hHeld => ?_)
        clear hK K
        try simp only [Act.put, lA, lB, lC]
        refine kK 8 q126 ?_
        refine kK 9 q127 ?_
        refine kK 10 q128 ?_
        refine tR [11] ?_
        refine AllReadyH.cons (o := q129) rfl (fun K hK => ?_) ?_
        ·obtain ⟨⟨g0, g1⟩, f0, f1⟩ := cells2 st.box
         go_simp
         have st := st.set hO
         clear g0 g1 f0 f1 hO
         refine hK.out _ _ (trivial) (fun hHeld => ?_)
         clear hK K
         try simp only [Act.put, lA, lB, lC]
         refine wpAnyH_done (by kernel_rfl) ?_ _
         clear hHeld
         go_wp2
         go_roundw
         case rel => exact ⟨k - 1, a7, n7, c7, o7, p7, q7, V7.1, by omega, by go_num, st, hF.mono (by omega)⟩
         case measure => simp [intOf]; omega
        exact AllReadyH.nil
       exact AllReadyH.nil
      exact AllReadyH.nil
     refine AllReadyH.cons (o := q123) rfl (fun K hK => ?_) ?_
     ·go_simp
      refine (below_any C a0 l0 c0 z0 3 _ st.went.cur (by omega)).mono ?_
      rintro e wx ⟨z, rfl, z0, z1, -, wtx⟩
      have z1 := z1 (by omega)
      have st := st.draw wtx
      clear wtx x0 x1
      obtain ⟨⟨x0, x1⟩, -⟩ := cells2 st.box
      have hz : IntKind.i64.wrap (1 + z) = 1 + z := by rw [IntKind.wrap_i64]; omega
      go_wp2_with fail
      refine hK.out _ _ (trivial) (fun hHeld => ?_)
      clear hK K
      try simp only [Act.put, lA, lB, lC]
      refine kK 6 q124 ?_
      refine tR [0] ?_
      refine AllReadyH.cons (o := q121) rfl (fun K hK => ?_) ?_
      ·go_simp
       refine hK.out _ _ (trivial) (fun hHeld => ?_)
       clear hK K
       try simp only [Act.put, lA, lB, lC]
       refine tR [7] ?_
       refine AllReadyH.cons (o := q125) rfl (fun K hK => ?_) ?_
       ·go_simp
        refine (specSetPvid_made a n c o p q v y (1 + z) _ st.own.tab (by omega) (by omega) (by omega)).mono ?_
        rintro e wx ⟨a7, n7, c7, o7, p7, q7, rfl, hO, hb⟩
        have hF := HF.out.set y (1 + z)
        have hO := hO.lt (base' := B) st.size
        have st := st.below hb
        generalize setPvid v y (1 + z) = V7 at hO hF ⊢
        clear hb x0 x1
        obtain ⟨⟨x0, x1⟩, -⟩ := cells2 st.box
        go_wp2_with fail
        refine hK.out _ _ (trivial) (fun hHeld => ?_)
        clear hK K
        try simp only [Act.put, lA, lB, lC]
        refine kK 8 q126 ?_
        refine kK 9 q127 ?_
        refine kK 10 q128 ?_
        refine tR [11] ?_
        refine AllReadyH.cons (o := q129) rfl (fun K hK => ?_) ?_
        ·obtain ⟨⟨g0, g1⟩, f0, f1⟩ := cells2 st.box
         go_simp
         have st := st.set hO
         clear g0 g1 f0 f1 hO
         refine hK.out _ _ (trivial) (fun hHeld => ?_)
         clear hK K
         try simp only [Act.put, lA, lB, lC]
         refine wpAnyH_done (by kernel_rfl) ?_ _
         clear hHeld
         go_wp2
         go_roundw
         case rel => exact ⟨k - 1, a7, n7, c7, o7, p7, q7, V7.1, by omega, by go_num, st, hF.mono (by omega)⟩
         case measure => simp [intOf]; omega
        exact AllReadyH.nil
       exact AllReadyH.nil
      exact AllReadyH.nil
     exact AllReadyH.nil
    exact AllReadyH.nil
   ·go_wp2_with fail
    refine wp_region_held_drew (S := (fun _ => True)) (by kernel_rfl) (trivial) (fun hHeld => ?_)
    refine kK 1 ⟨some 42, .move (.tmp 0), 60, "l09_vlan.go:148", #[], none⟩ ?_
    refine tR [0, 2] ?_
    refine AllReadyH.cons (o := q130) rfl (fun K hK => ?_) ?_
    ·go_simp
     refine hK.out _ _ (trivial) (fun hHeld => ?_)
     clear hK K
     try simp only [Act.put, lA, lB, lC]
     refine tR [2] ?_
     refine AllReadyH.cons (o := q131) rfl (fun K hK => ?_) ?_
     ·go_simp
      refine (below_any C a0 l0 c0 z0 2 _ st.went.cur (by omega)).mono ?_
      rintro e wx ⟨z, rfl, z0, z1, -, wtx⟩
      have z1 := z1 (by omega)
      have st := st.draw wtx
      clear wtx x0 x1
      obtain ⟨⟨x0, x1⟩, -⟩ := cells2 st.box
      have hz : IntKind.i64.wrap (2 + z) = 2 + z := by rw [IntKind.wrap_i64]; omega
      go_wp2_with fail
      refine hK.out _ _ (trivial) (fun hHeld => ?_)
      clear hK K
      try simp only [Act.put, lA, lB, lC]
      refine kK 3 q132 ?_
      refine tR [4] ?_
      refine AllReadyH.cons (o := q133) rfl (fun K hK => ?_) ?_
      ·go_simp
       refine (specDropRow_made a n c o p q v (2 + z) _ st.own.tab (by omega) (by omega)).mono ?_
       rintro e wx ⟨a7, n7, c7, o7, p7, q7, rfl, hO, hb⟩
       have hF := HF.out.drop (2 + z)
       have hO := hO.lt (base' := B) st.size
       have st := st.below hb
       generalize dropRow v (2 + z) = V7 at hO hF ⊢
       clear hb x0 x1
       obtain ⟨⟨x0, x1⟩, -⟩ := cells2 st.box
       go_wp2_with fail
       refine hK.out _ _ (trivial) (fun hHeld => ?_)
       clear hK K
       try simp only [Act.put, lA, lB, lC]
       refine kK 5 q134 ?_
       refine kK 6 q135 ?_
       refine kK 7 q136 ?_
       refine tR [8] ?_
       refine AllReadyH.cons (o := q137) rfl (fun K hK => ?_) ?_
       ·obtain ⟨⟨g0, g1⟩, f0, f1⟩ := cells2 st.box
        go_simp
        have st := st.set hO
        clear g0 g1 f0 f1 hO
        refine hK.out _ _ (trivial) (fun hHeld => ?_)
        clear hK K
        try simp only [Act.put, lA, lB, lC]
        refine wpAnyH_done (by kernel_rfl) ?_ _
        clear hHeld
        go_wp2
        go_roundw
        case rel => exact ⟨k - 1, a7, n7, c7, o7, p7, q7, V7.1, by omega, by go_num, st, hF.mono (by omega)⟩
        case measure => simp [intOf]; omega
       exact AllReadyH.nil
      exact AllReadyH.nil
     exact AllReadyH.nil
    refine AllReadyH.cons (o := q131) rfl (fun K hK => ?_) ?_
    ·go_simp
     refine (below_any C a0 l0 c0 z0 2 _ st.went.cur (by omega)).mono ?_
     rintro e wx ⟨z, rfl, z0, z1, -, wtx⟩
     have z1 := z1 (by omega)
     have st := st.draw wtx
     clear wtx x0 x1
     obtain ⟨⟨x0, x1⟩, -⟩ := cells2 st.box
     have hz : IntKind.i64.wrap (2 + z) = 2 + z := by rw [IntKind.wrap_i64]; omega
     go_wp2_with fail
     refine hK.out _ _ (trivial) (fun hHeld => ?_)
     clear hK K
     try simp only [Act.put, lA, lB, lC]
     refine kK 3 q132 ?_
     refine tR [0] ?_
     refine AllReadyH.cons (o := q130) rfl (fun K hK => ?_) ?_
     ·go_simp
      refine hK.out _ _ (trivial) (fun hHeld => ?_)
      clear hK K
      try simp only [Act.put, lA, lB, lC]
      refine tR [4] ?_
      refine AllReadyH.cons (o := q133) rfl (fun K hK => ?_) ?_
      ·go_simp
       refine (specDropRow_made a n c o p q v (2 + z) _ st.own.tab (by omega) (by omega)).mono ?_
       rintro e wx ⟨a7, n7, c7, o7, p7, q7, rfl, hO, hb⟩
       have hF := HF.out.drop (2 + z)
       have hO := hO.lt (base' := B) st.size
       have st := st.below hb
       generalize dropRow v (2 + z) = V7 at hO hF ⊢
       clear hb x0 x1
       obtain ⟨⟨x0, x1⟩, -⟩ := cells2 st.box
       go_wp2_with fail
       refine hK.out _ _ (trivial) (fun hHeld => ?_)
       clear hK K
       try simp only [Act.put, lA, lB, lC]
       refine kK 5 q134 ?_
       refine kK 6 q135 ?_
       refine kK 7 q136 ?_
       refine tR [8] ?_
       refine AllReadyH.cons (o := q137) rfl (fun K hK => ?_) ?_
       ·obtain ⟨⟨g0, g1⟩, f0, f1⟩ := cells2 st.box
        go_simp
        have st := st.set hO
        clear g0 g1 f0 f1 hO
        refine hK.out _ _ (trivial) (fun hHeld => ?_)
        clear hK K
        try simp only [Act.put, lA, lB, lC]
        refine wpAnyH_done (by kernel_rfl) ?_ _
        clear hHeld
        go_wp2
        go_roundw
        case rel => exact ⟨k - 1, a7, n7, c7, o7, p7, q7, V7.1, by omega, by go_num, st, hF.mono (by omega)⟩
        case measure => simp [intOf]; omega
       exact AllReadyH.nil
      exact AllReadyH.nil
     exact AllReadyH.nil
    exact AllReadyH.nil
   ·go_wp2_with fail
    refine wp_region_held_drew (S := (fun _ => True)) (by kernel_rfl) (trivial) (fun hHeld => ?_)
    refine kK 1 q138 ?_
    refine kK 2 q139 ?_
    refine tR [0, 3] ?_
    refine AllReadyH.cons (o := q140) rfl (fun K hK => ?_) ?_
    ·go_simp
     refine hK.out _ _ (trivial) (fun hHeld => ?_)
     clear hK K
     try simp only [Act.put, lA, lB, lC]
     refine tR [3] ?_
     refine AllReadyH.cons (o := q141) rfl (fun K hK => ?_) ?_
     ·go_simp
      refine (l9Row2_any C a0 l0 c0 z0 ports hp1 hp6 _ st.went.cur).mono ?_
      rintro e wx ⟨r, rfl, hr, wtx⟩
      have st := st.draw wtx
      clear wtx x0 x1
      obtain ⟨⟨x0, x1⟩, -⟩ := cells2 st.box
      go_wp2_with fail
      refine hK.out _ _ (trivial) (fun hHeld => ?_)
      clear hK K
      try simp only [Act.put, lA, lB, lC]
      refine tR [4] ?_
      refine AllReadyH.cons (o := q142) rfl (fun K hK => ?_) ?_
      ·go_simp
       refine (specPutRow_made a n c o p q v r _ st.own.tab (by omega) (by omega)).mono ?_
       rintro e wx ⟨a7, n7, c7, o7, p7, q7, rfl, hO, hb⟩
       have hF := HF.out.put hr
       have hO := hO.lt (base' := B) st.size
       have st := st.below hb
       generalize putRow v r = V7 at hO hF ⊢
       clear hb x0 x1
       obtain ⟨⟨x0, x1⟩, -⟩ := cells2 st.box
       go_wp2_with fail
       refine hK.out _ _ (trivial) (fun hHeld => ?_)
       clear hK K
       try simp only [Act.put, lA, lB, lC]
       refine kK 5 q143 ?_
       refine kK 6 q144 ?_
       refine kK 7 q145 ?_
       refine tR [8] ?_
       refine AllReadyH.cons (o := q146) rfl (fun K hK => ?_) ?_
       ·obtain ⟨⟨g0, g1⟩, f0, f1⟩ := cells2 st.box
        go_simp
        have st := st.set hO
        clear g0 g1 f0 f1 hO
        refine hK.out _ _ (trivial) (fun hHeld => ?_)
        clear hK K
        try simp only [Act.put, lA, lB, lC]
        refine wpAnyH_done (by kernel_rfl) ?_ _
        clear hHeld
        go_wp2
        go_roundw
        case rel => exact ⟨k - 1, a7, n7, c7, o7, p7, q7, V7.1, by omega, by go_num, st, hF.mono (by omega)⟩
        case measure => simp [intOf]; omega
       exact AllReadyH.nil
      exact AllReadyH.nil
     exact AllReadyH.nil
    refine AllReadyH.cons (o := q141) rfl (fun K hK => ?_) ?_
    ·go_simp
     refine (l9Row2_any C a0 l0 c0 z0 ports hp1 hp6 _ st.went.cur).mono ?_
     rintro e wx ⟨r, rfl, hr, wtx⟩
     have st := st.draw wtx
     clear wtx x0 x1
     obtain ⟨⟨x0, x1⟩, -⟩ := cells2 st.box
     go_wp2_with fail
     refine hK.out _ _ (trivial) (fun hHeld => ?_)
     clear hK K
     try simp only [Act.put, lA, lB, lC]
     refine tR [0] ?_
     refine AllReadyH.cons (o := q140) rfl (fun K hK => ?_) ?_
     ·go_simp
      refine hK.out _ _ (trivial) (fun hHeld => ?_)
      clear hK K
      try simp only [Act.put, lA, lB, lC]
      refine tR [4] ?_
      refine AllReadyH.cons (o := q142) rfl (fun K hK => ?_) ?_
      ·go_simp
       refine (specPutRow_made a n c o p q v r _ st.own.tab (by omega) (by omega)).mono ?_
       rintro e wx ⟨a7, n7, c7, o7, p7, q7, rfl, hO, hb⟩
       have hF := HF.out.put hr
       have hO := hO.lt (base' := B) st.size
       have st := st.below hb
       generalize putRow v r = V7 at hO hF ⊢
       clear hb x0 x1
       obtain ⟨⟨x0, x1⟩, -⟩ := cells2 st.box
       go_wp2_with fail
       refine hK.out _ _ (trivial) (fun hHeld => ?_)
       clear hK K
       try simp only [Act.put, lA, lB, lC]
       refine kK 5 q143 ?_
       refine kK 6 q144 ?_
       refine kK 7 q145 ?_
       refine tR [8] ?_
       refine AllReadyH.cons (o := q146) rfl (fun K hK => ?_) ?_
       ·obtain ⟨⟨g0, g1⟩, f0, f1⟩ := cells2 st.box
        go_simp
        have st := st.set hO
        clear g0 g1 f0 f1 hO
        refine hK.out _ _ (trivial) (fun hHeld => ?_)
        clear hK K
        try simp only [Act.put, lA, lB, lC]
        refine wpAnyH_done (by kernel_rfl) ?_ _
        clear hHeld
        go_wp2
        go_roundw
        case rel => exact ⟨k - 1, a7, n7, c7, o7, p7, q7, V7.1, by omega, by go_num, st, hF.mono (by omega)⟩
        case measure => simp [intOf]; omega
       exact AllReadyH.nil
      exact AllReadyH.nil
     exact AllReadyH.nil
    exact AllReadyH.nil
   ·go_wp2_with fail
    refine wp_region_held_drew (S := (fun _ => True)) (by kernel_rfl) (trivial) (fun hHeld => ?_)
    refine kK 1 q138 ?_
    refine kK 2 q139 ?_
    refine tR [0, 3] ?_
    refine AllReadyH.cons (o := q140) rfl (fun K hK => ?_) ?_
    ·go_simp
     refine hK.out _ _ (trivial) (fun hHeld => ?_)
     clear hK K
     try simp only [Act.put, lA, lB, lC]
     refine tR [3] ?_
     refine AllReadyH.cons (o := q141) rfl (fun K hK => ?_) ?_
     ·go_simp
      refine (l9Row2_any C a0 l0 c0 z0 ports hp1 hp6 _ st.went.cur).mono ?_
      rintro e wx ⟨r, rfl, hr, wtx⟩
      have st := st.draw wtx
      clear wtx x0 x1
      obtain ⟨⟨x0, x1⟩, -⟩ := cells2 st.box
      go_wp2_with fail
      refine hK.out _ _ (trivial) (fun hHeld => ?_)
      clear hK K
      try simp only [Act.put, lA, lB, lC]
      refine tR [4] ?_
      refine AllReadyH.cons (o := q142) rfl (fun K hK => ?_) ?_
      ·go_simp
       refine (specPutRow_made a n c o p q v r _ st.own.tab (by omega) (by omega)).mono ?_
       rintro e wx ⟨a7, n7, c7, o7, p7, q7, rfl, hO, hb⟩
       have hF := HF.out.put hr
       have hO := hO.lt (base' := B) st.size
       have st := st.below hb
       generalize putRow v r = V7 at hO hF ⊢
       clear hb x0 x1
       obtain ⟨⟨x0, x1⟩, -⟩ := cells2 st.box
       go_wp2_with fail
       refine hK.out _ _ (trivial) (fun hHeld => ?_)
       clear hK K
       try simp only [Act.put, lA, lB, lC]
       refine kK 5 q143 ?_
       refine kK 6 q144 ?_
       refine kK 7 q145 ?_
       refine tR [8] ?_
       refine AllReadyH.cons (o := q146) rfl (fun K hK => ?_) ?_
       ·obtain ⟨⟨g0, g1⟩, f0, f1⟩ := cells2 st.box
        go_simp
        have st := st.set hO
        clear g0 g1 f0 f1 hO
        refine hK.out _ _ (trivial) (fun hHeld => ?_)
        clear hK K
        try simp only [Act.put, lA, lB, lC]
        refine wpAnyH_done (by kernel_rfl) ?_ _
        clear hHeld
        go_wp2
        go_roundw
        case rel => exact ⟨k - 1, a7, n7, c7, o7, p7, q7, V7.1, by omega, by go_num, st, hF.mono (by omega)⟩
        case measure => simp [intOf]; omega
       exact AllReadyH.nil
      exact AllReadyH.nil
     exact AllReadyH.nil
    refine AllReadyH.cons (o := q141) rfl (fun K hK => ?_) ?_
    ·go_simp
     refine (l9Row2_any C a0 l0 c0 z0 ports hp1 hp6 _ st.went.cur).mono ?_
     rintro e wx ⟨r, rfl, hr, wtx⟩
     have st := st.draw wtx
     clear wtx x0 x1
     obtain ⟨⟨x0, x1⟩, -⟩ := cells2 st.box
     go_wp2_with fail
     refine hK.out _ _ (trivial) (fun hHeld => ?_)
     clear hK K
     try simp only [Act.put, lA, lB, lC]
     refine tR [0] ?_
     refine AllReadyH.cons (o := q140) rfl (fun K hK => ?_) ?_
     ·go_simp
      refine hK.out _ _ (trivial) (fun hHeld => ?_)
      clear hK K
      try simp only [Act.put, lA, lB, lC]
      refine tR [4] ?_
      refine AllReadyH.cons (o := q142) rfl (fun K hK => ?_) ?_
      ·go_simp
       refine (specPutRow_made a n c o p q v r _ st.own.tab (by omega) (by omega)).mono ?_
       rintro e wx ⟨a7, n7, c7, o7, p7, q7, rfl, hO, hb⟩
       have hF := HF.out.put hr
       have hO := hO.lt (base' := B) st.size
       have st := st.below hb
       generalize putRow v r = V7 at hO hF ⊢
       clear hb x0 x1
       obtain ⟨⟨x0, x1⟩, -⟩ := cells2 st.box
       go_wp2_with fail
       refine hK.out _ _ (trivial) (fun hHeld => ?_)
       clear hK K
       try simp only [Act.put, lA, lB, lC]
       refine kK 5 q143 ?_
       refine kK 6 q144 ?_
       refine kK 7 q145 ?_
       refine tR [8] ?_
       refine AllReadyH.cons (o := q146) rfl (fun K hK => ?_) ?_
       ·obtain ⟨⟨g0, g1⟩, f0, f1⟩ := cells2 st.box
        go_simp
        have st := st.set hO
        clear g0 g1 f0 f1 hO
        refine hK.out _ _ (trivial) (fun hHeld => ?_)
        clear hK K
        try simp only [Act.put, lA, lB, lC]
        refine wpAnyH_done (by kernel_rfl) ?_ _
        clear hHeld
        go_wp2
        go_roundw
        case rel => exact ⟨k - 1, a7, n7, c7, o7, p7, q7, V7.1, by omega, by go_num, st, hF.mono (by omega)⟩
        case measure => simp [intOf]; omega
       exact AllReadyH.nil
      exact AllReadyH.nil
     exact AllReadyH.nil
    exact AllReadyH.nil
  ·obtain ⟨⟨x0, x1⟩, -⟩ := cells2 st.box
   obtain ⟨⟨g0, g1⟩, f0, f1⟩ := cells2 st.res
   have hk' : k = 0 := by omega
   subst hk'
   have HO := hide st.out
   clear st hnp hFl hFo
   go_wp2
   exact bodyPost_ret (v := .agg #[.slice a n c, .slice o p q]) (by simp [results, Tryz.results74, go_sem, *]) rfl ⟨_, _, _, _, _, _, _, rfl, HO.out.1, HF.out, HO.out.2⟩

theorem l9Draw_any (C : Nat) (a0 : Option Addr) (l0 c0 : Nat) (z0 : List Int) (ports : Nat) (hp1 : 1 ≤ ports) (hp6 : ports ≤ 6) (w : World) (hc : Cur w C a0 l0 c0 z0) :
  Calls Tryz.prog 74 #[.pointer (some ⟨C, 0, none⟩), .int .i64 ports] w fun e w' => ∃ a n c o p q v, e = .returned (.agg #[.slice a n c, .slice o p q]) ∧ VOwn w' w.heap.size a n c o p q v ∧ Fine v ports 6 ∧ Went w w' C a0 l0 c0 z0 :=
 (l9Draw_ok C a0 l0 c0 z0 ports hp1 hp6 w hc).mono (fun _ _ ⟨a, n, c, o, p, q, v, e, hO, hF, hW⟩ => ⟨a, n, c, o, p, q, v, e, hO, hF.toFine, hW⟩)

end Go.Proofs.YtfknffdlmcckkaaGreat
