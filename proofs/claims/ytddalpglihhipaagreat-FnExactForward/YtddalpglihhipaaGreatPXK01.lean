/-
  Packed: Base Help Mem OwnGen Flat FlatOwn.
-/
import Derived.Test.YtddalpglihhipaaGreatRows
import Derived.WalkKit
import Derived.WalkSpells
import Derived.WalkLawsBesides
import Derived.Deep.QuietTactic
import Derived.BigQuiet
import Derived.Laws.AppendOwnNone
import Derived.Deep.RegionWith
import Derived.Deep.RegionLaw
import Derived.Deep.RegionHeld
import Derived.Lib.SmallJoins
namespace Go.Proofs.YtddalpglihhipaaGreat
open Go.RowKit

theorem lA {α : Type} (l : List α) (i : Nat) (a : α) : l.toArray.setIfInBounds i a = (l.set i a).toArray := List.setIfInBounds_toArray ..

theorem lB {α : Type} (a b : α) (l : List α) : (a :: l).set 0 b = b :: l := List.set_cons_zero

theorem lC {α : Type} (a b : α) (l : List α) (n : Nat) : (a :: l).set (n + 1) b = a :: l.set n b := List.set_cons_succ

def cB (zs : List Int) : List Value := zs.map (Value.int .u8)

def Byt (zs : List Int) : Prop := ∀ z ∈ zs, 0 ≤ z ∧ z ≤ 255

theorem cB_length (zs : List Int) : (cB zs).length = zs.length := by simp [cB]
theorem cB_append (a b : List Int) : cB (a ++ b) = cB a ++ cB b := by simp [cB]
theorem cB_get (zs : List Int) (j : Nat) (h : j < zs.length) : (cB zs)[j]? = some (.int .u8 (zs.getD j 0)) := by
 simp [cB, List.getElem?_map, List.getElem?_eq_getElem h]

structure Row (w : World) (ao : Option Addr) (len cap : Nat) (zs : List Int) : Prop where
 size : zs.length = len
 le : len ≤ cap
 top : cap ≤ maxLen
 nil : ao = none → cap = 0
 byte : Byt zs
 cell : len = 0 ∨ ∃ b off, ao = some ⟨b, off, none⟩ ∧ ∀ i, i < len → w.cell? ⟨b, off + i, none⟩ = some (.int .u8 (zs.getD i 0))

theorem block_lt {w : World} {a : Addr} {v : Value} (h : w.cell? a = some v) : a.block < w.heap.size := by
 unfold World.cell? at h
 by_cases hb : a.block < w.heap.size
 ·exact hb
 ·rw [Array.getElem?_eq_none (by omega)] at h
  simp at h

theorem Row.below {w w' : World} {ao : Option Addr} {len cap : Nat} {zs : List Int} (h : Row w ao len cap zs) (hb : Below w.heap.size w w') : Row w' ao len cap zs where
 size := h.size
 le := h.le
 top := h.top
 nil := h.nil
 byte := h.byte
 cell := by
  rcases h.cell with h0 | ⟨b, off, ha, hc⟩
  ·exact .inl h0
  ·exact .inr ⟨b, off, ha, fun i hi => by rw [hb.cell (block_lt (hc i hi))]; exact hc i hi⟩

theorem below_drewN {B : Nat} {a w : World} (h : Below B a w) (n : Nat) : Below B a (w.drewN n) :=
 ⟨h.os, h.tape, h.output, h.size, h.block⟩

theorem own_below {w w' : World} {base : Nat} {e : TypeId} {v : Value} {n : Nat} {xs : List Value} (h : w.ownsRow base e 1 v n xs) (hb : Below w.heap.size w w') : w'.ownsRow base e 1 v n xs := by
 obtain ⟨hl, h | ⟨g, cap, cur, rfl, hg, hh, h1, h2, h3, h4⟩⟩ := h
 ·exact ⟨hl, .inl h⟩
 ·refine ⟨hl, .inr ⟨g, cap, cur, rfl, hg, ?_, h1, h2, h3, h4⟩⟩
  rw [hb.block g ?_]
  ·exact hh
  ·by_cases hlt : g < w.heap.size
   ·exact hlt
   ·rw [Array.getElem?_eq_none (by omega)] at hh
    simp at hh

theorem row_of_own {w : World} {base : Nat} {v : Value} {n : Nat} {zs : List Int} (h : w.ownsRow base 5 1 v n (cB zs)) (hz : Byt zs) :
  ∃ ao cap, v = .slice ao n cap ∧ Row w ao n cap zs := by
 have hl : zs.length = n := by have := h.1; simpa [cB] using this
 rcases h.2 with ⟨rfl, rfl⟩ | ⟨g, cap, cur, rfl, hg, hh, h1, h2, h3, h4⟩
 ·exact ⟨none, 0, rfl, hl, Nat.le_refl _, Nat.zero_le _, fun _ => rfl, hz, .inl rfl⟩
 ·refine ⟨_, cap, rfl, hl, h1, h2, (by intro h; cases h), hz, .inr ⟨g, 0, rfl, fun i hi => ?_⟩⟩
  have := h.cellAt i (by omega)
  rw [Nat.zero_add, this, cB_get zs i (by omega)]

theorem own_lt {w : World} {base : Nat} {e : TypeId} {v : Value} {n : Nat} {xs : List Value} (h : w.ownsRow base e 1 v n xs) {base' : Nat} (hle : base' ≤ base) : w.ownsRow base' e 1 v n xs := by
 obtain ⟨hl, h | ⟨g, cap, cur, rfl, hg, hh, h1, h2, h3, h4⟩⟩ := h
 ·exact ⟨hl, .inl h⟩
 ·exact ⟨hl, .inr ⟨g, cap, cur, rfl, by omega, hh, h1, h2, h3, h4⟩⟩

theorem Tryz.infoU8 : (Tryz.prog.info? 5).map (fun i => (i.zero, i.size, i.bytes)) = some (some (.int .u8 0), 1, 1) := by kernel_rfl

theorem add_none (b off j : Nat) : (⟨b, off, none⟩ : Addr).add j = ⟨b, off + j, none⟩ := by
 by_cases h : j = 0 <;> simp [Addr.add, h]

theorem Row.news {w : World} {ao : Option Addr} {len cap : Nat} {zs : List Int} (h : Row w ao len cap zs) (ad : Addr) (ha : ao = some ad) (j : Nat) (u : Value) (hu : (cB zs)[j]? = some u) : w.cell? (ad.add j) = some u := by
 have hj : j < zs.length := by
  by_cases hlt : j < zs.length
  ·exact hlt
  ·rw [List.getElem?_eq_none (by rw [cB_length]; omega)] at hu
   cases hu
 rw [cB_get _ _ hj] at hu
 rcases h.cell with h0 | ⟨b, off, hb, hc⟩
 ·have := h.size; omega
 ·rw [ha] at hb
  cases hb
  rw [← hu]
  rw [add_none]; exact hc j (by have := h.size; omega)

theorem Row.none_zero {w : World} {ao : Option Addr} {len cap : Nat} {zs : List Int} (h : Row w ao len cap zs) (ha : ao = none) : len = 0 ∧ cap = 0 := by
 have := h.nil ha; have := h.le; omega

theorem cB_oneCell (zs : List Int) (u : Value) (h : u ∈ cB zs) : u.oneCell' = true := ints_oneCell .u8 zs u h

theorem byte_append {a b : List Int} (ha : Byt a) (hb : Byt b) : Byt (a ++ b) := by
 intro z hz
 rcases List.mem_append.1 hz with h | h
 ·exact ha z h
 ·exact hb z h

theorem wpList_append_row {P : Program} (w : World) {ops : Array Oper} {rest : List Oper} {o : Oper} {a : Act} {Q : Exit → Act → World → Prop} (hgd : o.guard = none)
  (s x : Operand) (t : TypeId) (ho : o.op = Op.call { callee := Callee.builtin Builtin.append, args := #[s, x], argTypes := #[t, t] }) (base : Nat)
  (ht : P.underlying t = some (TypeDesc.slice 5)) (hinfo : (P.info? 5).map (fun i => (i.zero, i.size, i.bytes)) = some (some (.int .u8 0), 1, 1))
  (v : Value) (n : Nat) (xs : List Int) (hs : a.eval s = v) (hown : w.ownsRow base 5 1 v n (cB xs)) (hxs : Byt xs) (ao : Option Addr) (m c : Nat) (zs : List Int)
  (hx : a.eval x = .slice ao m c) (hrow : Row w ao m c zs) (hsm : n + m ≤ 140737488355328) (hbase : base ≤ w.heap.size)
  (h : ∀ ao' cap' w', w'.ownsRow base 5 1 (.slice ao' (n + m) cap') (n + m) (cB (xs ++ zs)) → Row w' ao' (n + m) cap' (xs ++ zs) → Below base w w' → wpList P ops Q rest (a.put o.dst (.slice ao' (n + m) cap')) w') :
  wpList P ops Q (o :: rest) a w := by
 obtain ⟨i0, hi, hz0, hz1, hz2⟩ := info_parts hinfo
 have hby := byte_append hxs hrow.byte
 rcases ao with _ | ad
 ·obtain ⟨rfl, rfl⟩ := hrow.none_zero rfl
  have hz : zs = [] := List.eq_nil_of_length_eq_zero hrow.size
  subst hz
  refine wpList_append_own_none hgd s x t ho base 5 i0 1 ht hi v n (cB xs) hs hown hx ?_
  obtain ⟨ao', cap', rfl, hr⟩ := row_of_own hown hxs
  have := h ao' cap' w (by simpa using hown) (by simpa using hr) (Below.refl _ _)
  simpa using this
 ·refine wpList_append_own w hgd s x t ho base 5 i0 (.int .u8 0) 1 1 ht hi hz0 hz1 hz2 rfl (by decide) v n (cB xs) hs hown ad m c (cB zs) hx (by rw [cB_length, hrow.size]; omega) (fun j u hu => hrow.news ad rfl j u hu) (cB_oneCell zs) (by unfold maxLen; omega) (by omega) hbase ?_
  intro v' w' how hgr _
  rw [← cB_append] at how
  have hlt := hown.lt
  obtain ⟨ao', cap', rfl, hr⟩ := row_of_own how hby
  exact h ao' cap' w' how hr ((Below.refl _ _).grown hgr hbase (by intro k hk; exact (hlt k hk).1))

theorem hide {p : Prop} (h : p) : Hid p := h

theorem getD_byte {zs : List Int} (h : Byt zs) (j : Nat) : 0 ≤ zs.getD j 0 ∧ zs.getD j 0 ≤ 255 := by
 by_cases hj : j < zs.length
 ·rw [List.getD_eq_getElem?_getD, List.getElem?_eq_getElem hj]; exact h _ (List.getElem_mem hj)
 ·rw [List.getD_eq_getElem?_getD, List.getElem?_eq_none (by omega)]; simp

theorem Row.at {w : World} {ao : Option Addr} {len cap : Nat} {zs : List Int} (h : Row w ao len cap zs) (hp : 0 < len) : ∃ b off, ao = some ⟨b, off, none⟩ ∧ ∀ i, i < len → w.cell? ⟨b, off + i, none⟩ = some (.int .u8 (zs.getD i 0)) := by
 rcases h.cell with h0 | h0
 ·omega
 ·exact h0

theorem Byt.at {zs : List Int} (h : Byt zs) (j : Nat) : 0 ≤ zs.getD j 0 ∧ zs.getD j 0 ≤ 255 := getD_byte h j

theorem row_nil (w : World) : Row w none 0 0 [] := ⟨rfl, Nat.le_refl _, Nat.zero_le _, fun _ => rfl, (by intro z hz; cases hz), .inl rfl⟩

theorem row_open {w : World} {x : Addr} {len cap : Nat} {zs : List Int} (hl : len ≤ cap) (hm : cap ≤ maxLen) (hz : zs.length = cap) (hcell : ∀ i, i < zs.length → w.cell? (x.add i) = some (.int .u8 (zs.getD i 0))) (hwz : ∀ n ∈ zs, (Lit.int .u8 n).wf = true) : Row w (some x) len cap (zs.take len) where
 size := by simp; omega
 le := hl
 top := hm
 nil := by intro h; cases h
 byte := by
  intro z h
  have := hwz z (List.mem_of_mem_take h)
  simp [Lit.wf, IntKind.min, IntKind.max, IntKind.bits, IntKind.signed] at this
  omega
 cell := by
  by_cases h0 : len = 0
  ·exact .inl h0
  ·have hc0 := hcell 0 (by omega)
   obtain ⟨b, off, spot⟩ := x
   have hspot : spot = none := by simpa [Addr.add] using World.cell?_spot hc0
   subst hspot
   refine .inr ⟨b, off, rfl, fun i hi => ?_⟩
   have := hcell i (by omega)
   have e : (⟨b, off, none⟩ : Addr).add i = ⟨b, off + i, none⟩ := by by_cases h : i = 0 <;> simp [Addr.add, h]
   rw [e] at this
   rw [this]
   simp [List.getD_eq_getElem?_getD, hi]

theorem take_succ_getD (l : List Int) (k : Nat) (h : k < l.length) : l.take (k + 1) = l.take k ++ [l.getD k 0] := by
 rw [List.take_succ_eq_append_getElem h]; simp [h]

theorem eq_of_takes {a b : List Int} (hl : a.length = b.length) (h : a.take a.length = b.take a.length) : a = b := by
 rw [List.take_length, hl, List.take_length] at h; exact h

theorem ne_at {a b : List Int} (k : Nat) (h : ¬ a.getD k 0 = b.getD k 0) : ¬ a = b := by
 intro e; exact h (by rw [e])

theorem ret_bool {a b : Bool} (h : a = b) : Ending.returned (.bool a) = .returned (.bool b) := by rw [h]
theorem ret_int {k : IntKind} {a b : Int} (h : a = b) : Ending.returned (.int k a) = .returned (.int k b) := by rw [h]

set_option maxRecDepth 100000 in
set_option maxHeartbeats 400000 in
theorem eq_any (a1 : Option Addr) (l1 c1 : Nat) (z1 : List Int) (a2 : Option Addr) (l2 c2 : Nat) (z2 : List Int) (w : World) (h1 : Row w a1 l1 c1 z1) (h2 : Row w a2 l2 c2 z2) :
  Calls Tryz.prog 87 #[.slice a1 l1 c1, .slice a2 l2 c2] w fun e w' => e = .returned (.bool (decide (z1 = z2))) ∧ ∃ n, w' = w.drewN n := by
 have m1 := h1.top; have m2 := h2.top; have s1 := h1.size; have s2 := h2.size; have e1 := h1.le; have e2 := h2.le
 unfold maxLen at m1 m2
 by_cases hl : l1 = l2
 ·subst hl
  by_cases h0 : l1 = 0
  ·subst h0
   have hz : z1 = z2 := by rw [List.eq_nil_of_length_eq_zero s1, List.eq_nil_of_length_eq_zero s2]
   go_enter Tryz.func87, Tryz.ntmps87
   go_wp2
   go_loop [5] (fun i => i = .int .i64 0) (fun _ => 0)
   case atStart => rfl
   case round =>
    subst hrel
    go_wp2
    go_ret
    exact ⟨by simp, 0, rfl⟩
  ·rcases h1.cell with h | ⟨b1, o1, rfl, g1⟩
   ·exact absurd h h0
   rcases h2.cell with h | ⟨b2, o2, rfl, g2⟩
   ·exact absurd h h0
   clear h1 h2
   have G1 : Hid (∀ i, i < l1 → w.cell? ⟨b1, o1 + i, none⟩ = some (.int .u8 (z1.getD i 0))) := g1
   have G2 : Hid (∀ i, i < l1 → w.cell? ⟨b2, o2 + i, none⟩ = some (.int .u8 (z2.getD i 0))) := g2
   clear g1 g2
   go_enter Tryz.func87, Tryz.ntmps87
   go_wp2
   go_loopw [5] (fun i wr => ∃ k : Nat, k ≤ l1 ∧ i = .int .i64 k ∧ z1.take k = z2.take k ∧ ∃ n, wr = w.drewN n) (fun i _ => l1 - (intOf i).toNat)
   case atStart => exact ⟨0, Nat.zero_le _, rfl, rfl, 0, rfl⟩
   case round =>
    obtain ⟨k, hk, rfl, ht, n, rfl⟩ := hrel
    have HT : Hid (z1.take k = z2.take k) := ht
    clear ht
    by_cases hlt : k < l1
    ·have c1 := G1.out k hlt
     have c2 := G2.out k hlt
     generalize hx : z1.getD k 0 = x at c1
     generalize hy : z2.getD k 0 = y at c2
     have HX : Hid (z1.getD k 0 = x) := hx
     have HY : Hid (z2.getD k 0 = y) := hy
     clear hx hy
     by_cases hq : x = y
     ·subst hq
      go_wp2
      go_quiet (fail)
      go_wp2
      go_roundw
      case rel => exact ⟨k + 1, by omega, by go_num, by rw [take_succ_getD _ _ (by omega), take_succ_getD _ _ (by omega), HT.out, HX.out, HY.out], _, rfl⟩
      case measure => simp [intOf]; omega
     ·have hne : (x != y) = true := by simp [hq]
      go_wp2
      go_quiet (fail)
      go_wp2
      go_ret
      exact ⟨ret_bool (decide_eq_false (ne_at k (by rw [HX.out, HY.out]; exact hq))).symm, _, World.drewN_drewN _ _ _⟩
    ·go_wp2
     go_ret
     have hk' : k = l1 := by omega
     exact ⟨ret_bool (decide_eq_true (eq_of_takes (by omega) (by rw [s1, ← hk']; exact HT.out))).symm, _, rfl⟩
 ·have hne : ((l1 : Int) != (l2 : Int)) = true := by simp; omega
  have hz : ¬ z1 = z2 := by intro e; rw [e] at s1; omega
  go_enter Tryz.func87, Tryz.ntmps87
  go_wp2
  go_ret
  exact ⟨ret_bool (decide_eq_false hz).symm, 0, rfl⟩

def half (zs : List Int) (n k : Nat) : List Value := cB (zs.take k) ++ List.replicate (n - k) (.int .u8 0)

theorem half_length (zs : List Int) (n k : Nat) (h : zs.length = n) (hk : k ≤ n) : (half zs n k).length = n := by
 simp [half, cB_length]; omega

theorem half_set (zs : List Int) (n k : Nat) (h : zs.length = n) (hk : k < n) : (half zs n k).set k (.int .u8 (zs.getD k 0)) = half zs n (k + 1) := by
 have hl : (cB (zs.take k)).length = k := by simp [cB_length]; omega
 unfold half
 rw [List.set_append_right _ _ (by omega), hl, Nat.sub_self, take_succ_getD _ _ (by omega), cB_append]
 obtain ⟨m, hm⟩ : ∃ m, n - k = m + 1 := ⟨n - k - 1, by omega⟩
 have hm' : n - (k + 1) = m := by omega
 rw [hm, hm', List.replicate_succ, List.set_cons_zero]
 simp [cB]

theorem half_all (zs : List Int) (n : Nat) (h : zs.length = n) : half zs n n = cB zs := by
 simp [half, ← h]

theorem half_none (zs : List Int) (n : Nat) : half zs n 0 = List.replicate n (.int .u8 0) := by
 simp [half, cB]

set_option maxRecDepth 100000 in
set_option maxHeartbeats 400000 in
theorem copy_any (a1 : Option Addr) (l1 c1 : Nat) (z1 : List Int) (w : World) (h1 : Row w a1 l1 c1 z1) (hs : l1 ≤ 16777216) :
  Calls Tryz.prog 82 #[.slice a1 l1 c1] w fun e w' => e = .returned (.slice (some ⟨w.heap.size, 0, none⟩) l1 l1) ∧
   w'.ownsRow w.heap.size 5 1 (.slice (some ⟨w.heap.size, 0, none⟩) l1 l1) l1 (cB z1) ∧ Below w.heap.size w w' := by
 obtain ⟨i0, hi, hz0, hz1, hz2⟩ := info_parts Tryz.infoU8
 have s1 := h1.size
 have hcell := h1.cell
 clear h1
 go_enter Tryz.func82, Tryz.ntmps82
 go_wp2_with (at_make; refine wpList_make_full _ rfl _ _ 22 rfl w.heap.size 5 i0 (.int .u8 0) 1 Tryz.underlying22 hi hz0 hz1 .i64 .i64 _ _ l1 rfl rfl rfl rfl ?c1 ?c2 ?c3 ?_)
 case c1 => rw [hz2]; omega
 case c2 => unfold maxLen; omega
 case c3 => exact Nat.le_refl _
 intro w1 hown hgrow
 have hb1 : Below w.heap.size w w1 := (Below.refl _ _).grown hgrow (Nat.le_refl _) (by intro k hk; cases hk)
 have hown1 : w1.ownsRow w.heap.size 5 1 (.slice (some ⟨w.heap.size, 0, none⟩) l1 l1) l1 (half z1 l1 0) := by
  rw [half_none, ← toList_madeCells_one]; simpa [Value.cells] using hown
 clear hown hgrow hi hz0 hz1 hz2
 go_wp2
 go_loopw [4] (fun i wr => ∃ k : Nat, k ≤ l1 ∧ i = .int .i64 k ∧ wr.ownsRow w.heap.size 5 1 (.slice (some ⟨w.heap.size, 0, none⟩) l1 l1) l1 (half z1 l1 k) ∧ Below w.heap.size w wr) (fun i _ => l1 - (intOf i).toNat)
 case atStart => exact ⟨0, Nat.zero_le _, rfl, hown1, hb1⟩
 case round =>
  obtain ⟨k, hk, rfl, hown, hb⟩ := hrel
  by_cases hlt : k < l1
  ·rcases hcell with h0 | ⟨b, off, rfl, hc⟩
   ·omega
   have cx : wr.cell? ⟨b, off + k, none⟩ = some (.int .u8 (z1.getD k 0)) := by rw [hb.cell (block_lt (hc k hlt))]; exact hc k hlt
   have cf := hown.frozenAt k
   have cc : ∃ u, wr.cell? ⟨w.heap.size, k, none⟩ = some u := by
    rw [hown.cellAt k (by omega)]
    exact ⟨_, List.getElem?_eq_getElem (by rw [half_length _ _ _ s1 (by omega)]; exact hlt)⟩
   obtain ⟨u, cu⟩ := cc
   have R := hown.stored k (.int .u8 (z1.getD k 0))
   rw [half_set _ _ _ s1 hlt] at R
   have hb' := hb.setCell (p := ⟨w.heap.size, k, none⟩) (Nat.le_refl _) (.int .u8 (z1.getD k 0))
   have HR := R.1
   generalize hx : z1.getD k 0 = x at cx HR hb'
   have HX : Hid (z1.getD k 0 = x) := hx
   clear hx hc hown R hb hb1 hown1
   go_wp2
   go_roundw
   case rel => exact ⟨k + 1, by omega, by go_num, HR, hb'⟩
   case measure => simp [intOf]; omega
  ·have hk' : k = l1 := by omega
   subst hk'
   rw [half_all _ _ s1] at hown
   go_wp2
   go_ret
   exact ⟨rfl, hown, hb⟩

def marks (k : Int) (n : Nat) : List Int := (List.range n).map fun i : Nat => IntKind.u8.wrap (k + i)

theorem marks_length (k : Int) (n : Nat) : (marks k n).length = n := by simp [marks]
theorem marks_get (k : Int) (n i : Nat) (h : i < n) : (marks k n).getD i 0 = IntKind.u8.wrap (k + i) := by
 simp [marks, List.getD_eq_getElem?_getD, List.getElem?_map, List.getElem?_range h]
theorem marks_succ (k : Int) (n : Nat) : marks k (n + 1) = marks k n ++ [IntKind.u8.wrap (k + n)] := by
 simp [marks, List.range_succ]
theorem wrap_byte (x : Int) : 0 ≤ IntKind.u8.wrap x ∧ IntKind.u8.wrap x ≤ 255 := by
 simp [IntKind.wrap, IntKind.bits, IntKind.signed]; omega
theorem marks_byte (k : Int) (n : Nat) : Byt (marks k n) := by
 intro z hz
 simp only [marks, List.mem_map] at hz
 obtain ⟨i, _, rfl⟩ := hz
 exact wrap_byte _

def marked (k : Int) (zs : List Int) (j : Nat) : List Int := marks k j ++ zs.drop j

theorem marked_set (k : Int) (zs : List Int) (j : Nat) (h : j < zs.length) : (cB (marked k zs j)).set j (.int .u8 (IntKind.u8.wrap (k + j))) = cB (marked k zs (j + 1)) := by
 have hl : (cB (marks k j)).length = j := by rw [cB_length, marks_length]
 unfold marked
 rw [cB_append, List.set_append_right _ _ (by omega), hl, Nat.sub_self, marks_succ, cB_append, cB_append]
 rw [List.drop_eq_getElem_cons h]
 simp only [cB, List.map_cons, List.set_cons_zero, List.map_nil, List.append_assoc, List.cons_append, List.nil_append]

theorem marked_length (k : Int) (zs : List Int) (j : Nat) (h : j ≤ zs.length) : (marked k zs j).length = zs.length := by
 simp [marked, marks_length]; omega

theorem grown_setCell {w0 w : World} {g : Nat} (h : w0.grownBy w (some g)) (j : Nat) (u : Value) : w0.grownBy (w.setCell ⟨g, j, none⟩ u) (some g) where
 os := h.os
 tape := h.tape
 output := h.output
 size := by have := h.size; simpa using this
 block := fun k hk hne => by
  rw [Below.heap_setCell _ _ _ _ (by intro e; exact hne (by rw [e]))]
  exact h.block k hk hne

set_option maxRecDepth 100000 in
set_option maxHeartbeats 400000 in
theorem mark_any (base g n cap : Nat) (zs : List Int) (k : Int) (w : World) (hown : w.ownsRow base 5 1 (.slice (some ⟨g, 0, none⟩) n cap) n (cB zs)) (hn : n ≤ 16777216) (hk0 : 0 ≤ k) (hk1 : k ≤ 1099511627776) :
  Calls Tryz.prog 91 #[.slice (some ⟨g, 0, none⟩) n cap, .int .i64 k] w fun e w' => e = .returned (.int .i64 (k + n)) ∧
   w'.ownsRow base 5 1 (.slice (some ⟨g, 0, none⟩) n cap) n (cB (marks k n)) ∧ w.grownBy w' (some g) := by
 have hl : zs.length = n := by have := hown.1; simpa [cB] using this
 go_enter Tryz.func91, Tryz.ntmps91
 go_wp2
 go_loopw [1, 5] (fun m i wr => ∃ j : Nat, j ≤ n ∧ i = .int .i64 j ∧ m = .int .i64 (k + j) ∧ wr.ownsRow base 5 1 (.slice (some ⟨g, 0, none⟩) n cap) n (cB (marked k zs j)) ∧ w.grownBy wr (some g)) (fun _ i _ => n - (intOf i).toNat)
 case atStart => exact ⟨0, Nat.zero_le _, rfl, by simp, by simpa [marked, marks] using hown, World.grownBy.refl _ _⟩
 case round =>
  obtain ⟨j, hj, rfl, rfl, how, hg⟩ := hrel
  by_cases hlt : j < n
  ·have cf := how.frozenAt j
   have cc : ∃ u, wr.cell? ⟨g, j, none⟩ = some u := by
    rw [how.cellAt j (by omega)]
    exact ⟨_, List.getElem?_eq_getElem (by rw [cB_length, marked_length _ _ _ (by omega)]; omega)⟩
   obtain ⟨u, cu⟩ := cc
   have R := (how.stored j (.int .u8 (IntKind.u8.wrap (k + j)))).1
   rw [marked_set _ _ _ (by omega)] at R
   have hg' := grown_setCell hg j (.int .u8 (IntKind.u8.wrap (k + j)))
   clear how hg hown
   go_wp2
   go_roundw
   case rel => exact ⟨j + 1, by omega, by go_num, by go_num, R, hg'⟩
   case measure => simp [intOf]; omega
  ·have hj' : j = n := by omega
   subst hj'
   have hd : marked k zs j = marks k j := by simp [marked, ← hl]
   rw [hd] at how
   clear hd
   go_wp2
   go_ret
   exact ⟨rfl, how, hg⟩

set_option maxRecDepth 100000 in
set_option maxHeartbeats 400000 in
theorem mark_nil (k : Int) (w : World) :
  Calls Tryz.prog 91 #[.slice none 0 0, .int .i64 k] w fun e w' => e = .returned (.int .i64 k) ∧ w' = w := by
 go_enter Tryz.func91, Tryz.ntmps91
 go_wp2
 go_loop [1, 5] (fun m i => m = .int .i64 k ∧ i = .int .i64 0) (fun _ _ => 0)
 case atStart => exact ⟨rfl, rfl⟩
 case round =>
  obtain ⟨rfl, rfl⟩ := hrel
  go_wp2
  go_ret
  exact ⟨rfl, rfl⟩

set_option maxRecDepth 100000 in
set_option maxHeartbeats 400000 in
theorem held_any (ao : Option Addr) (n cap : Nat) (k : Int) (w : World) (h1 : Row w ao n cap (marks k n)) (hn : n ≤ 16777216) (hk0 : 0 ≤ k) (hk1 : k ≤ 1099511627776) :
  Calls Tryz.prog 95 #[.slice ao n cap, .int .i64 k] w fun e w' => e = .returned (.int .i64 (k + n)) ∧ w' = w := by
 have hcell := h1.cell
 clear h1
 go_enter Tryz.func95, Tryz.ntmps95
 go_wp2
 go_loop [1, 5] (fun m i => ∃ j : Nat, j ≤ n ∧ i = .int .i64 j ∧ m = .int .i64 (k + j)) (fun _ i => n - (intOf i).toNat)
 case atStart => exact ⟨0, Nat.zero_le _, rfl, by simp⟩
 case round =>
  obtain ⟨j, hj, rfl, rfl⟩ := hrel
  by_cases hlt : j < n
  ·rcases hcell with h0 | ⟨b, off, rfl, hc⟩
   ·omega
   have cx := hc j hlt
   rw [marks_get _ _ _ hlt] at cx
   clear hc
   go_wp2
   go_round
   case rel => exact ⟨j + 1, by omega, by go_num, by go_num⟩
   case measure => simp [intOf]; omega
  ·have hj' : j = n := by omega
   subst hj'
   go_wp2
   go_ret
   exact ⟨rfl, rfl⟩

theorem row_own {w : World} {base : Nat} {ao : Option Addr} {n cap : Nat} {zs : List Int} (h : w.ownsRow base 5 1 (.slice ao n cap) n (cB zs)) (hz : Byt zs) : Row w ao n cap zs := by
 obtain ⟨ao', cap', e, hr⟩ := row_of_own h hz
 cases e
 exact hr

theorem mark_grown (base : Nat) (ao : Option Addr) (n cap : Nat) (zs : List Int) (k : Int) (w : World) (hown : w.ownsRow base 5 1 (.slice ao n cap) n (cB zs)) (hn : n ≤ 16777216) (hk0 : 0 ≤ k) (hk1 : k ≤ 1099511627776) :
  Calls Tryz.prog 91 #[.slice ao n cap, .int .i64 k] w fun e w' => e = .returned (.int .i64 (k + n)) ∧
   w'.ownsRow base 5 1 (.slice ao n cap) n (cB (marks k n)) ∧ w.grownBy w' (Value.slice ao n cap).ownBlock := by
 rcases hown.2 with ⟨h, h0⟩ | ⟨g, cap', cur, h, hg, h3⟩
 ·cases h
  refine (mark_nil k w).mono ?_
  rintro e w' ⟨rfl, rfl⟩
  exact ⟨by simp, by simpa [marks, cB] using World.ownsRow_nil _ _ _ _, World.grownBy.refl _ _⟩
 ·cases h
  refine (mark_any base g n cap zs k w hown hn hk0 hk1).mono ?_
  rintro e w' ⟨rfl, ho, hgr⟩
  exact ⟨rfl, ho, hgr⟩

theorem own_above {w w' : World} {base : Nat} {e : TypeId} {v : Value} {n : Nat} {xs : List Value} {row : Option Nat} (h : w.ownsRow base e 1 v n xs) (hg : w.grownBy w' row) (hr : ∀ k, row = some k → k < base) : w'.ownsRow base e 1 v n xs := by
 refine h.kept hg ?_
 cases hv : v.ownBlock with
 | none => exact .inl rfl
 | some k =>
  refine .inr ?_
  intro e
  have := hr k e.symm
  have := (h.lt k hv).1
  omega

theorem below_one (w : World) (o : Obj) : Below w.heap.size w (w.alloc o) := (Below.refl _ _).alloc (Nat.le_refl _) o

theorem below_two (w : World) (o p : Obj) : Below w.heap.size w ((w.alloc o).alloc p) := (below_one w o).alloc (by simp) p

theorem below_three (w : World) (o p q : Obj) : Below w.heap.size w (((w.alloc o).alloc p).alloc q) := (below_two w o p).alloc (by simp; omega) q

theorem block_last (w : World) (o : Obj) : (w.alloc o).heap[w.heap.size]? = some o := by show (w.heap.push o)[w.heap.size]? = _; simp

theorem kept_one {w w1 : World} {o : Obj} (hb : Below (w.alloc o).heap.size (w.alloc o) w1) : w1.heap[w.heap.size]? = some o := by
 rw [hb.block _ (by simp)]; exact block_last w o

theorem kept_two {w w1 : World} {o p : Obj} (hb : Below ((w.alloc o).alloc p).heap.size ((w.alloc o).alloc p) w1) : w1.heap[w.heap.size]? = some o ∧ w1.heap[w.heap.size + 1]? = some p := by
 refine ⟨?_, ?_⟩
 ·have := below_one (w.alloc o) p
  exact kept_one (w := w) (o := o) ((this.trans (hb.mono this.size)))
 ·have := kept_one (w := w.alloc o) (o := p) hb; simpa using this

theorem kept_three {w w1 : World} {o p q : Obj} (hb : Below (((w.alloc o).alloc p).alloc q).heap.size (((w.alloc o).alloc p).alloc q) w1) : w1.heap[w.heap.size]? = some o ∧ w1.heap[w.heap.size + 1]? = some p ∧ w1.heap[w.heap.size + 1 + 1]? = some q := by
 have t := below_one ((w.alloc o).alloc p) q
 have u := kept_two (w := w) (o := o) (p := p) (t.trans (hb.mono t.size))
 refine ⟨u.1, u.2, ?_⟩
 have := kept_one (w := (w.alloc o).alloc p) (o := q) hb; simpa using this

theorem cells4 {w : World} {C : Nat} {t : TypeId} {c0 c1 c2 c3 : Value} (h : w.heap[C]? = some (.cells #[c0, c1, c2, c3] t)) :
  (w.cell? ⟨C, 0, none⟩ = some c0 ∧ w.cell? ⟨C, 1, none⟩ = some c1 ∧ w.cell? ⟨C, 2, none⟩ = some c2 ∧ w.cell? ⟨C, 3, none⟩ = some c3) ∧
  (w.frozen? ⟨C, 0, none⟩ = false ∧ w.frozen? ⟨C, 1, none⟩ = false ∧ w.frozen? ⟨C, 2, none⟩ = false ∧ w.frozen? ⟨C, 3, none⟩ = false) := by
 refine ⟨⟨?_, ?_, ?_, ?_⟩, ?_, ?_, ?_, ?_⟩ <;> simp [World.cell?, World.frozen?, h]

theorem own_set {w : World} {base : Nat} {e : TypeId} {v : Value} {n : Nat} {xs : List Value} (h : w.ownsRow base e 1 v n xs) {g j : Nat} {u : Value} (hg : g < base) : (w.setCell ⟨g, j, none⟩ u).ownsRow base e 1 v n xs :=
 own_above h (grown_setCell (World.grownBy.refl _ _) j u) (by intro k hk; cases hk; exact hg)

theorem below_set {B : Nat} {a w : World} (h : Below B a w) {g : Nat} (hB : B ≤ g) (j : Nat) (u : Value) : Below B a (w.setCell ⟨g, j, none⟩ u) := h.setCell (p := ⟨g, j, none⟩) hB u

theorem grown_below {a b c : World} {row : Option Nat} (h : Below a.heap.size a b) (k : b.grownBy c row) : a.grownBy c row where
 os := k.os.trans h.os
 tape := k.tape.trans h.tape
 output := k.output.trans h.output
 size := Nat.le_trans h.size k.size
 block := fun j hj hne => (k.block j (Nat.lt_of_lt_of_le hj h.size) hne).trans (h.block j hj)

theorem undrew {B n : Nat} {w w' : World} (h : Below B (w.drewN n) w') : Below B w w' := ⟨h.os, h.tape, h.output, h.size, h.block⟩

theorem kept_block {w w' : World} {i : Nat} {o : Obj} (h : w.heap[i]? = some o) (hb : Below w.heap.size w w') : w'.heap[i]? = some o := by
 by_cases hlt : i < w.heap.size
 ·rw [hb.block i hlt]; exact h
 ·rw [Array.getElem?_eq_none (by omega)] at h; cases h

theorem cells5 {w : World} {C : Nat} {t : TypeId} {c0 c1 c2 c3 c4 : Value} (h : w.heap[C]? = some (.cells #[c0, c1, c2, c3, c4] t)) :
  (w.cell? ⟨C, 0, none⟩ = some c0 ∧ w.cell? ⟨C, 1, none⟩ = some c1 ∧ w.cell? ⟨C, 2, none⟩ = some c2 ∧ w.cell? ⟨C, 3, none⟩ = some c3 ∧ w.cell? ⟨C, 4, none⟩ = some c4) ∧
  (w.frozen? ⟨C, 0, none⟩ = false ∧ w.frozen? ⟨C, 1, none⟩ = false ∧ w.frozen? ⟨C, 2, none⟩ = false ∧ w.frozen? ⟨C, 3, none⟩ = false ∧ w.frozen? ⟨C, 4, none⟩ = false) := by
 refine ⟨⟨?_, ?_, ?_, ?_, ?_⟩, ?_, ?_, ?_, ?_, ?_⟩ <;> simp [World.cell?, World.frozen?, h]

theorem set_block5 {w : World} {b j : Nat} {cur : Array Value} {t : TypeId} (h : w.heap[b]? = some (.cells cur t)) (u : Value) : (w.setCell ⟨b, j, none⟩ u).heap[b]? = some (.cells (cur.setIfInBounds j u) t) := heap_setCell_same w b j cur t u h

theorem kept_set {w : World} {i b j : Nat} {o : Obj} {u : Value} (h : w.heap[i]? = some o) (hne : i ≠ b) : (w.setCell ⟨b, j, none⟩ u).heap[i]? = some o := by rw [Below.heap_setCell _ _ _ _ hne]; exact h

theorem cells2 {w : World} {C : Nat} {t : TypeId} {c0 c1 : Value} (h : w.heap[C]? = some (.cells #[c0, c1] t)) :
  (w.cell? ⟨C, 0, none⟩ = some c0 ∧ w.cell? ⟨C, 1, none⟩ = some c1) ∧ (w.frozen? ⟨C, 0, none⟩ = false ∧ w.frozen? ⟨C, 1, none⟩ = false) := by
 refine ⟨⟨?_, ?_⟩, ?_, ?_⟩ <;> simp [World.cell?, World.frozen?, h]

theorem grownTr {a b c : World} {row : Option Nat} (h : a.grownBy b row) (k : b.grownBy c row) : a.grownBy c row :=
 ⟨k.os.trans h.os, k.tape.trans h.tape, k.output.trans h.output, Nat.le_trans h.size k.size, fun i hi hn => (k.block i (Nat.lt_of_lt_of_le hi h.size) hn).trans (h.block i hi hn)⟩

theorem grownOf {a b : World} {row : Option Nat} (h : Below a.heap.size a b) : a.grownBy b row := ⟨h.os, h.tape, h.output, h.size, fun k hk _ => h.block k hk⟩

theorem grown_set {w : World} {rb : Nat} (j : Nat) (u : Value) : w.grownBy (w.setCell ⟨rb, j, none⟩ u) (some rb) := grown_setCell (World.grownBy.refl _ _) j u

theorem cells3 {w : World} {C : Nat} {t : TypeId} {c0 c1 c2 : Value} (h : w.heap[C]? = some (.cells #[c0, c1, c2] t)) :
  (w.cell? ⟨C, 0, none⟩ = some c0 ∧ w.cell? ⟨C, 1, none⟩ = some c1 ∧ w.cell? ⟨C, 2, none⟩ = some c2) ∧ (w.frozen? ⟨C, 0, none⟩ = false ∧ w.frozen? ⟨C, 1, none⟩ = false ∧ w.frozen? ⟨C, 2, none⟩ = false) := by
 refine ⟨⟨?_, ?_, ?_⟩, ?_, ?_, ?_⟩ <;> simp [World.cell?, World.frozen?, h]

theorem kept_grown {w w' : World} {row : Option Nat} {i : Nat} {o : Obj} (h : w.heap[i]? = some o) (hg : w.grownBy w' row) (hne : ∀ k, row = some k → k ≠ i) : w'.heap[i]? = some o := by
 by_cases hlt : i < w.heap.size
 ·rw [hg.block i hlt (fun e => hne i e.symm rfl)]; exact h
 ·rw [Array.getElem?_eq_none (by omega)] at h; cases h

theorem below_set4 {B : Nat} {a w : World} (h : Below B a w) {g : Nat} (hB : B ≤ g) (c0 c1 c2 c3 : Value) : Below B a ((((w.setCell ⟨g, 0, none⟩ c0).setCell ⟨g, 1, none⟩ c1).setCell ⟨g, 2, none⟩ c2).setCell ⟨g, 3, none⟩ c3) :=
 below_set (below_set (below_set (below_set h hB 0 c0) hB 1 c1) hB 2 c2) hB 3 c3

theorem own_set4 {w : World} {base : Nat} {e : TypeId} {v : Value} {n : Nat} {xs : List Value} (h : w.ownsRow base e 1 v n xs) {g : Nat} (hg : g < base) (c0 c1 c2 c3 : Value) : ((((w.setCell ⟨g, 0, none⟩ c0).setCell ⟨g, 1, none⟩ c1).setCell ⟨g, 2, none⟩ c2).setCell ⟨g, 3, none⟩ c3).ownsRow base e 1 v n xs :=
 own_set (own_set (own_set (own_set h hg) hg) hg) hg

theorem below_set5 {B : Nat} {a w : World} (h : Below B a w) {g : Nat} (hB : B ≤ g) (c0 c1 c2 c3 c4 : Value) : Below B a (((((w.setCell ⟨g, 0, none⟩ c0).setCell ⟨g, 1, none⟩ c1).setCell ⟨g, 2, none⟩ c2).setCell ⟨g, 3, none⟩ c3).setCell ⟨g, 4, none⟩ c4) :=
 below_set (below_set (below_set (below_set (below_set h hB 0 c0) hB 1 c1) hB 2 c2) hB 3 c3) hB 4 c4

theorem Row.set {w : World} {b off len cap : Nat} {zs : List Int} (h : Row w (some ⟨b, off, none⟩) len cap zs) {P : Nat} (hP : ¬ b = P) (j : Nat) (u : Value) : Row (w.setCell ⟨P, j, none⟩ u) (some ⟨b, off, none⟩) len cap zs where
 size := h.size
 le := h.le
 top := h.top
 nil := h.nil
 byte := h.byte
 cell := by
  rcases h.cell with h0 | ⟨b', off', e, hc⟩
  ·exact .inl h0
  ·cases e
   refine .inr ⟨b, off, rfl, fun i hi => ?_⟩
   rw [World.cell?_setCell_far w ⟨P, j, none⟩ ⟨b, off + i, none⟩ u (fun e => hP e.symm)]
   exact hc i hi

theorem gr_trans {w W W' : World} (a : Below w.heap.size w W) (b : Below W.heap.size W W') : Below w.heap.size w W' := a.trans (b.mono a.size)

theorem gr_alloc {w W : World} (a : Below w.heap.size w W) (o : Obj) : Below w.heap.size w (W.alloc o) := gr_trans a (below_one W o)

theorem gr_drew {w W : World} (a : Below w.heap.size w W) : Below w.heap.size w W.drew := a.drew

theorem gr_drewN {w W : World} (a : Below w.heap.size w W) (n : Nat) : Below w.heap.size w (W.drewN n) := below_drewN a n

theorem belowGr {a b c : World} {rb : Nat} (h : Below a.heap.size a b) (hg : b.grownBy c (some rb)) (hr : a.heap.size ≤ rb) : Below a.heap.size a c := h.grown hg h.size (by intro k hk; cases hk; exact hr)

def blkL (ao : Option Addr) : List Nat := match ao with | some a => [a.block] | none => []

theorem mem_blkL {ao : Option Addr} {n c b : Nat} : (Value.slice ao n c).ownBlock = some b ↔ b ∈ blkL ao := by
 cases ao <;> simp [Value.ownBlock, blkL, eq_comm]

structure Only (bs : List Nat) (w w' : World) : Prop where
 os : w'.os = w.os
 tape : w'.tape = w.tape
 output : w'.output = w.output
 size : w.heap.size ≤ w'.heap.size
 block : ∀ k, k < w.heap.size → k ∉ bs → w'.heap[k]? = w.heap[k]?

theorem Only.refl (bs : List Nat) (w : World) : Only bs w w := ⟨rfl, rfl, rfl, Nat.le_refl _, fun _ _ _ => rfl⟩
theorem Only.trans {bs : List Nat} {a b c : World} (h : Only bs a b) (k : Only bs b c) : Only bs a c :=
 ⟨k.os.trans h.os, k.tape.trans h.tape, k.output.trans h.output, Nat.le_trans h.size k.size, fun i hi hn => (k.block i (Nat.lt_of_lt_of_le hi h.size) hn).trans (h.block i hi hn)⟩
theorem Only.wider {bs cs : List Nat} {a b : World} (h : Only bs a b) (hs : ∀ x ∈ bs, x ∈ cs) : Only cs a b :=
 ⟨h.os, h.tape, h.output, h.size, fun k hk hn => h.block k hk (fun hb => hn (hs k hb))⟩
theorem Only.of_below {bs : List Nat} {a b : World} (h : Below a.heap.size a b) : Only bs a b := ⟨h.os, h.tape, h.output, h.size, fun k hk _ => h.block k hk⟩
theorem Only.of_grown {ao : Option Addr} {n c : Nat} {a b : World} (h : a.grownBy b (Value.slice ao n c).ownBlock) : Only (blkL ao) a b :=
 ⟨h.os, h.tape, h.output, h.size, fun k hk hn => h.block k hk (fun e => hn (mem_blkL.1 e.symm))⟩
theorem Only.set (w : World) (g j : Nat) (u : Value) : Only [g] w (w.setCell ⟨g, j, none⟩ u) :=
 ⟨rfl, rfl, rfl, by simp, fun k _ hn => Below.heap_setCell _ _ _ _ (by intro e; exact hn (by simp [e]))⟩
theorem Only.below {bs : List Nat} {w w' : World} (h : Only bs w w') {B : Nat} (hB : B ≤ w.heap.size) (hs : ∀ b ∈ bs, B ≤ b) : Below B w w' :=
 ⟨h.os, h.tape, h.output, h.size, fun k hk => h.block k (by omega) (fun hb => by have := hs k hb; omega)⟩
theorem Only.kept {bs : List Nat} {w w' : World} (h : Only bs w w') {i : Nat} {o : Obj} (hi : w.heap[i]? = some o) (hn : i ∉ bs) : w'.heap[i]? = some o := by
 rw [h.block i (Array.getElem?_eq_some_iff.1 hi).1 hn]; exact hi
theorem Only.own {bs : List Nat} {w w' : World} {base : Nat} {e : TypeId} {size : Nat} {v : Value} {n : Nat} {xs : List Value} (h : Only bs w w') (ho : w.ownsRow base e size v n xs) (hn : ∀ k, v.ownBlock = some k → k ∉ bs) : w'.ownsRow base e size v n xs := by
 obtain ⟨hl, h0 | ⟨g, cap, cur, rfl, hg, hh, r⟩⟩ := ho
 ·exact ⟨hl, .inl h0⟩
 ·exact ⟨hl, .inr ⟨g, cap, cur, rfl, hg, h.kept hh (hn g rfl), r⟩⟩

theorem own5_below {w w' : World} {base : Nat} {e : TypeId} {size : Nat} {v : Value} {n : Nat} {xs : List Value} (h : w.ownsRow base e size v n xs) (hb : Below w.heap.size w w') : w'.ownsRow base e size v n xs :=
 (Only.of_below (bs := []) hb).own h (by intro k _ hk; cases hk)
theorem own5_lt {w : World} {base : Nat} {e : TypeId} {size : Nat} {v : Value} {n : Nat} {xs : List Value} (h : w.ownsRow base e size v n xs) {base' : Nat} (hle : base' ≤ base) : w.ownsRow base' e size v n xs := by
 obtain ⟨hl, h | ⟨g, cap, cur, rfl, hg, r⟩⟩ := h
 ·exact ⟨hl, .inl h⟩
 ·exact ⟨hl, .inr ⟨g, cap, cur, rfl, by omega, r⟩⟩

theorem apart_type {w : World} {base base' : Nat} {e e' : TypeId} {s s' : Nat} {v v' : Value} {n n' : Nat} {xs xs' : List Value} (h : w.ownsRow base e s v n xs) (h' : w.ownsRow base' e' s' v' n' xs') (hne : e ≠ e') {k : Nat} (hk : v.ownBlock = some k) : v'.ownBlock ≠ some k := by
 intro hk'
 rcases h.2 with ⟨rfl, _⟩ | ⟨g, cap, cur, rfl, _, hh, _⟩
 ·cases hk
 ·rcases h'.2 with ⟨rfl, _⟩ | ⟨g', cap', cur', rfl, _, hh', _⟩
  ·cases hk'
  ·simp only [Value.ownBlock, Option.some.injEq] at hk hk'
   subst hk hk'
   rw [hh] at hh'
   cases hh'
   exact hne rfl

section
open Go.RowKit

structure Flat (α : Type) where
 k : Nat
 cs : α → List Value
 len : ∀ x, (cs x).length = k
 pos : 0 < k
 one : ∀ x, ∀ v ∈ cs x, v.oneCell' = true

variable {α : Type}

def Flat.all (F : Flat α) (l : List α) : List Value := l.flatMap F.cs

theorem Flat.all_cons (F : Flat α) (x : α) (l : List α) : F.all (x :: l) = F.cs x ++ F.all l := by simp [Flat.all]
theorem Flat.all_append (F : Flat α) (a b : List α) : F.all (a ++ b) = F.all a ++ F.all b := by simp [Flat.all]
theorem Flat.all_one (F : Flat α) (x : α) : F.all [x] = F.cs x := by simp [Flat.all]
theorem Flat.all_length (F : Flat α) (l : List α) : (F.all l).length = l.length * F.k := by
 induction l with
 | nil => simp [Flat.all]
 | cons x l ih => rw [F.all_cons, List.length_append, ih, F.len, List.length_cons, Nat.add_mul]; omega
theorem Flat.all_oneCell (F : Flat α) (l : List α) : ∀ u ∈ F.all l, u.oneCell' = true := by
 intro u hu
 obtain ⟨x, _, hx⟩ := List.mem_flatMap.1 hu
 exact F.one x u hx

theorem Flat.all_at (F : Flat α) : ∀ (l : List α) (i : Nat) (x : α), l[i]? = some x → ∀ (j : Nat) (v : Value), (F.cs x)[j]? = some v → (F.all l)[i * F.k + j]? = some v
 | [], i, x, h, _, _, _ => by simp at h
 | y :: l, 0, x, h, j, v, hv => by
  simp at h
  subst h
  have hj := (List.getElem?_eq_some_iff.1 hv).1
  rw [F.all_cons, Nat.zero_mul, Nat.zero_add, List.getElem?_append_left hj]
  exact hv
 | y :: l, i + 1, x, h, j, v, hv => by
  have h' : l[i]? = some x := by simpa using h
  rw [F.all_cons, List.getElem?_append_right (by rw [F.len, Nat.add_mul]; omega), F.len]
  rw [show (i + 1) * F.k + j - F.k = i * F.k + j by rw [Nat.add_mul]; omega]
  exact Flat.all_at F l i x h' j v hv

structure GRow (F : Flat α) (w : World) (ao : Option Addr) (len cap : Nat) (l : List α) : Prop where
 size : l.length = len
 le : len ≤ cap
 top : cap ≤ maxLen
 nil : ao = none → cap = 0
 cell : len = 0 ∨ ∃ b off, ao = some ⟨b, off, none⟩ ∧ ∀ (i : Nat) (x : α), l[i]? = some x → ∀ (j : Nat) (v : Value), (F.cs x)[j]? = some v → w.cell? ⟨b, off + i * F.k + j, none⟩ = some v

theorem grow_nil (F : Flat α) (w : World) : GRow F w none 0 0 [] := ⟨rfl, Nat.le_refl _, Nat.zero_le _, fun _ => rfl, .inl rfl⟩

theorem GRow.below {F : Flat α} {w w' : World} {ao : Option Addr} {len cap : Nat} {l : List α} (h : GRow F w ao len cap l) (hb : Below w.heap.size w w') : GRow F w' ao len cap l where
 size := h.size
 le := h.le
 top := h.top
 nil := h.nil
 cell := by
  rcases h.cell with h0 | ⟨b, off, ha, hc⟩
  ·exact .inl h0
  ·exact .inr ⟨b, off, ha, fun i x hi j v hv => (hb.cell (block_lt (hc i x hi j v hv))).trans (hc i x hi j v hv)⟩

theorem GRow.at {F : Flat α} {w : World} {ao : Option Addr} {len cap : Nat} {l : List α} (h : GRow F w ao len cap l) (i : Nat) (hi : i < len) : ∃ x b off, l[i]? = some x ∧ ao = some ⟨b, off, none⟩ ∧ ∀ (j : Nat) (v : Value), (F.cs x)[j]? = some v → w.cell? ⟨b, off + i * F.k + j, none⟩ = some v := by
 have hl := h.size
 rcases h.cell with h0 | ⟨b, off, ha, hc⟩
 ·omega
 ·have hx : l[i]? = some l[i] := List.getElem?_eq_getElem (by omega)
  exact ⟨_, b, off, hx, ha, hc i _ hx⟩

theorem gown_below {w w' : World} {base k : Nat} {e : TypeId} {v : Value} {n : Nat} {xs : List Value} (h : w.ownsRow base e k v n xs) (hb : Below w.heap.size w w') : w'.ownsRow base e k v n xs := by
 obtain ⟨hl, h | ⟨g, cap, cur, rfl, hg, hh, h1, h2, h3, h4⟩⟩ := h
 ·exact ⟨hl, .inl h⟩
 ·refine ⟨hl, .inr ⟨g, cap, cur, rfl, hg, ?_, h1, h2, h3, h4⟩⟩
  rw [hb.block g ?_]
  ·exact hh
  ·by_cases hlt : g < w.heap.size
   ·exact hlt
   ·rw [Array.getElem?_eq_none (by omega)] at hh
    simp at hh

theorem gown_lt {w : World} {base k : Nat} {e : TypeId} {v : Value} {n : Nat} {xs : List Value} (h : w.ownsRow base e k v n xs) {base' : Nat} (hle : base' ≤ base) : w.ownsRow base' e k v n xs := by
 obtain ⟨hl, h | ⟨g, cap, cur, rfl, hg, hh, h1, h2, h3, h4⟩⟩ := h
 ·exact ⟨hl, .inl h⟩
 ·exact ⟨hl, .inr ⟨g, cap, cur, rfl, by omega, hh, h1, h2, h3, h4⟩⟩

theorem gown_slice {w : World} {base k : Nat} {e : TypeId} {v : Value} {n : Nat} {xs : List Value} (h : w.ownsRow base e k v n xs) : ∃ ao cap, v = .slice ao n cap := by
 rcases h.2 with ⟨rfl, rfl⟩ | ⟨g, cap, cur, rfl, _⟩
 ·exact ⟨none, 0, rfl⟩
 ·exact ⟨_, cap, rfl⟩

theorem gown_other {w w' : World} {base k : Nat} {e : TypeId} {v : Value} {n : Nat} {xs : List Value} (h : w.ownsRow base e k v n xs) {g : Nat} (hg : w.grownBy w' (some g)) (hne : ∀ b, v.ownBlock = some b → b ≠ g) : w'.ownsRow base e k v n xs := by
 refine h.kept hg ?_
 cases hv : v.ownBlock with
 | none => exact .inl rfl
 | some b => exact .inr (by intro h; cases h; exact hne _ hv rfl)

theorem grow_own {F : Flat α} {w : World} {base : Nat} {T : TypeId} {ao : Option Addr} {n cap : Nat} {l : List α} (h : w.ownsRow base T F.k (.slice ao n cap) n (F.all l)) : GRow F w ao n cap l := by
 have hl : l.length = n := by
  have := h.1
  rw [F.all_length] at this
  exact Nat.eq_of_mul_eq_mul_right F.pos this
 rcases h.2 with ⟨e, rfl⟩ | ⟨g, cap', cur, e, hg, hh, h1, h2, h3, h4⟩
 ·cases e
  exact ⟨hl, Nat.le_refl _, Nat.zero_le _, fun _ => rfl, .inl rfl⟩
 ·cases e
  refine ⟨hl, h1, h2, (by intro h; cases h), .inr ⟨g, 0, rfl, fun i x hi j v hv => ?_⟩⟩
  have hx := F.all_at l i x hi j v hv
  have hlt := (List.getElem?_eq_some_iff.1 hx).1
  rw [F.all_length] at hlt
  rw [Nat.zero_add, h.cellAt _ (by rw [← hl]; exact hlt)]
  exact hx

theorem GRow.news {F : Flat α} {w : World} {b off n cap : Nat} {l : List α} (h : GRow F w (some ⟨b, off, none⟩) n cap l) : ∀ (j : Nat) (u : Value), (F.all l)[j]? = some u → w.cell? ((⟨b, off, none⟩ : Addr).add j) = some u := by
 intro j u hu
 have hj := (List.getElem?_eq_some_iff.1 hu).1
 rw [F.all_length] at hj
 have hp := F.pos
 have hi : j / F.k < l.length := Nat.div_lt_of_lt_mul (by rw [Nat.mul_comm]; exact hj)
 rcases h.cell with h0 | ⟨b', off', e, hc⟩
 ·have := h.size
  rw [this, h0] at hi
  exact absurd hi (Nat.not_lt_zero _)
 ·cases e
  have hx : l[j / F.k]? = some l[j / F.k] := List.getElem?_eq_getElem hi
  have hm : j % F.k < (F.cs l[j / F.k]).length := by rw [F.len]; exact Nat.mod_lt _ hp
  have hv := List.getElem?_eq_getElem hm
  have ha := F.all_at l _ _ hx _ _ hv
  have hd : j / F.k * F.k + j % F.k = j := by rw [Nat.mul_comm]; exact Nat.div_add_mod j F.k
  rw [hd] at ha
  have hc := hc _ _ hx _ _ hv
  rw [add_none]
  rw [show off + j = off + j / F.k * F.k + j % F.k by omega, hc, ← ha, hu]

theorem finfo_parts {P : Program} {T : TypeId} {z : Value} {k b : Nat} (h : (P.info? T).map (fun i => (i.zero, i.size, i.bytes)) = some (some z, k, b)) : ∃ i, P.info? T = some i ∧ i.zero = some z ∧ i.size = k ∧ i.bytes = b := by
 cases hi : P.info? T with
 | none => rw [hi] at h; simp at h
 | some i =>
  rw [hi] at h
  simp at h
  exact ⟨i, rfl, h.1, h.2.1, h.2.2⟩

theorem wpList_append_flat {F : Flat α} {P : Program} (w : World) {ops : Array Oper} {rest : List Oper} {o : Oper} {a : Act} {Q : Exit → Act → World → Prop} (hgd : o.guard = none)
  (s x : Operand) (t T : TypeId) (ho : o.op = Op.call { callee := Callee.builtin Builtin.append, args := #[s, x], argTypes := #[t, t] }) (base : Nat) {Z : Value} {by8 : Nat}
  (ht : P.underlying t = some (TypeDesc.slice T)) (hinfo : (P.info? T).map (fun i => (i.zero, i.size, i.bytes)) = some (some Z, F.k, by8)) (hZ : Z.cells.size = F.k) (hb8 : by8 ≤ 1024)
  (v : Value) (n : Nat) (xs : List α) (hs : a.eval s = v) (hown : w.ownsRow base T F.k v n (F.all xs)) (ao : Option Addr) (m c : Nat) (zs : List α)
  (hx : a.eval x = .slice ao m c) (hrow : GRow F w ao m c zs) (hsm : n + m ≤ 137438953472) (hbase : base ≤ w.heap.size)
  (h : ∀ ao' cap' w', w'.ownsRow base T F.k (.slice ao' (n + m) cap') (n + m) (F.all (xs ++ zs)) → GRow F w' ao' (n + m) cap' (xs ++ zs) → w.grownBy w' v.ownBlock → Below base w w' → wpList P ops Q rest (a.put o.dst (.slice ao' (n + m) cap')) w') :
  wpList P ops Q (o :: rest) a w := by
 obtain ⟨i0, hi, hz0, hz1, hz2⟩ := finfo_parts hinfo
 rcases ao with _ | ad
 ·have hc0 := hrow.nil rfl
  have hm0 : m = 0 := by have := hrow.le; omega
  subst hc0 hm0
  have hz : zs = [] := List.eq_nil_of_length_eq_zero hrow.size
  subst hz
  refine wpList_append_own_none hgd s x t ho base T i0 F.k ht hi v n (F.all xs) hs hown hx ?_
  obtain ⟨ao', cap', rfl⟩ := gown_slice hown
  have := h ao' cap' w (by simpa using hown) (by simpa using grow_own hown) (World.grownBy.refl _ _) (Below.refl _ _)
  simpa using this
 ·have hnews : ∀ (j : Nat) (u : Value), (F.all zs)[j]? = some u → w.cell? (ad.add j) = some u := by
   intro j u hu
   rcases hrow.cell with h0 | ⟨b, off, e, _⟩
   ·have hl := (List.getElem?_eq_some_iff.1 hu).1
    rw [F.all_length, hrow.size, h0, Nat.zero_mul] at hl
    omega
   ·cases e
    exact hrow.news j u hu
  have hB : (n + m) * by8 ≤ 140737488355328 := Nat.le_trans (Nat.mul_le_mul hsm hb8) (by omega)
  refine wpList_append_own w hgd s x t ho base T i0 Z F.k by8 ht hi hz0 hz1 hz2 hZ F.pos v n (F.all xs) hs hown ad m c (F.all zs) hx (by rw [F.all_length, hrow.size]) hnews (F.all_oneCell zs) (by unfold maxLen; omega) hB hbase ?_
  intro v' w' how hgr _
  rw [← F.all_append] at how
  have hlt := hown.lt
  obtain ⟨ao', cap', rfl⟩ := gown_slice how
  exact h ao' cap' w' how (grow_own how) hgr ((Below.refl _ _).grown hgr hbase (by intro k hk; exact (hlt k hk).1))

theorem step_append_flat {F : Flat α} {P : Program} {ops : Array Oper} {o : Oper} {a : Act} {w : World} {K : Act → World → Prop} {Q : Exit → Act → World → Prop} {E : Prop} (hgd : o.guard = none)
  (s x : Operand) (t T : TypeId) (ho : o.op = Op.call { callee := Callee.builtin Builtin.append, args := #[s, x], argTypes := #[t, t] }) (base : Nat) {Z : Value} {by8 : Nat}
  (ht : P.underlying t = some (TypeDesc.slice T)) (hinfo : (P.info? T).map (fun i => (i.zero, i.size, i.bytes)) = some (some Z, F.k, by8)) (hZ : Z.cells.size = F.k) (hb8 : by8 ≤ 1024)
  (v : Value) (n : Nat) (xs : List α) (hs : a.eval s = v) (hown : w.ownsRow base T F.k v n (F.all xs)) (ao : Option Addr) (m c : Nat) (zs : List α)
  (hx : a.eval x = .slice ao m c) (hrow : GRow F w ao m c zs) (hsm : n + m ≤ 137438953472) (hbase : base ≤ w.heap.size)
  (h : ∀ ao' cap' w', w'.ownsRow base T F.k (.slice ao' (n + m) cap') (n + m) (F.all (xs ++ zs)) → GRow F w' ao' (n + m) cap' (xs ++ zs) → w.grownBy w' v.ownBlock → Below base w w' → K (a.put o.dst (.slice ao' (n + m) cap')) w') :
  if Region.wanted o (yielded ops a.tmps) = true then Oper.wp P o a w K Q else E := by
 have hw : Region.wanted o (yielded ops a.tmps) = true := by simp [Region.wanted, hgd]
 rw [if_pos hw]
 obtain ⟨i0, hi, hz0, hz1, hz2⟩ := finfo_parts hinfo
 rcases ao with _ | ad
 ·have hc0 := hrow.nil rfl
  have hm0 : m = 0 := by have := hrow.le; omega
  subst hc0 hm0
  have hz : zs = [] := List.eq_nil_of_length_eq_zero hrow.size
  subst hz
  obtain ⟨ao', cap', rfl⟩ := gown_slice hown
  have hrun := run_append_owned_none (P := P) w base t o.type T i0 F.k ht hi (.slice ao' n cap') n (F.all xs) hown
  have hk : K (a.put o.dst (.slice ao' n cap')) w := by simpa using h ao' cap' w (by simpa using hown) (by simpa using grow_own hown) (World.grownBy.refl _ _) (Below.refl _ _)
  unfold Oper.wp
  simp [execOp, ho, resolve, invoke, builtin, hs, hx, hrun, Result.andThen]
  exact hk
 ·have hnews : ∀ (j : Nat) (u : Value), (F.all zs)[j]? = some u → w.cell? (ad.add j) = some u := by
   intro j u hu
   rcases hrow.cell with h0 | ⟨b, off, e, _⟩
   ·have hl := (List.getElem?_eq_some_iff.1 hu).1
    rw [F.all_length, hrow.size, h0, Nat.zero_mul] at hl
    omega
   ·cases e
    exact hrow.news j u hu
  have hB : (n + m) * by8 ≤ 140737488355328 := Nat.le_trans (Nat.mul_le_mul hsm hb8) (by omega)
  refine wp_append_own w s x t ho base T i0 Z F.k by8 ht hi hz0 hz1 hz2 hZ F.pos v n (F.all xs) hs hown ad m c (F.all zs) hx (by rw [F.all_length, hrow.size]) hnews (F.all_oneCell zs) (by unfold maxLen; omega) hB hbase ?_
  intro v' w' how hgr _
  rw [← F.all_append] at how
  have hlt := hown.lt
  obtain ⟨ao', cap', rfl⟩ := gown_slice how
  exact h ao' cap' w' how (grow_own how) hgr ((Below.refl _ _).grown hgr hbase (by intro k hk; exact (hlt k hk).1))

theorem grow_one (F : Flat α) (w : World) (x : α) (cs : Array Value) (T : TypeId) (h : cs.toList = F.cs x) : GRow F (w.alloc (.cells cs T)) (some ⟨w.heap.size, 0, none⟩) 1 1 [x] := by
 refine ⟨rfl, Nat.le_refl _, by unfold maxLen; omega, (by intro h; cases h), .inr ⟨w.heap.size, 0, rfl, fun i y hi j v hv => ?_⟩⟩
 have hi0 : i = 0 := by
  have := (List.getElem?_eq_some_iff.1 hi).1
  simp at this
  exact this
 subst hi0
 simp at hi
 subst hi
 rw [Nat.zero_mul, Nat.zero_add]
 rw [← h] at hv
 have hb := block_last w (.cells cs T)
 simp only [World.cell?, hb]
 simpa using hv

theorem flat_nil (F : Flat α) (w w' : World) (T : TypeId) (b : Nat) (h : w'.heap[b]? = some (.cells #[] T)) (hb : w.heap.size ≤ b) : w'.ownsRow w.heap.size T F.k (.slice (some ⟨b, 0, none⟩) 0 0) 0 (F.all []) :=
 ⟨by simp [Flat.all], .inr ⟨b, 0, #[], rfl, hb, h, Nat.le_refl _, Nat.zero_le _, by simp, by simp [Flat.all]⟩⟩

section
variable {H : Type} {enc : TypeId × Value → H} {P : Program} {w : World}

open Go.ChangeShapes Go.WideShapes Go.ChangeAt in
theorem open_flat (z : α) (F : Flat α) (R : α → Prop) {ts tb : TypeId} (hs : P.underlying ts = some (.slice tb)) (hk : P.cellsOf tb = F.k)
  (hone : ∀ {fuel : Nat} {cs : List Value} {x : DataW H × List MemPlace}, DataW.trod enc P w 0 (fun _ => true) true fuel tb cs = some x → ∃ y, cs = F.cs y ∧ R y)
  {fuel : Nat} {v : Value} {x : DataW H × List MemPlace} (h : DataW.trod enc P w 0 (fun _ => true) true fuel ts [v] = some x) :
  ∃ ao len cap l, v = .slice ao len cap ∧ GRow F w ao len cap l ∧ ∀ x ∈ l, R x := by
 rcases Go.Deep.open_slice hs h with ⟨hcs, _⟩ | ⟨a, len, cap, m, n, D, Pl, hcs, _, hl, hm, hmm, _, hx⟩
 ·simp only [List.cons.injEq, and_true] at hcs
  subst hcs
  exact ⟨none, 0, 0, [], rfl, grow_nil F w, (by intro x hx; cases hx)⟩
 ·simp only [List.cons.injEq, and_true] at hcs
  subst hcs
  have hmc : m = cap := by simpa using hmm
  subst hmc
  have each : ∀ i, i < m → ∃ y, R y ∧ ∀ j, j < F.k → w.cell? (a.add (i * F.k + j)) = (F.cs y)[j]? := by
   intro i hi
   obtain ⟨cs', h1, h2⟩ := hx i hi
   rw [hk] at h1
   obtain ⟨_, _, hcell⟩ := World.cells?_some h1
   obtain ⟨y, rfl, hy⟩ := hone h2
   refine ⟨y, hy, fun j hj => ?_⟩
   have := hcell j hj
   rw [Go.Deep.add_add] at this
   exact this
  have : Inhabited α := ⟨z⟩
  obtain ⟨q, hq⟩ := Go.Deep.choose_lt each
  refine ⟨some a, len, m, (List.range len).map q, rfl, ⟨by simp, hl, hm, (by intro h; cases h), ?_⟩, fun y hy => ?_⟩
  rotate_left
  ·obtain ⟨i, hi, rfl⟩ := List.mem_map.1 hy
   exact (hq i (by have := List.mem_range.1 hi; omega)).1
  by_cases h0 : len = 0
  ·exact .inl h0
  ·obtain ⟨b, off, spot⟩ := a
   have hp := F.pos
   have hspot : spot = none := by
    have h1 := (hq 0 (by omega)).2 0 hp
    have h2 : 0 < (F.cs (q 0)).length := by rw [F.len]; exact hp
    rw [List.getElem?_eq_getElem h2] at h1
    simpa [Addr.add] using World.cell?_spot h1
   subst hspot
   refine .inr ⟨b, off, rfl, fun i y hy j v hv => ?_⟩
   have hi : i < len := by
    have := (List.getElem?_eq_some_iff.1 hy).1
    simpa using this
   have hy' : q i = y := by
    rw [List.getElem?_map, List.getElem?_range hi] at hy
    simpa using hy
   subst hy'
   have hj := (List.getElem?_eq_some_iff.1 hv).1
   rw [F.len] at hj
   have c := (hq i (by omega)).2 j hj
   rw [add_none, hv] at c
   rw [Nat.add_assoc]
   exact c
end

end

section
open Go.RowKit

variable {α : Type}

theorem Flat.all_set (F : Flat α) (pre : List α) (x x' : α) (post : List α) (j : Nat) (u : Value) (hj : j < F.k) (h : (F.cs x).set j u = F.cs x') : (F.all (pre ++ x :: post)).set (pre.length * F.k + j) u = F.all (pre ++ x' :: post) := by
 rw [F.all_append, F.all_cons, List.set_append_right _ _ (by rw [F.all_length]; omega), F.all_length, Nat.add_sub_cancel_left, List.set_append_left _ _ (by rw [F.len]; exact hj), h, F.all_append, F.all_cons]

theorem flat_stored {F : Flat α} {w : World} {base g n cap : Nat} {T : TypeId} {pre post : List α} {x x' : α} (h : w.ownsRow base T F.k (.slice (some ⟨g, 0, none⟩) n cap) n (F.all (pre ++ x :: post))) (j : Nat) (u : Value) (hj : j < F.k) (hx : (F.cs x).set j u = F.cs x') :
  (w.setCell ⟨g, pre.length * F.k + j, none⟩ u).ownsRow base T F.k (.slice (some ⟨g, 0, none⟩) n cap) n (F.all (pre ++ x' :: post)) := by
 have := (h.stored (pre.length * F.k + j) u).1
 rw [F.all_set pre x x' post j u hj hx] at this
 exact this

theorem flat_made (F : Flat α) (z : α) (n : Nat) : (madeCells (F.cs z).toArray (n * F.k)).toList = F.all (List.replicate n z) := by
 have hp := F.pos
 apply List.ext_getElem?
 intro j
 by_cases hj : j < n * F.k
 ·have hi : j / F.k < n := Nat.div_lt_of_lt_mul (by rw [Nat.mul_comm]; exact hj)
  have hm : j % F.k < (F.cs z).length := by rw [F.len]; exact Nat.mod_lt _ hp
  have hx : (List.replicate n z)[j / F.k]? = some z := by rw [List.getElem?_replicate, if_pos hi]
  have hv := List.getElem?_eq_getElem hm
  have ha := F.all_at _ _ _ hx _ _ hv
  rw [show j / F.k * F.k + j % F.k = j by rw [Nat.mul_comm]; exact Nat.div_add_mod j F.k] at ha
  rw [ha]
  simp only [madeCells, Array.toList_map, Array.toList_range, List.getElem?_map, List.getElem?_range hj, Option.map_some]
  simp [F.len]
  rw [hv]
  rfl
 ·rw [List.getElem?_eq_none (by simp [madeCells]; omega), List.getElem?_eq_none (by rw [F.all_length]; simp; omega)]

theorem gown_apart {w w' : World} {base k : Nat} {e : TypeId} {v : Value} {n : Nat} {xs : List Value} (h : w.ownsRow base e k v n xs) {row : Option Nat} (hg : w.grownBy w' row) (hlt : ∀ b, row = some b → b < base) : w'.ownsRow base e k v n xs := by
 refine h.kept hg ?_
 cases hv : v.ownBlock with
 | none => exact .inl rfl
 | some b =>
  refine .inr (fun e => ?_)
  have h1 := (h.lt b hv).1
  have h2 := hlt b e.symm
  omega

theorem flat_cells {F : Flat α} {w : World} {base g n cap : Nat} {T : TypeId} {l : List α} (h : w.ownsRow base T F.k (.slice (some ⟨g, 0, none⟩) n cap) n (F.all l)) {i : Nat} {x : α} (hx : l[i]? = some x) {j : Nat} {v : Value} (hv : (F.cs x)[j]? = some v) : w.cell? ⟨g, i * F.k + j, none⟩ = some v ∧ w.frozen? ⟨g, i * F.k + j, none⟩ = false := by
 have ha := F.all_at l i x hx j v hv
 have hlt := (List.getElem?_eq_some_iff.1 ha).1
 have h1 := h.1
 refine ⟨?_, h.frozenAt _⟩
 rw [h.cellAt _ (by rw [← h1]; exact hlt)]
 exact ha

theorem flat_addr {F : Flat α} {w : World} {base n cap : Nat} {T : TypeId} {ao : Option Addr} {l : List α} (h : w.ownsRow base T F.k (.slice ao n cap) n (F.all l)) (hn : 0 < n) : ∃ g, ao = some ⟨g, 0, none⟩ ∧ base ≤ g ∧ g < w.heap.size := by
 have hlt := h.lt
 rcases h.2 with ⟨e, h0⟩ | ⟨g, cap', cur, e, hg, _⟩
 ·omega
 ·cases e
  exact ⟨g, rfl, hg, (hlt g rfl).2⟩

end

end Go.Proofs.YtddalpglihhipaaGreat
