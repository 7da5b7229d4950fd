/-
  Packed: VtabMath IBase IHelp VrowMem BrMem VtabAt Made VecEql PtOkS FdbSpec PtApp PtLaws FdbLaws BrLaws PtHelp.
-/
import Derived.Test.YtddalpglihhipaaGreatPXK01
import Derived.Test.YtddalpglihhipaaGreatPXK02
import Derived.Deep.RegionHeld3
import Derived.Deep.CutRange
namespace Go.Proofs.YtddalpglihhipaaGreat
open Go.RowKit

structure VR where
 i : Int
 m : Int
 b : Int

structure VT where
 rows : List VR
 own : List Int

def rowIdx (l : List VR) (id : Int) : Option Nat := l.findIdx? (fun r => r.i == id)
def rowAt (l : List VR) (id : Int) : Int := match rowIdx l id with
 | some k => k
 | none => -1

def in3 (x lo hi : Int) : Bool := decide (lo ≤ x) && decide (x ≤ hi)
def allOf (p : Nat) : Int := 2 ^ p - 1

def vrowOk (all : Int) (r : VR) : Bool := in3 r.i 1 99 && in3 r.m 0 all && in3 r.b 0 all && (bits .and .i64 r.b r.m == r.b)

def vrises : List VR → Bool
 | [] => true
 | [_] => true
 | e :: f :: r => decide (e.i < f.i) && vrises (f :: r)

def vtabOk (v : VT) (ports : Int) : Bool :=
 in3 ports 1 6 && ((v.own.length : Int) == ports) && decide (v.rows.length ≤ 6) && v.rows.all (vrowOk (allOf ports.toNat)) && vrises v.rows && v.own.all (fun p => (rowIdx v.rows p).isSome)

def bitOf (n port : Int) : Bool := in3 port 0 7 && (bits .and .i64 (n / 2 ^ port.toNat) 1 == 1)

def egressOf (v : VT) (id : Int) : Int := match v.rows.find? (fun r => r.i == id) with
 | some r => r.m
 | none => 0

def shownTag (v : VT) (id port : Int) : Int := match v.rows.find? (fun r => r.i == id) with
 | some r => if bitOf r.b port then 0 else id
 | none => 0

theorem rowIdx_found {l : List VR} {id : Int} {k : Nat} {x : VR} (hno : ∀ j y, j < k → l[j]? = some y → (y.i == id) = false) (hx : l[k]? = some x) (he : (x.i == id) = true) : rowIdx l id = some k := by
 obtain ⟨hk, rfl⟩ := List.getElem?_eq_some_iff.1 hx
 refine List.findIdx?_eq_some_iff_getElem.2 ⟨hk, he, fun j hj => ?_⟩
 have := hno j l[j] hj (List.getElem?_eq_getElem (by omega))
 simp [this]

theorem rowIdx_none {l : List VR} {id : Int} (hno : ∀ (j : Nat) (y : VR), l[j]? = some y → (y.i == id) = false) : rowIdx l id = none := by
 refine List.findIdx?_eq_none_iff.2 fun x hx => ?_
 obtain ⟨j, hj⟩ := List.mem_iff_getElem?.1 hx
 exact hno j x hj

theorem rowIdx_some {l : List VR} {id : Int} {k : Nat} (h : rowIdx l id = some k) : ∃ x, l[k]? = some x ∧ (x.i == id) = true ∧ l.find? (fun r => r.i == id) = some x := by
 obtain ⟨hk, he, hno⟩ := List.findIdx?_eq_some_iff_getElem.1 h
 refine ⟨l[k], List.getElem?_eq_getElem hk, he, ?_⟩
 refine List.find?_eq_some_iff_getElem.2 ⟨he, k, hk, rfl, fun j hj => ?_⟩
 have := hno j hj
 simpa using this

theorem rowIdx_find {l : List VR} {id : Int} (h : rowIdx l id = none) : l.find? (fun r => r.i == id) = none := by
 refine List.find?_eq_none.2 fun x hx => ?_
 have := List.findIdx?_eq_none_iff.1 h x hx
 simp [this]

theorem vno_next {l : List VR} {id : Int} {k : Nat} {x : VR} (hno : ∀ j y, j < k → l[j]? = some y → (y.i == id) = false) (hx : l[k]? = some x) (he : (x.i == id) = false) : ∀ j y, j < k + 1 → l[j]? = some y → (y.i == id) = false := by
 intro j y hj hy
 by_cases e : j = k
 ·subst e
  rw [hx] at hy
  cases hy
  exact he
 ·exact hno j y (by omega) hy

theorem rowAt_found {l : List VR} {id : Int} {k : Nat} {x : VR} (hno : ∀ j y, j < k → l[j]? = some y → (y.i == id) = false) (hx : l[k]? = some x) (he : (x.i == id) = true) : rowAt l id = k := by
 unfold rowAt
 rw [rowIdx_found hno hx he]
theorem rowAt_none {l : List VR} {id : Int} (hno : ∀ (j : Nat) (y : VR), l[j]? = some y → (y.i == id) = false) : rowAt l id = -1 := by
 unfold rowAt
 rw [rowIdx_none hno]

def cI (zs : List Int) : List Value := zs.map (Value.int .i64)

def I64s (zs : List Int) : Prop := ∀ z ∈ zs, -9223372036854775808 ≤ z ∧ z ≤ 9223372036854775807

theorem cI_length (zs : List Int) : (cI zs).length = zs.length := by simp [cI]
theorem cI_append (a b : List Int) : cI (a ++ b) = cI a ++ cI b := by simp [cI]
theorem cI_get (zs : List Int) (j : Nat) (h : j < zs.length) : (cI zs)[j]? = some (.int .i64 (zs.getD j 0)) := by
 simp [cI, List.getElem?_map, List.getElem?_eq_getElem h]

structure IRow (w : World) (ao : Option Addr) (len cap : Nat) (zs : List Int) : Prop where
 size : zs.length = len
 le : len ≤ cap
 top : cap ≤ maxLen
 nil : ao = none → cap = 0
 byte : I64s zs
 cell : len = 0 ∨ ∃ b off, ao = some ⟨b, off, none⟩ ∧ ∀ i, i < len → w.cell? ⟨b, off + i, none⟩ = some (.int .i64 (zs.getD i 0))

theorem IRow.below {w w' : World} {ao : Option Addr} {len cap : Nat} {zs : List Int} (h : IRow w ao len cap zs) (hb : Below w.heap.size w w') : IRow w' ao len cap zs where
 size := h.size
 le := h.le
 top := h.top
 nil := h.nil
 byte := h.byte
 cell := by
  rcases h.cell with h0 | ⟨b, off, ha, hc⟩
  ·exact .inl h0
  ·exact .inr ⟨b, off, ha, fun i hi => by rw [hb.cell (block_lt (hc i hi))]; exact hc i hi⟩

theorem irow_of_own {w : World} {base : Nat} {v : Value} {n : Nat} {zs : List Int} (h : w.ownsRow base 3 1 v n (cI zs)) (hz : I64s zs) :
  ∃ ao cap, v = .slice ao n cap ∧ IRow w ao n cap zs := by
 have hl : zs.length = n := by have := h.1; simpa [cI] using this
 rcases h.2 with ⟨rfl, rfl⟩ | ⟨g, cap, cur, rfl, hg, hh, h1, h2, h3, h4⟩
 ·exact ⟨none, 0, rfl, hl, Nat.le_refl _, Nat.zero_le _, fun _ => rfl, hz, .inl rfl⟩
 ·refine ⟨_, cap, rfl, hl, h1, h2, (by intro h; cases h), hz, .inr ⟨g, 0, rfl, fun i hi => ?_⟩⟩
  have := h.cellAt i (by omega)
  rw [Nat.zero_add, this, cI_get zs i (by omega)]

theorem Tryz.infoI64 : (Tryz.prog.info? 3).map (fun i => (i.zero, i.size, i.bytes)) = some (some (.int .i64 0), 1, 8) := by kernel_rfl

theorem IRow.news {w : World} {ao : Option Addr} {len cap : Nat} {zs : List Int} (h : IRow w ao len cap zs) (ad : Addr) (ha : ao = some ad) (j : Nat) (u : Value) (hu : (cI zs)[j]? = some u) : w.cell? (ad.add j) = some u := by
 have hj : j < zs.length := by
  by_cases hlt : j < zs.length
  ·exact hlt
  ·rw [List.getElem?_eq_none (by rw [cI_length]; omega)] at hu
   cases hu
 rw [cI_get _ _ hj] at hu
 rcases h.cell with h0 | ⟨b, off, hb, hc⟩
 ·have := h.size; omega
 ·rw [ha] at hb
  cases hb
  rw [← hu]
  rw [add_none]; exact hc j (by have := h.size; omega)

theorem IRow.none_zero {w : World} {ao : Option Addr} {len cap : Nat} {zs : List Int} (h : IRow w ao len cap zs) (ha : ao = none) : len = 0 ∧ cap = 0 := by
 have := h.nil ha; have := h.le; omega

theorem getD_i64 {zs : List Int} (h : I64s zs) (j : Nat) : -9223372036854775808 ≤ zs.getD j 0 ∧ zs.getD j 0 ≤ 9223372036854775807 := by
 by_cases hj : j < zs.length
 ·rw [List.getD_eq_getElem?_getD, List.getElem?_eq_getElem hj]; exact h _ (List.getElem_mem hj)
 ·rw [List.getD_eq_getElem?_getD, List.getElem?_eq_none (by omega)]; simp

theorem IRow.at {w : World} {ao : Option Addr} {len cap : Nat} {zs : List Int} (h : IRow w ao len cap zs) (hp : 0 < len) : ∃ b off, ao = some ⟨b, off, none⟩ ∧ ∀ i, i < len → w.cell? ⟨b, off + i, none⟩ = some (.int .i64 (zs.getD i 0)) := by
 rcases h.cell with h0 | h0
 ·omega
 ·exact h0

theorem I64s.at {zs : List Int} (h : I64s zs) (j : Nat) : -9223372036854775808 ≤ zs.getD j 0 ∧ zs.getD j 0 ≤ 9223372036854775807 := getD_i64 h j

theorem irow_nil (w : World) : IRow w none 0 0 [] := ⟨rfl, Nat.le_refl _, Nat.zero_le _, fun _ => rfl, (by intro z hz; cases hz), .inl rfl⟩

theorem irow_open {w : World} {x : Addr} {len cap : Nat} {zs : List Int} (hl : len ≤ cap) (hm : cap ≤ maxLen) (hz : zs.length = cap) (hcell : ∀ i, i < zs.length → w.cell? (x.add i) = some (.int .i64 (zs.getD i 0))) (hwz : ∀ n ∈ zs, (Lit.int .i64 n).wf = true) : IRow w (some x) len cap (zs.take len) where
 size := by simp; omega
 le := hl
 top := hm
 nil := by intro h; cases h
 byte := by
  intro z h
  have := hwz z (List.mem_of_mem_take h)
  simp [Lit.wf, IntKind.min, IntKind.max, IntKind.bits, IntKind.signed] at this
  omega
 cell := by
  by_cases h0 : len = 0
  ·exact .inl h0
  ·have hc0 := hcell 0 (by omega)
   obtain ⟨b, off, spot⟩ := x
   have hspot : spot = none := by simpa [Addr.add] using World.cell?_spot hc0
   subst hspot
   refine .inr ⟨b, off, rfl, fun i hi => ?_⟩
   have := hcell i (by omega)
   have e : (⟨b, off, none⟩ : Addr).add i = ⟨b, off + i, none⟩ := by by_cases h : i = 0 <;> simp [Addr.add, h]
   rw [e] at this
   rw [this]
   simp [List.getD_eq_getElem?_getD, hi]

set_option maxRecDepth 100000 in
set_option maxHeartbeats 400000 in
theorem eqI_any (a1 : Option Addr) (l1 c1 : Nat) (z1 : List Int) (a2 : Option Addr) (l2 c2 : Nat) (z2 : List Int) (w : World) (h1 : IRow w a1 l1 c1 z1) (h2 : IRow w a2 l2 c2 z2) :
  Calls Tryz.prog 146 #[.slice a1 l1 c1, .slice a2 l2 c2] w fun e w' => e = .returned (.bool (decide (z1 = z2))) ∧ ∃ n, w' = w.drewN n := by
 have m1 := h1.top; have m2 := h2.top; have s1 := h1.size; have s2 := h2.size; have e1 := h1.le; have e2 := h2.le
 unfold maxLen at m1 m2
 by_cases hl : l1 = l2
 ·subst hl
  by_cases h0 : l1 = 0
  ·subst h0
   have hz : z1 = z2 := by rw [List.eq_nil_of_length_eq_zero s1, List.eq_nil_of_length_eq_zero s2]
   go_enter Tryz.func146, Tryz.ntmps146
   go_wp2
   go_loop [5] (fun i => i = .int .i64 0) (fun _ => 0)
   case atStart => rfl
   case round =>
    subst hrel
    go_wp2
    go_ret
    exact ⟨by simp, 0, rfl⟩
  ·rcases h1.cell with h | ⟨b1, o1, rfl, g1⟩
   ·exact absurd h h0
   rcases h2.cell with h | ⟨b2, o2, rfl, g2⟩
   ·exact absurd h h0
   clear h1 h2
   have G1 : Hid (∀ i, i < l1 → w.cell? ⟨b1, o1 + i, none⟩ = some (.int .i64 (z1.getD i 0))) := g1
   have G2 : Hid (∀ i, i < l1 → w.cell? ⟨b2, o2 + i, none⟩ = some (.int .i64 (z2.getD i 0))) := g2
   clear g1 g2
   go_enter Tryz.func146, Tryz.ntmps146
   go_wp2
   go_loopw [5] (fun i wr => ∃ k : Nat, k ≤ l1 ∧ i = .int .i64 k ∧ z1.take k = z2.take k ∧ ∃ n, wr = w.drewN n) (fun i _ => l1 - (intOf i).toNat)
   case atStart => exact ⟨0, Nat.zero_le _, rfl, rfl, 0, rfl⟩
   case round =>
    obtain ⟨k, hk, rfl, ht, n, rfl⟩ := hrel
    have HT : Hid (z1.take k = z2.take k) := ht
    clear ht
    by_cases hlt : k < l1
    ·have c1 := G1.out k hlt
     have c2 := G2.out k hlt
     generalize hx : z1.getD k 0 = x at c1
     generalize hy : z2.getD k 0 = y at c2
     have HX : Hid (z1.getD k 0 = x) := hx
     have HY : Hid (z2.getD k 0 = y) := hy
     clear hx hy
     by_cases hq : x = y
     ·subst hq
      go_wp2
      go_quiet (fail)
      go_wp2
      go_roundw
      case rel => exact ⟨k + 1, by omega, by go_num, by rw [take_succ_getD _ _ (by omega), take_succ_getD _ _ (by omega), HT.out, HX.out, HY.out], _, rfl⟩
      case measure => simp [intOf]; omega
     ·have hne : (x != y) = true := by simp [hq]
      go_wp2
      go_quiet (fail)
      go_wp2
      go_ret
      exact ⟨ret_bool (decide_eq_false (ne_at k (by rw [HX.out, HY.out]; exact hq))).symm, _, World.drewN_drewN _ _ _⟩
    ·go_wp2
     go_ret
     have hk' : k = l1 := by omega
     exact ⟨ret_bool (decide_eq_true (eq_of_takes (by omega) (by rw [s1, ← hk']; exact HT.out))).symm, _, rfl⟩
 ·have hne : ((l1 : Int) != (l2 : Int)) = true := by simp; omega
  have hz : ¬ z1 = z2 := by intro e; rw [e] at s1; omega
  go_enter Tryz.func146, Tryz.ntmps146
  go_wp2
  go_ret
  exact ⟨ret_bool (decide_eq_false hz).symm, 0, rfl⟩

def halfI (zs : List Int) (n k : Nat) : List Value := cI (zs.take k) ++ List.replicate (n - k) (.int .i64 0)

theorem halfI_length (zs : List Int) (n k : Nat) (h : zs.length = n) (hk : k ≤ n) : (halfI zs n k).length = n := by
 simp [halfI, cI_length]; omega

theorem halfI_set (zs : List Int) (n k : Nat) (h : zs.length = n) (hk : k < n) : (halfI zs n k).set k (.int .i64 (zs.getD k 0)) = halfI zs n (k + 1) := by
 have hl : (cI (zs.take k)).length = k := by simp [cI_length]; omega
 unfold halfI
 rw [List.set_append_right _ _ (by omega), hl, Nat.sub_self, take_succ_getD _ _ (by omega), cI_append]
 obtain ⟨m, hm⟩ : ∃ m, n - k = m + 1 := ⟨n - k - 1, by omega⟩
 have hm' : n - (k + 1) = m := by omega
 rw [hm, hm', List.replicate_succ, List.set_cons_zero]
 simp [cI]

theorem halfI_all (zs : List Int) (n : Nat) (h : zs.length = n) : halfI zs n n = cI zs := by
 simp [halfI, ← h]

theorem halfI_none (zs : List Int) (n : Nat) : halfI zs n 0 = List.replicate n (.int .i64 0) := by
 simp [halfI, cI]

set_option maxRecDepth 100000 in
set_option maxHeartbeats 400000 in
theorem copyI_any (a1 : Option Addr) (l1 c1 : Nat) (z1 : List Int) (w : World) (h1 : IRow w a1 l1 c1 z1) (hs : l1 ≤ 16777216) :
  Calls Tryz.prog 142 #[.slice a1 l1 c1] w fun e w' => e = .returned (.slice (some ⟨w.heap.size, 0, none⟩) l1 l1) ∧
   w'.ownsRow w.heap.size 3 1 (.slice (some ⟨w.heap.size, 0, none⟩) l1 l1) l1 (cI z1) ∧ Below w.heap.size w w' := by
 obtain ⟨i0, hi, hz0, hz1, hz2⟩ := info_parts Tryz.infoI64
 have s1 := h1.size
 have hcell := h1.cell
 clear h1
 go_enter Tryz.func142, Tryz.ntmps142
 go_wp2_with (at_make; refine wpList_make_full _ rfl _ _ 27 rfl w.heap.size 3 i0 (.int .i64 0) 1 Tryz.underlying27 hi hz0 hz1 .i64 .i64 _ _ l1 rfl rfl rfl rfl ?c1 ?c2 ?c3 ?_)
 case c1 => rw [hz2]; omega
 case c2 => unfold maxLen; omega
 case c3 => exact Nat.le_refl _
 intro w1 hown hgrow
 have hb1 : Below w.heap.size w w1 := (Below.refl _ _).grown hgrow (Nat.le_refl _) (by intro k hk; cases hk)
 have hown1 : w1.ownsRow w.heap.size 3 1 (.slice (some ⟨w.heap.size, 0, none⟩) l1 l1) l1 (halfI z1 l1 0) := by
  rw [halfI_none, ← toList_madeCells_one]; simpa [Value.cells] using hown
 clear hown hgrow hi hz0 hz1 hz2
 go_wp2
 go_loopw [4] (fun i wr => ∃ k : Nat, k ≤ l1 ∧ i = .int .i64 k ∧ wr.ownsRow w.heap.size 3 1 (.slice (some ⟨w.heap.size, 0, none⟩) l1 l1) l1 (halfI z1 l1 k) ∧ Below w.heap.size w wr) (fun i _ => l1 - (intOf i).toNat)
 case atStart => exact ⟨0, Nat.zero_le _, rfl, hown1, hb1⟩
 case round =>
  obtain ⟨k, hk, rfl, hown, hb⟩ := hrel
  by_cases hlt : k < l1
  ·rcases hcell with h0 | ⟨b, off, rfl, hc⟩
   ·omega
   have cx : wr.cell? ⟨b, off + k, none⟩ = some (.int .i64 (z1.getD k 0)) := by rw [hb.cell (block_lt (hc k hlt))]; exact hc k hlt
   have cf := hown.frozenAt k
   have cc : ∃ u, wr.cell? ⟨w.heap.size, k, none⟩ = some u := by
    rw [hown.cellAt k (by omega)]
    exact ⟨_, List.getElem?_eq_getElem (by rw [halfI_length _ _ _ s1 (by omega)]; exact hlt)⟩
   obtain ⟨u, cu⟩ := cc
   have R := hown.stored k (.int .i64 (z1.getD k 0))
   rw [halfI_set _ _ _ s1 hlt] at R
   have hb' := hb.setCell (p := ⟨w.heap.size, k, none⟩) (Nat.le_refl _) (.int .i64 (z1.getD k 0))
   have HR := R.1
   generalize hx : z1.getD k 0 = x at cx HR hb'
   have HX : Hid (z1.getD k 0 = x) := hx
   clear hx hc hown R hb hb1 hown1
   go_wp2
   go_roundw
   case rel => exact ⟨k + 1, by omega, by go_num, HR, hb'⟩
   case measure => simp [intOf]; omega
  ·have hk' : k = l1 := by omega
   subst hk'
   rw [halfI_all _ _ s1] at hown
   go_wp2
   go_ret
   exact ⟨rfl, hown, hb⟩

def marksI (k : Int) (n : Nat) : List Int := (List.range n).map fun i : Nat => (k + i)

theorem marksI_length (k : Int) (n : Nat) : (marksI k n).length = n := by simp [marksI]
theorem marksI_get (k : Int) (n i : Nat) (h : i < n) : (marksI k n).getD i 0 = (k + i) := by
 simp [marksI, List.getD_eq_getElem?_getD, List.getElem?_map, List.getElem?_range h]
theorem marksI_succ (k : Int) (n : Nat) : marksI k (n + 1) = marksI k n ++ [(k + n)] := by
 simp [marksI, List.range_succ]
theorem marksI_byte (k : Int) (n : Nat) (h0 : 0 ≤ k) (h1 : k ≤ 1099511627776) (hn : n ≤ 16777216) : I64s (marksI k n) := by
 intro z hz
 simp only [marksI, List.mem_map, List.mem_range] at hz
 obtain ⟨i, hi, rfl⟩ := hz
 omega

def markedI (k : Int) (zs : List Int) (j : Nat) : List Int := marksI k j ++ zs.drop j

theorem markedI_set (k : Int) (zs : List Int) (j : Nat) (h : j < zs.length) : (cI (markedI k zs j)).set j (.int .i64 ((k + j))) = cI (markedI k zs (j + 1)) := by
 have hl : (cI (marksI k j)).length = j := by rw [cI_length, marksI_length]
 unfold markedI
 rw [cI_append, List.set_append_right _ _ (by omega), hl, Nat.sub_self, marksI_succ, cI_append, cI_append]
 rw [List.drop_eq_getElem_cons h]
 simp only [cI, List.map_cons, List.set_cons_zero, List.map_nil, List.append_assoc, List.cons_append, List.nil_append]

theorem markedI_length (k : Int) (zs : List Int) (j : Nat) (h : j ≤ zs.length) : (markedI k zs j).length = zs.length := by
 simp [markedI, marksI_length]; omega

set_option maxRecDepth 100000 in
set_option maxHeartbeats 400000 in
theorem markI_any (base g n cap : Nat) (zs : List Int) (k : Int) (w : World) (hown : w.ownsRow base 3 1 (.slice (some ⟨g, 0, none⟩) n cap) n (cI zs)) (hn : n ≤ 16777216) (hk0 : 0 ≤ k) (hk1 : k ≤ 1099511627776) :
  Calls Tryz.prog 148 #[.slice (some ⟨g, 0, none⟩) n cap, .int .i64 k] w fun e w' => e = .returned (.int .i64 (k + n)) ∧
   w'.ownsRow base 3 1 (.slice (some ⟨g, 0, none⟩) n cap) n (cI (marksI k n)) ∧ w.grownBy w' (some g) := by
 have hl : zs.length = n := by have := hown.1; simpa [cI] using this
 go_enter Tryz.func148, Tryz.ntmps148
 go_wp2
 go_loopw [1, 5] (fun m i wr => ∃ j : Nat, j ≤ n ∧ i = .int .i64 j ∧ m = .int .i64 (k + j) ∧ wr.ownsRow base 3 1 (.slice (some ⟨g, 0, none⟩) n cap) n (cI (markedI k zs j)) ∧ w.grownBy wr (some g)) (fun _ i _ => n - (intOf i).toNat)
 case atStart => exact ⟨0, Nat.zero_le _, rfl, by simp, by simpa [markedI, marksI] using hown, World.grownBy.refl _ _⟩
 case round =>
  obtain ⟨j, hj, rfl, rfl, how, hg⟩ := hrel
  by_cases hlt : j < n
  ·have cf := how.frozenAt j
   have cc : ∃ u, wr.cell? ⟨g, j, none⟩ = some u := by
    rw [how.cellAt j (by omega)]
    exact ⟨_, List.getElem?_eq_getElem (by rw [cI_length, markedI_length _ _ _ (by omega)]; omega)⟩
   obtain ⟨u, cu⟩ := cc
   have R := (how.stored j (.int .i64 ((k + j)))).1
   rw [markedI_set _ _ _ (by omega)] at R
   have hg' := grown_setCell hg j (.int .i64 ((k + j)))
   clear how hg hown
   go_wp2
   go_roundw
   case rel => exact ⟨j + 1, by omega, by go_num, by go_num, R, hg'⟩
   case measure => simp [intOf]; omega
  ·have hj' : j = n := by omega
   subst hj'
   have hd : markedI k zs j = marksI k j := by simp [markedI, ← hl]
   rw [hd] at how
   clear hd
   go_wp2
   go_ret
   exact ⟨rfl, how, hg⟩

set_option maxRecDepth 100000 in
set_option maxHeartbeats 400000 in
theorem markI_nil (k : Int) (w : World) :
  Calls Tryz.prog 148 #[.slice none 0 0, .int .i64 k] w fun e w' => e = .returned (.int .i64 k) ∧ w' = w := by
 go_enter Tryz.func148, Tryz.ntmps148
 go_wp2
 go_loop [1, 5] (fun m i => m = .int .i64 k ∧ i = .int .i64 0) (fun _ _ => 0)
 case atStart => exact ⟨rfl, rfl⟩
 case round =>
  obtain ⟨rfl, rfl⟩ := hrel
  go_wp2
  go_ret
  exact ⟨rfl, rfl⟩

set_option maxRecDepth 100000 in
set_option maxHeartbeats 400000 in
theorem heldI_any (ao : Option Addr) (n cap : Nat) (k : Int) (w : World) (h1 : IRow w ao n cap (marksI k n)) (hn : n ≤ 16777216) (hk0 : 0 ≤ k) (hk1 : k ≤ 1099511627776) :
  Calls Tryz.prog 150 #[.slice ao n cap, .int .i64 k] w fun e w' => e = .returned (.int .i64 (k + n)) ∧ w' = w := by
 have hcell := h1.cell
 clear h1
 go_enter Tryz.func150, Tryz.ntmps150
 go_wp2
 go_loop [1, 5] (fun m i => ∃ j : Nat, j ≤ n ∧ i = .int .i64 j ∧ m = .int .i64 (k + j)) (fun _ i => n - (intOf i).toNat)
 case atStart => exact ⟨0, Nat.zero_le _, rfl, by simp⟩
 case round =>
  obtain ⟨j, hj, rfl, rfl⟩ := hrel
  by_cases hlt : j < n
  ·rcases hcell with h0 | ⟨b, off, rfl, hc⟩
   ·omega
   have cx := hc j hlt
   rw [marksI_get _ _ _ hlt] at cx
   clear hc
   go_wp2
   go_round
   case rel => exact ⟨j + 1, by omega, by go_num, by go_num⟩
   case measure => simp [intOf]; omega
  ·have hj' : j = n := by omega
   subst hj'
   go_wp2
   go_ret
   exact ⟨rfl, rfl⟩

theorem eqI_same (a1 : Option Addr) (l1 c1 : Nat) (a2 : Option Addr) (l2 c2 : Nat) (zs : List Int) (w : World) (h1 : IRow w a1 l1 c1 zs) (h2 : IRow w a2 l2 c2 zs) :
  Calls Tryz.prog 146 #[.slice a1 l1 c1, .slice a2 l2 c2] w fun e w' => e = .returned (.bool true) ∧ ∃ n, w' = w.drewN n := by
 refine (eqI_any a1 l1 c1 zs a2 l2 c2 zs w h1 h2).mono ?_
 rintro e w' ⟨rfl, n, rfl⟩
 exact ⟨by simp, n, rfl⟩

theorem irow_own {w : World} {base : Nat} {ao : Option Addr} {n cap : Nat} {zs : List Int} (h : w.ownsRow base 3 1 (.slice ao n cap) n (cI zs)) (hz : I64s zs) : IRow w ao n cap zs := by
 obtain ⟨ao', cap', e, hr⟩ := irow_of_own h hz
 cases e
 exact hr

theorem markI_grown (base : Nat) (ao : Option Addr) (n cap : Nat) (zs : List Int) (k : Int) (w : World) (hown : w.ownsRow base 3 1 (.slice ao n cap) n (cI zs)) (hn : n ≤ 16777216) (hk0 : 0 ≤ k) (hk1 : k ≤ 1099511627776) :
  Calls Tryz.prog 148 #[.slice ao n cap, .int .i64 k] w fun e w' => e = .returned (.int .i64 (k + n)) ∧
   w'.ownsRow base 3 1 (.slice ao n cap) n (cI (marksI k n)) ∧ w.grownBy w' (Value.slice ao n cap).ownBlock := by
 rcases hown.2 with ⟨h, h0⟩ | ⟨g, cap', cur, h, hg, h3⟩
 ·cases h
  refine (markI_nil k w).mono ?_
  rintro e w' ⟨rfl, rfl⟩
  exact ⟨by simp, by simpa [marksI, cI] using World.ownsRow_nil _ _ _ _, World.grownBy.refl _ _⟩
 ·cases h
  refine (markI_any base g n cap zs k w hown hn hk0 hk1).mono ?_
  rintro e w' ⟨rfl, ho, hgr⟩
  exact ⟨rfl, ho, hgr⟩

theorem copyI_made (a1 : Option Addr) (l1 c1 : Nat) (z1 : List Int) (w : World) (h1 : IRow w a1 l1 c1 z1) (hs : l1 ≤ 16777216) :
  Calls Tryz.prog 142 #[.slice a1 l1 c1] w fun e w' => ∃ ao cap, e = .returned (.slice ao l1 cap) ∧
   w'.ownsRow w.heap.size 3 1 (.slice ao l1 cap) l1 (cI z1) ∧ IRow w' ao l1 cap z1 ∧ Below w.heap.size w w' := by
 refine (copyI_any a1 l1 c1 z1 w h1 hs).mono ?_
 rintro e w' ⟨rfl, ho, hb⟩
 exact ⟨_, _, rfl, ho, irow_own ho h1.byte, hb⟩

def vrowF : Flat VR where
 k := 3
 cs := fun e => [.int .i64 e.i, .int .i64 e.m, .int .i64 e.b]
 len := fun _ => rfl
 pos := by decide
 one := fun _ v hv => by
  simp only [List.mem_cons, List.not_mem_nil, or_false] at hv
  rcases hv with rfl | rfl | rfl <;> rfl

theorem vrow_at {w : World} {ao : Option Addr} {len cap : Nat} {l : List VR} (h : GRow vrowF w ao len cap l) (i : Nat) (hi : i < len) : ∃ (x : VR) (b off : Nat), l[i]? = some x ∧ ao = some ⟨b, off, none⟩ ∧
  w.cell? ⟨b, off + i * 3, none⟩ = some (.int .i64 x.i) ∧ w.cell? ⟨b, off + i * 3 + 1, none⟩ = some (.int .i64 x.m) ∧ w.cell? ⟨b, off + i * 3 + 2, none⟩ = some (.int .i64 x.b) := by
 obtain ⟨x, b, off, hx, ha, hc⟩ := h.at i hi
 exact ⟨x, b, off, hx, ha, hc 0 _ rfl, hc 1 _ rfl, hc 2 _ rfl⟩

structure VTab (w : World) (a : Option Addr) (n c : Nat) (o : Option Addr) (p q : Nat) (v : VT) : Prop where
 rows : GRow vrowF w a n c v.rows
 own : IRow w o p q v.own

theorem VTab.below {w w' : World} {a : Option Addr} {n c : Nat} {o : Option Addr} {p q : Nat} {v : VT} (h : VTab w a n c o p q v) (hb : Below w.heap.size w w') : VTab w' a n c o p q v :=
 ⟨h.rows.below hb, h.own.below hb⟩

structure BR where
 id : Int
 name : ByteArray
 ports : List PT
 f : List FE
 v : VT
 ticks : Int
 parse : Int
 word : Int
 drops : Int
 vers : Int

def in1m (x : Int) : Bool := decide (0 ≤ x) && decide (x ≤ 1000000)
def countsOk (a b c d e : Int) : Bool := in1m a && (in1m b && (in1m c && (in1m d && in1m e)))
def bridgeOk (b : BR) : Bool :=
 b.ports.all ptOk && (in3 b.id 1 99 && (decide ((b.name.size : Int) ≤ 10) && (in3 (b.ports.length : Int) 1 6 && (fdbOk b.f && (vtabOk b.v (b.ports.length : Int) && countsOk b.ticks b.parse b.word b.drops b.vers)))))

structure BrRow (w : World) (a : Option Addr) (n c : Nat) (fa : Option Addr) (fn fc : Nat) (ra : Option Addr) (rn rc : Nat) (oa : Option Addr) (on oc : Nat) (b : BR) : Prop where
 ports : GRow ptF w a n c b.ports
 f : GRow fentF w fa fn fc b.f
 v : VTab w ra rn rc oa on oc b.v

theorem BrRow.below {w w' : World} {a : Option Addr} {n c : Nat} {fa : Option Addr} {fn fc : Nat} {ra : Option Addr} {rn rc : Nat} {oa : Option Addr} {on oc : Nat} {b : BR} (h : BrRow w a n c fa fn fc ra rn rc oa on oc b) (hb : Below w.heap.size w w') : BrRow w' a n c fa fn fc ra rn rc oa on oc b :=
 ⟨h.ports.below hb, h.f.below hb, h.v.below hb⟩

set_option maxRecDepth 100000 in
set_option maxHeartbeats 400000 in
theorem specRowAt_any (a : Option Addr) (n c : Nat) (l : List VR) (o : Option Addr) (p q : Nat) (id : Int) (w : World) (h : GRow vrowF w a n c l) :
  Calls Tryz.prog 119 #[.agg #[.slice a n c, .slice o p q], .int .i64 id] w fun r w' => r = .returned (.int .i64 (rowAt l id)) ∧ Below w.heap.size w w' := by
 have hle := h.le
 have htop := h.top
 unfold maxLen at htop
 have hsz := h.size
 have hW : Below w.heap.size w (w.alloc (Obj.cells #[Value.slice a n c, Value.slice o p q] 29)) := below_one _ _
 have h := h.below hW
 go_enter Tryz.func119, Tryz.ntmps119
 go_wp2
 go_loop [5] (fun i => ∃ k : Nat, k ≤ n ∧ i = .int .i64 k ∧ ∀ (j : Nat) (y : VR), j < k → l[j]? = some y → (y.i == id) = false) (fun i => n - (intOf i).toNat)
 case atStart => exact ⟨0, Nat.zero_le _, rfl, fun j y hj => by omega⟩
 case round =>
  obtain ⟨k, hk, rfl, hno⟩ := hrel
  by_cases hlt : k < n
  ·obtain ⟨x, b, off, hx, rfl, c0, -, -⟩ := vrow_at h k hlt
   cases t1 : (x.i == id)
   ·have HO := hide (vno_next hno hx t1)
    clear hno
    go_wp2
    go_round
    case rel => exact ⟨k + 1, by omega, by go_num, HO.out⟩
    case measure => simp [intOf]; omega
   ·have HF := hide (rowAt_found hno hx t1)
    clear hno
    go_wp2
    go_ret
    exact ⟨(by rw [HF.out]; rfl), hW⟩
  ·have hkn : k = n := by omega
   have HF := hide (rowAt_none (l := l) (id := id) (fun i y hy => hno i y (by have := (List.getElem?_eq_some_iff.1 hy).1; omega) hy))
   clear hno
   subst hkn
   go_wp2
   go_ret
   exact ⟨(by rw [HF.out]; rfl), hW⟩

theorem made_new {K : World → Prop} {W : World} {o : Obj} (h : ∀ wx, wx.heap[W.heap.size]? = some o → Below W.heap.size W wx → K wx) : K (W.alloc o) := h _ (block_last W o) (below_one W o)

theorem made_drew {K : World → Prop} {W : World} {o : Obj} (h : ∀ wx, wx.heap[W.heap.size]? = some o → Below W.drew.heap.size W.drew wx → K wx) : K (W.alloc o).drew := h _ (block_last W o) (below_one W.drew o)

theorem vec_eql (R C H B P R' C' H' B' P' : Int) (w : World) : (binOp .eql 93 (.agg #[.int .i64 R, .int .i64 C, .int .i64 H, .int .i64 B, .int .i64 P]) (.agg #[.int .i64 R', .int .i64 C', .int .i64 H', .int .i64 B', .int .i64 P'])).run Tryz.prog w = .ok (.bool ((R == R') && ((C == C') && ((H == H') && ((B == B') && (P == P')))))) w := by
 have u3 := Tryz.underlying3
 have a3 := Tryz.isAgg3
 have z3 := Tryz.sizeOf3
 have hS : Tryz.prog.underlying 93 = some (.struct (Tryz.prog.fieldsOf 93)) := by kernel_rfl
 have hp : Tryz.prog.stoodInHeld 93 = false := by kernel_rfl
 rw [run_eql_struct, show (10000 : Nat) = 9999 + 1 from rfl, run_equalIn_agg w 9999 93 _ _ hS hp]
 simp only [Program.fieldsOf, Tryz.underlying93]
 go_simp
 by_cases h1 : R = R' <;> by_cases h2 : C = C' <;> by_cases h3 : H = H' <;> by_cases h4 : B = B' <;> by_cases h5 : P = P' <;> simp [h1, h2, h3, h4, h5]

theorem cells8 {w : World} {g : Nat} {T : TypeId} {c0 c1 c2 c3 c4 c5 c6 c7 : Value} (h : w.heap[g]? = some (.cells #[c0, c1, c2, c3, c4, c5, c6, c7] T)) :
  w.cell? ⟨g, 0, none⟩ = some c0 ∧ w.cell? ⟨g, 1, none⟩ = some c1 ∧ w.cell? ⟨g, 2, none⟩ = some c2 ∧ w.cell? ⟨g, 3, none⟩ = some c3 ∧ w.cell? ⟨g, 4, none⟩ = some c4 ∧ w.cell? ⟨g, 5, none⟩ = some c5 ∧ w.cell? ⟨g, 6, none⟩ = some c6 ∧ w.cell? ⟨g, 7, none⟩ = some c7 := by
 simp [World.cell?, h]

set_option maxRecDepth 100000 in
set_option maxHeartbeats 2000000 in
theorem specPtOk_any (x : PT) (w : World) :
  Calls Tryz.prog 164 #[.agg #[.bool x.up, .int .i64 x.k, .bool x.has, .int .i64 x.v.r, .int .i64 x.v.c, .int .i64 x.v.h, .int .i64 x.v.b, .int .i64 x.v.p]] w fun e w' => e = .returned (.bool (ptOk x)) ∧ Below w.heap.size w w' := by
 have he : ∀ W, (binOp .eql 93 (.agg #[.int .i64 x.v.r, .int .i64 x.v.c, .int .i64 x.v.h, .int .i64 x.v.b, .int .i64 x.v.p]) (.agg #[.int .i64 0, .int .i64 0, .int .i64 0, .int .i64 0, .int .i64 0])).run Tryz.prog W = .ok (.bool (zeroVc x.v)) W := fun W => by rw [vec_eql]; rfl
 have hgd : Tryz.prog.eqGuardType Tryz.prog.depth 93 = false := by kernel_rfl
 obtain ⟨up, k, has, ⟨r, c, h, b, p⟩⟩ := x
 simp only at he ⊢
 generalize hw1 : w.alloc (.cells #[.bool up, .int .i64 k, .bool has, .int .i64 r, .int .i64 c, .int .i64 h, .int .i64 b, .int .i64 p] 95) = w1
 have q0 : Below w.heap.size w w1 := by subst hw1; exact below_one _ _
 obtain ⟨c0, c1, c2, c3, c4, c5, c6, c7⟩ := cells8 (by rw [← hw1]; exact block_last w _ : w1.heap[w.heap.size]? = _)
 cases t1 : (decide (1 ≤ k) && decide (k ≤ 1000))
 ·have T1 := hide t1
  rw [show ptOk ⟨up, k, has, ⟨r, c, h, b, p⟩⟩ = false by unfold ptOk; rw [t1]; rfl]
  clear t1
  go_enter Tryz.func164, Tryz.ntmps164
  go_wp2_with fail
  refine (within_any k 1 1000 _).mono ?_
  rintro e w2 ⟨rfl, rfl⟩
  rw [T1.out]
  go_wp2
  go_ret
  exact ⟨rfl, q0⟩
 cases has
 ·rw [show ptOk ⟨up, k, false, ⟨r, c, h, b, p⟩⟩ = zeroVc ⟨r, c, h, b, p⟩ by unfold ptOk; rw [t1]; cases up <;> rfl]
  have T1 := hide t1
  generalize zeroVc ⟨r, c, h, b, p⟩ = Q at *
  clear t1
  cases up <;>
  ·go_enter Tryz.func164, Tryz.ntmps164
   go_wp2_with fail
   refine (within_any k 1 1000 _).mono ?_
   rintro e w2 ⟨rfl, rfl⟩
   rw [T1.out]
   go_wp2
   go_ret
   exact ⟨rfl, q0⟩
 cases up
 ·rw [show ptOk ⟨false, k, true, ⟨r, c, h, b, p⟩⟩ = false by unfold ptOk; rw [t1]; rfl]
  have T1 := hide t1
  clear t1
  go_enter Tryz.func164, Tryz.ntmps164
  go_wp2_with fail
  refine (within_any k 1 1000 _).mono ?_
  rintro e w2 ⟨rfl, rfl⟩
  rw [T1.out]
  go_wp2
  go_ret
  exact ⟨rfl, q0⟩
 ·rw [show ptOk ⟨true, k, true, ⟨r, c, h, b, p⟩⟩ = okVc r c h b p by unfold ptOk; rw [t1]; rfl]
  have T1 := hide t1
  clear t1
  go_enter Tryz.func164, Tryz.ntmps164
  go_wp2_with fail
  refine (within_any k 1 1000 _).mono ?_
  rintro e w2 ⟨rfl, rfl⟩
  rw [T1.out]
  go_wp2_with fail
  refine (specVecOk_any r c h b p _).mono ?_
  rintro e w3 ⟨rfl, hb3⟩
  have HB := hide (gr_trans q0 hb3)
  clear hb3
  go_wp2
  go_ret
  exact ⟨rfl, HB.out⟩

set_option maxRecDepth 100000 in
set_option maxHeartbeats 2000000 in
theorem specEnt_any (e : FE) (w : World) :
  Calls Tryz.prog 122 #[.agg #[.int .i64 e.t, .int .i64 e.m, .int .i64 e.p, .int .i64 e.a, .bool e.s]] w fun r w' => r = .returned (.bool (entOk e)) ∧ Below w.heap.size w w' := by
 generalize hP : entOk e = Q
 unfold entOk at hP
 cases t1 : (decide (1 ≤ e.t) && decide (e.t ≤ 99))
 ·have h : Q = false := by rw [← hP, t1]; rfl
  subst h
  have T1 := hide t1
  clear hP t1
  go_enter Tryz.func122, Tryz.ntmps122
  go_wp2_with fail
  refine (within_any e.t 1 99 _).mono ?_
  rintro r w1 ⟨rfl, rfl⟩
  rw [T1.out]
  go_wp2
  go_ret
  exact ⟨rfl, below_one _ _⟩
 cases t2 : (decide (1 ≤ e.m) && decide (e.m ≤ 9999))
 ·have h : Q = false := by rw [← hP, t1, t2]; rfl
  subst h
  have T1 := hide t1
  have T2 := hide t2
  clear hP t1 t2
  go_enter Tryz.func122, Tryz.ntmps122
  go_wp2_with fail
  refine (within_any e.t 1 99 _).mono ?_
  rintro r w1 ⟨rfl, rfl⟩
  rw [T1.out]
  go_wp2_with fail
  refine (within_any e.m 1 9999 _).mono ?_
  rintro r w2 ⟨rfl, rfl⟩
  rw [T2.out]
  go_wp2
  go_ret
  exact ⟨rfl, below_one _ _⟩
 cases t3 : (decide (0 ≤ e.p) && decide (e.p ≤ 7))
 ·have h : Q = false := by rw [← hP, t1, t2, t3]; rfl
  subst h
  have T1 := hide t1
  have T2 := hide t2
  have T3 := hide t3
  clear hP t1 t2 t3
  go_enter Tryz.func122, Tryz.ntmps122
  go_wp2_with fail
  refine (within_any e.t 1 99 _).mono ?_
  rintro r w1 ⟨rfl, rfl⟩
  rw [T1.out]
  go_wp2_with fail
  refine (within_any e.m 1 9999 _).mono ?_
  rintro r w2 ⟨rfl, rfl⟩
  rw [T2.out]
  go_wp2_with fail
  refine (within_any e.p 0 7 _).mono ?_
  rintro r w3 ⟨rfl, rfl⟩
  rw [T3.out]
  go_wp2
  go_ret
  exact ⟨rfl, below_one _ _⟩
 cases t4 : (decide (0 ≤ e.a) && decide (e.a ≤ 4))
 ·have h : Q = false := by rw [← hP, t1, t2, t3, t4]; rfl
  subst h
  have T1 := hide t1
  have T2 := hide t2
  have T3 := hide t3
  have T4 := hide t4
  clear hP t1 t2 t3 t4
  go_enter Tryz.func122, Tryz.ntmps122
  go_wp2_with fail
  refine (within_any e.t 1 99 _).mono ?_
  rintro r w1 ⟨rfl, rfl⟩
  rw [T1.out]
  go_wp2_with fail
  refine (within_any e.m 1 9999 _).mono ?_
  rintro r w2 ⟨rfl, rfl⟩
  rw [T2.out]
  go_wp2_with fail
  refine (within_any e.p 0 7 _).mono ?_
  rintro r w3 ⟨rfl, rfl⟩
  rw [T3.out]
  go_wp2_with fail
  refine (within_any e.a 0 4 _).mono ?_
  rintro r w4 ⟨rfl, rfl⟩
  rw [T4.out]
  go_wp2
  go_ret
  exact ⟨rfl, below_one _ _⟩
 rw [t1, t2, t3, t4, Bool.true_and, Bool.true_and, Bool.true_and, Bool.true_and] at hP
 have T1 := hide t1
 have T2 := hide t2
 have T3 := hide t3
 have T4 := hide t4
 clear t1 t2 t3 t4
 cases hs : e.s
 ·rw [hs] at hP
  have h : Q = true := by rw [← hP]; rfl
  subst h
  clear hP
  go_enter Tryz.func122, Tryz.ntmps122
  go_wp2_with fail
  refine (within_any e.t 1 99 _).mono ?_
  rintro r w1 ⟨rfl, rfl⟩
  rw [T1.out]
  go_wp2_with fail
  refine (within_any e.m 1 9999 _).mono ?_
  rintro r w2 ⟨rfl, rfl⟩
  rw [T2.out]
  go_wp2_with fail
  refine (within_any e.p 0 7 _).mono ?_
  rintro r w3 ⟨rfl, rfl⟩
  rw [T3.out]
  go_wp2_with fail
  refine (within_any e.a 0 4 _).mono ?_
  rintro r w4 ⟨rfl, rfl⟩
  rw [T4.out]
  go_wp2
  go_ret
  exact ⟨rfl, below_one _ _⟩
 ·rw [hs, Bool.not_true, Bool.false_or] at hP
  have HP := hide hP
  clear hP
  go_enter Tryz.func122, Tryz.ntmps122
  go_wp2_with fail
  refine (within_any e.t 1 99 _).mono ?_
  rintro r w1 ⟨rfl, rfl⟩
  rw [T1.out]
  go_wp2_with fail
  refine (within_any e.m 1 9999 _).mono ?_
  rintro r w2 ⟨rfl, rfl⟩
  rw [T2.out]
  go_wp2_with fail
  refine (within_any e.p 0 7 _).mono ?_
  rintro r w3 ⟨rfl, rfl⟩
  rw [T3.out]
  go_wp2_with fail
  refine (within_any e.a 0 4 _).mono ?_
  rintro r w4 ⟨rfl, rfl⟩
  rw [T4.out]
  go_wp2
  go_ret
  exact ⟨ret_bool HP.out, below_one _ _⟩

set_option maxRecDepth 100000 in
set_option maxHeartbeats 400000 in
theorem specAhead_any (e : FE) (t m : Int) (w : World) :
  Calls Tryz.prog 170 #[.agg #[.int .i64 e.t, .int .i64 e.m, .int .i64 e.p, .int .i64 e.a, .bool e.s], .int .i64 t, .int .i64 m] w fun r w' => r = .returned (.bool (ahead e t m)) ∧ Below w.heap.size w w' := by
 unfold ahead
 cases t1 : (e.t != t)
 ·rw [if_neg Bool.false_ne_true]
  go_enter Tryz.func170, Tryz.ntmps170
  go_wp2
  go_ret
  exact ⟨rfl, below_one _ _⟩
 ·rw [if_pos rfl]
  go_enter Tryz.func170, Tryz.ntmps170
  go_wp2
  go_ret
  exact ⟨rfl, below_one _ _⟩

def okTo (l : List FE) (k : Nat) : Prop := ∀ i x, i < k → l[i]? = some x → entOk x = true ∧ ∀ y, 0 < i → l[i - 1]? = some y → ahead y x.t x.m = true

theorem okTo_rises : ∀ (l : List FE), rises l = true ↔ okTo l l.length
 | [] => by simp [rises, okTo]
 | [e] => by
  simp only [rises, okTo, List.length_singleton]
  constructor
  ·intro h i x hi hx
   have h0 : i = 0 := by omega
   subst h0
   simp at hx
   subst hx
   exact ⟨h, fun y hy => by omega⟩
  ·intro h
   exact (h 0 e (by omega) rfl).1
 | e :: f :: r => by
  have ih := okTo_rises (f :: r)
  unfold rises
  simp only [Bool.and_eq_true, ih]
  constructor
  ·rintro ⟨h1, h2, h3⟩ i x hi hx
   match i, hx with
   | 0, hx =>
    simp at hx
    subst hx
    exact ⟨h1, fun y hy => by omega⟩
   | 1, hx =>
    simp at hx
    subst hx
    refine ⟨(h3 0 f (by simp) rfl).1, fun y _ hy => ?_⟩
    simp at hy
    subst hy
    exact h2
   | i + 2, hx =>
    obtain ⟨a1, a2⟩ := h3 (i + 1) x (by simp at hi ⊢; omega) (by simpa using hx)
    exact ⟨a1, fun y _ hy => a2 y (by omega) (by simpa using hy)⟩
  ·intro h
   refine ⟨(h 0 e (by simp) rfl).1, (h 1 f (by simp) rfl).2 e (by omega) rfl, fun i x hi hx => ?_⟩
   obtain ⟨a1, a2⟩ := h (i + 1) x (by simp at hi ⊢; omega) (by simpa using hx)
   refine ⟨a1, fun y hy hz => a2 y (by omega) ?_⟩
   obtain ⟨j, rfl⟩ : ∃ j, i = j + 1 := ⟨i - 1, by omega⟩
   simpa using hz

theorem okTo_next {l : List FE} {k : Nat} {x : FE} (h : okTo l k) (hx : l[k]? = some x) (h1 : entOk x = true) (h2 : ∀ y, 0 < k → l[k - 1]? = some y → ahead y x.t x.m = true) : okTo l (k + 1) := by
 intro i z hi hz
 by_cases e : i = k
 ·subst e
  rw [hx] at hz
  cases hz
  exact ⟨h1, h2⟩
 ·exact h i z (by omega) hz

theorem fdbOk_not {l : List FE} (h : ¬ okTo l l.length) : fdbOk l = false := by
 unfold fdbOk
 have : rises l = false := by
  cases hr : rises l
  ·rfl
  ·exact absurd ((okTo_rises l).1 hr) h
 rw [this]
 rfl

theorem fdbOk_yes {l : List FE} (h : okTo l l.length) : fdbOk l = decide ((l.length : Int) ≤ 12) := by
 unfold fdbOk
 rw [(okTo_rises l).2 h]
 rfl

theorem ptInfo : (Tryz.prog.info? 95).map (fun i => (i.zero, i.size, i.bytes)) = some (some (.agg #[.bool false, .int .i64 0, .bool false, .int .i64 0, .int .i64 0, .int .i64 0, .int .i64 0, .int .i64 0]), ptF.k, 64) := by kernel_rfl

theorem pt_append (w : World) {ops : Array Oper} {rest : List Oper} {o : Oper} {a : Act} {Q : Exit → Act → World → Prop} (hgd : o.guard = none)
  (s x : Operand) (ho : o.op = Op.call { callee := Callee.builtin Builtin.append, args := #[s, x], argTypes := #[24, 24] }) (base : Nat)
  (v : Value) (n : Nat) (xs : List PT) (hs : a.eval s = v) (hown : w.ownsRow base 95 8 v n (ptF.all xs)) (ao : Option Addr) (m c : Nat) (zs : List PT)
  (hx : a.eval x = .slice ao m c) (hrow : GRow ptF w ao m c zs) (hsm : n + m ≤ 137438953472) (hbase : base ≤ w.heap.size)
  (h : ∀ ao' cap' w', w'.ownsRow base 95 8 (.slice ao' (n + m) cap') (n + m) (ptF.all (xs ++ zs)) → GRow ptF w' ao' (n + m) cap' (xs ++ zs) → w.grownBy w' v.ownBlock → Below base w w' → wpList Tryz.prog ops Q rest (a.put o.dst (.slice ao' (n + m) cap')) w') :
  wpList Tryz.prog ops Q (o :: rest) a w :=
 wpList_append_flat (F := ptF) w hgd s x 24 95 ho base Tryz.underlying24 ptInfo rfl (by decide) v n xs hs hown ao m c zs hx hrow hsm hbase h

theorem frozen8 {w : World} {g : Nat} {T : TypeId} {cs : Array Value} (h : w.heap[g]? = some (.cells cs T)) (j : Nat) : w.frozen? ⟨g, j, none⟩ = false := by
 simp [World.frozen?, h]

theorem role_one {id : Int} {l : List PT} (port : Int) : 1 ≤ roleOf id l port ∧ roleOf id l port ≤ 4 := by
 unfold roleOf
 split
 ·split
  ·unfold roleAt
   repeat' split
   all_goals omega
  ·omega
 ·omega

def sendsB (f : Nat → Bool) : Nat → Int
 | 0 => 0
 | k + 1 => if f k = true then bits .or .i64 (sendsB f k) (2 ^ k) else sendsB f k

theorem sends_is (id : Int) (l : List PT) : ∀ k, sendsTo id l k = sendsB (fun i => decide (roleOf id l (i : Int) ≤ 2)) k
 | 0 => rfl
 | k + 1 => by
  rw [sendsTo, sendsB, sends_is id l k]
  simp

theorem sendsB_cut (f g : Nat → Bool) : ∀ k, (∀ i, i < k → f i = g i) → sendsB f k = sendsB g k
 | 0, _ => rfl
 | k + 1, h => by
  rw [sendsB, sendsB, sendsB_cut f g k (fun i hi => h i (by omega)), h k (by omega)]

def six (b0 b1 b2 b3 b4 b5 : Bool) : Nat → Bool
 | 0 => b0
 | 1 => b1
 | 2 => b2
 | 3 => b3
 | 4 => b4
 | _ => b5

theorem six_bits : ∀ b0 b1 b2 b3 b4 b5 : Bool, ∀ n : Fin 7, ∀ i : Fin 6, bitOf (sendsB (six b0 b1 b2 b3 b4 b5) n.val) (i.val : Int) = (decide (i.val < n.val) && six b0 b1 b2 b3 b4 b5 i.val) := by
 decide +kernel

def staticF (l : List FE) (t m : Int) : Bool :=
 match lookE l t m with
 | some e => e.s
 | none => false

theorem lookUp_of {l : List FE} {t m : Int} {e : FE} (h : lookE l t m = some e) : lookUp l t m = e.p := by unfold lookUp; rw [h]
theorem lookUp_no {l : List FE} {t m : Int} (h : lookE l t m = none) : lookUp l t m = -1 := by unfold lookUp; rw [h]

theorem learn_static {l : List FE} {t m p : Int} (hs : staticF l t m = true) : learnF l t m p = l := by
 unfold learnF
 rw [if_neg]
 unfold staticF at hs
 unfold canLearn
 cases hk : lookE l t m with
 | none => rw [hk] at hs; cases hs
 | some e => rw [hk] at hs; simp [hs]

theorem putGo_true_len (e : FE) : ∀ (l : List FE), (putGo e true l).length ≤ l.length
 | [] => by simp [putGo]
 | x :: r => by
  have h := putGo_true_len e r
  unfold putGo
  simp only [Bool.not_true, Bool.false_and, Bool.false_eq_true, if_false]
  split <;> simp <;> omega

theorem putGo_len (e : FE) : ∀ (d : Bool) (l : List FE), (putGo e d l).length ≤ l.length + 1
 | d, [] => by cases d <;> simp [putGo]
 | d, x :: r => by
  have h1 := putGo_true_len e r
  have h2 := putGo_len e d r
  unfold putGo
  split
  ·split <;> simp <;> omega
  ·split <;> simp <;> omega

theorem learn_len (l : List FE) (t m p : Int) : (learnF l t m p).length ≤ l.length + 1 := by
 unfold learnF
 split
 ·exact putGo_len _ _ _
 ·omega
theorem set_len (l : List FE) (t m p : Int) : (setF l t m p).length ≤ l.length + 1 := by
 unfold setF
 split
 ·exact putGo_len _ _ _
 ·omega
theorem age_len (l : List FE) : (ageF l).length ≤ l.length + 1 := Nat.le_trans (List.length_filterMap_le _ _) (by omega)
theorem flush_len (l : List FE) (p : Int) : (flushF l p).length ≤ l.length + 1 := Nat.le_trans (List.length_filter_le _ _) (by omega)
theorem drop_len (l : List FE) (t m : Int) : (dropF l t m).length ≤ l.length + 1 := Nat.le_trans (drop_sub l t m).length_le (by omega)

def oneMore (n : Int) : Int := if n ≥ 1000000 then n else n + 1

def flushTo (bits : Int) (l : List FE) : Nat → List FE
 | 0 => l
 | k + 1 => if bitOf bits (k : Int) = true then flushTo bits l k else flushF (flushTo bits l k) (k : Int)

def turned (b : BR) : BR := { b with vers := oneMore b.vers, f := flushTo (sendsOf b.id b.ports) b.f b.ports.length }

def thereB (b : BR) (port : Int) : Bool := bridgeOk b && (decide (0 ≤ port) && decide (port ≤ (b.ports.length : Int) - 1))

theorem in1m_iff (x : Int) : in1m x = true ↔ 0 ≤ x ∧ x ≤ 1000000 := by
 unfold in1m
 simp

theorem bridgeOk_parts {b : BR} (h : bridgeOk b = true) : b.ports.all ptOk = true ∧ in3 b.id 1 99 = true ∧ (b.name.size : Int) ≤ 10 ∧ in3 (b.ports.length : Int) 1 6 = true ∧ fdbOk b.f = true ∧ vtabOk b.v (b.ports.length : Int) = true ∧ in1m b.ticks = true ∧ in1m b.parse = true ∧ in1m b.word = true ∧ in1m b.drops = true ∧ in1m b.vers = true := by
 unfold bridgeOk countsOk at h
 simp only [Bool.and_eq_true, decide_eq_true_eq] at h
 obtain ⟨h1, h2, h3, h4, h5, h6, h7, h8, h9, h10, h11⟩ := h
 exact ⟨h1, h2, h3, h4, h5, h6, h7, h8, h9, h10, h11⟩

theorem there_ok {b : BR} {port : Int} (h : thereB b port = true) : bridgeOk b = true := by
 unfold thereB at h
 simp only [Bool.and_eq_true] at h
 exact h.1

set_option maxRecDepth 100000 in
set_option maxHeartbeats 2000000 in
theorem toPt_made (x : PT) (w : World) :
  Calls Tryz.prog 139 #[.agg #[.bool x.up, .int .i64 x.k, .bool x.has, .int .i64 x.v.r, .int .i64 x.v.c, .int .i64 x.v.h, .int .i64 x.v.b, .int .i64 x.v.p]] w fun r w' => r = .returned (.agg #[.bool x.up, .int .i64 x.k, .bool x.has, .int .i64 x.v.r, .int .i64 x.v.c, .int .i64 x.v.h, .int .i64 x.v.b, .int .i64 x.v.p]) ∧ Below w.heap.size w w' := by
 go_enter Tryz.func139, Tryz.ntmps139
 go_wp2_with fail
 refine (toVec_made x.v.r x.v.c x.v.h x.v.b x.v.p _).mono ?_
 rintro e w2 ⟨rfl, hb2⟩
 obtain ⟨-, k1, k2⟩ := kept_three hb2
 have HB0 := hide (gr_trans (below_three w _ _ _) hb2)
 clear hb2
 obtain ⟨d0, d1, d2, d3, d4, d5, d6, d7⟩ := cells8 k2
 obtain ⟨e0, e1, e2, e3, e4, e5, e6, e7⟩ := cells8 k1
 have fr : ∀ j, w2.frozen? ⟨w.heap.size + 1 + 1, j, none⟩ = false := fun j => by simp [World.frozen?, k2]
 have gr : ∀ j, w2.frozen? ⟨w.heap.size + 1, j, none⟩ = false := fun j => by simp [World.frozen?, k1]
 have f3 := fr 3
 have f4 := fr 4
 have f5 := fr 5
 have f6 := fr 6
 have f7 := fr 7
 have g0 := gr 0
 have g1 := gr 1
 have g2 := gr 2
 have g3 := gr 3
 have g4 := gr 4
 have g5 := gr 5
 have g6 := gr 6
 have g7 := gr 7
 have ne1 : ¬ w.heap.size + 1 = w.heap.size + 1 + 1 := by omega
 have ne2 : ¬ w.heap.size + 1 + 1 = w.heap.size + 1 := by omega
 have HB := hide (below_set (below_set (below_set (below_set (below_set (below_set (below_set (below_set (below_set (below_set (below_set (below_set (below_set HB0.out (g := w.heap.size + 1 + 1) (by omega) 3 (.int .i64 x.v.r)) (g := w.heap.size + 1 + 1) (by omega) 4 (.int .i64 x.v.c)) (g := w.heap.size + 1 + 1) (by omega) 5 (.int .i64 x.v.h)) (g := w.heap.size + 1 + 1) (by omega) 6 (.int .i64 x.v.b)) (g := w.heap.size + 1 + 1) (by omega) 7 (.int .i64 x.v.p)) (g := w.heap.size + 1) (by omega) 0 (.bool x.up)) (g := w.heap.size + 1) (by omega) 1 (.int .i64 x.k)) (g := w.heap.size + 1) (by omega) 2 (.bool x.has)) (g := w.heap.size + 1) (by omega) 3 (.int .i64 x.v.r)) (g := w.heap.size + 1) (by omega) 4 (.int .i64 x.v.c)) (g := w.heap.size + 1) (by omega) 5 (.int .i64 x.v.h)) (g := w.heap.size + 1) (by omega) 6 (.int .i64 x.v.b)) (g := w.heap.size + 1) (by omega) 7 (.int .i64 x.v.p))
 clear fr gr k1 k2
 go_wp2
 exact bodyPost_ret (v := .agg #[.bool x.up, .int .i64 x.k, .bool x.has, .int .i64 x.v.r, .int .i64 x.v.c, .int .i64 x.v.h, .int .i64 x.v.b, .int .i64 x.v.p]) (by simp [results, Tryz.results139, go_sem, *]) rfl ⟨rfl, HB.out⟩

theorem ptInfoH : (Tryz.prog.info? 95).map (fun i => (i.zero, i.size, i.bytes)) = some (some (.agg #[.bool false, .int .i64 0, .bool false, .int .i64 0, .int .i64 0, .int .i64 0, .int .i64 0, .int .i64 0]), 8, 64) := by kernel_rfl

def PT.zero : PT := ⟨false, 0, false, ⟨0, 0, 0, 0, 0⟩⟩

theorem at8h {w w' : World} {b off n cap : Nat} {l : List PT} (h : GRow ptF w (some ⟨b, off, none⟩) n cap l) (hb : Below w.heap.size w w') {i : Nat} {x : PT} (hx : l[i]? = some x) :
  w'.cell? ⟨b, off + i * 8, none⟩ = some (.bool x.up) ∧ w'.cell? ⟨b, off + i * 8 + 1, none⟩ = some (.int .i64 x.k) ∧ w'.cell? ⟨b, off + i * 8 + 2, none⟩ = some (.bool x.has) ∧ w'.cell? ⟨b, off + i * 8 + 3, none⟩ = some (.int .i64 x.v.r) ∧ w'.cell? ⟨b, off + i * 8 + 4, none⟩ = some (.int .i64 x.v.c) ∧ w'.cell? ⟨b, off + i * 8 + 5, none⟩ = some (.int .i64 x.v.h) ∧ w'.cell? ⟨b, off + i * 8 + 6, none⟩ = some (.int .i64 x.v.b) ∧ w'.cell? ⟨b, off + i * 8 + 7, none⟩ = some (.int .i64 x.v.p) := by
 have hi : i < n := by
  have := (List.getElem?_eq_some_iff.1 hx).1
  have := h.size
  omega
 obtain ⟨y, b', off', hy, e, c⟩ := pt_at (h.below hb) i hi
 cases e
 rw [hx] at hy
 cases hy
 exact c

theorem pt_put {w : World} {base g n cap : Nat} {pre post : List PT} {x y : PT} (h : w.ownsRow base 95 8 (.slice (some ⟨g, 0, none⟩) n cap) n (ptF.all (pre ++ x :: post))) :
  ((((((((w.setCell ⟨g, pre.length * 8, none⟩ (.bool y.up)).setCell ⟨g, pre.length * 8 + 1, none⟩ (.int .i64 y.k)).setCell ⟨g, pre.length * 8 + 2, none⟩ (.bool y.has)).setCell ⟨g, pre.length * 8 + 3, none⟩ (.int .i64 y.v.r)).setCell ⟨g, pre.length * 8 + 4, none⟩ (.int .i64 y.v.c)).setCell ⟨g, pre.length * 8 + 5, none⟩ (.int .i64 y.v.h)).setCell ⟨g, pre.length * 8 + 6, none⟩ (.int .i64 y.v.b)).setCell ⟨g, pre.length * 8 + 7, none⟩ (.int .i64 y.v.p)).ownsRow base 95 8 (.slice (some ⟨g, 0, none⟩) n cap) n (ptF.all (pre ++ y :: post)) := by
 have R0 := flat_stored (F := ptF) (x' := ⟨y.up, x.k, x.has, ⟨x.v.r, x.v.c, x.v.h, x.v.b, x.v.p⟩⟩) h 0 (.bool y.up) (by decide) rfl
 have R1 := flat_stored (F := ptF) (x' := ⟨y.up, y.k, x.has, ⟨x.v.r, x.v.c, x.v.h, x.v.b, x.v.p⟩⟩) R0 1 (.int .i64 y.k) (by decide) rfl
 have R2 := flat_stored (F := ptF) (x' := ⟨y.up, y.k, y.has, ⟨x.v.r, x.v.c, x.v.h, x.v.b, x.v.p⟩⟩) R1 2 (.bool y.has) (by decide) rfl
 have R3 := flat_stored (F := ptF) (x' := ⟨y.up, y.k, y.has, ⟨y.v.r, x.v.c, x.v.h, x.v.b, x.v.p⟩⟩) R2 3 (.int .i64 y.v.r) (by decide) rfl
 have R4 := flat_stored (F := ptF) (x' := ⟨y.up, y.k, y.has, ⟨y.v.r, y.v.c, x.v.h, x.v.b, x.v.p⟩⟩) R3 4 (.int .i64 y.v.c) (by decide) rfl
 have R5 := flat_stored (F := ptF) (x' := ⟨y.up, y.k, y.has, ⟨y.v.r, y.v.c, y.v.h, x.v.b, x.v.p⟩⟩) R4 5 (.int .i64 y.v.h) (by decide) rfl
 have R6 := flat_stored (F := ptF) (x' := ⟨y.up, y.k, y.has, ⟨y.v.r, y.v.c, y.v.h, y.v.b, x.v.p⟩⟩) R5 6 (.int .i64 y.v.b) (by decide) rfl
 exact flat_stored (F := ptF) (x' := y) R6 7 (.int .i64 y.v.p) (by decide) rfl

theorem grown_set8 {w : World} {g : Nat} (j0 j1 j2 j3 j4 j5 j6 j7 : Nat) (u0 u1 u2 u3 u4 u5 u6 u7 : Value) : w.grownBy ((((((((w.setCell ⟨g, j0, none⟩ u0).setCell ⟨g, j1, none⟩ u1).setCell ⟨g, j2, none⟩ u2).setCell ⟨g, j3, none⟩ u3).setCell ⟨g, j4, none⟩ u4).setCell ⟨g, j5, none⟩ u5).setCell ⟨g, j6, none⟩ u6).setCell ⟨g, j7, none⟩ u7) (some g) :=
 grownTr (grownTr (grownTr (grownTr (grownTr (grownTr (grownTr (grown_set _ _) (grown_set _ _)) (grown_set _ _)) (grown_set _ _)) (grown_set _ _)) (grown_set _ _)) (grown_set _ _)) (grown_set _ _)

theorem pt_cells {w : World} {base g n cap : Nat} {T : TypeId} {l : List PT} (h : w.ownsRow base T 8 (.slice (some ⟨g, 0, none⟩) n cap) n (ptF.all l)) {i : Nat} {x : PT} (hx : l[i]? = some x) :
  (w.cell? ⟨g, i * 8, none⟩ = some (.bool x.up) ∧ w.cell? ⟨g, i * 8 + 1, none⟩ = some (.int .i64 x.k) ∧ w.cell? ⟨g, i * 8 + 2, none⟩ = some (.bool x.has) ∧ w.cell? ⟨g, i * 8 + 3, none⟩ = some (.int .i64 x.v.r) ∧ w.cell? ⟨g, i * 8 + 4, none⟩ = some (.int .i64 x.v.c) ∧ w.cell? ⟨g, i * 8 + 5, none⟩ = some (.int .i64 x.v.h) ∧ w.cell? ⟨g, i * 8 + 6, none⟩ = some (.int .i64 x.v.b) ∧ w.cell? ⟨g, i * 8 + 7, none⟩ = some (.int .i64 x.v.p)) ∧
  (w.frozen? ⟨g, i * 8, none⟩ = false ∧ w.frozen? ⟨g, i * 8 + 1, none⟩ = false ∧ w.frozen? ⟨g, i * 8 + 2, none⟩ = false ∧ w.frozen? ⟨g, i * 8 + 3, none⟩ = false ∧ w.frozen? ⟨g, i * 8 + 4, none⟩ = false ∧ w.frozen? ⟨g, i * 8 + 5, none⟩ = false ∧ w.frozen? ⟨g, i * 8 + 6, none⟩ = false ∧ w.frozen? ⟨g, i * 8 + 7, none⟩ = false) := by
 have c0 := flat_cells (F := ptF) h hx (j := 0) (v := .bool x.up) rfl
 have c1 := flat_cells (F := ptF) h hx (j := 1) (v := .int .i64 x.k) rfl
 have c2 := flat_cells (F := ptF) h hx (j := 2) (v := .bool x.has) rfl
 have c3 := flat_cells (F := ptF) h hx (j := 3) (v := .int .i64 x.v.r) rfl
 have c4 := flat_cells (F := ptF) h hx (j := 4) (v := .int .i64 x.v.c) rfl
 have c5 := flat_cells (F := ptF) h hx (j := 5) (v := .int .i64 x.v.h) rfl
 have c6 := flat_cells (F := ptF) h hx (j := 6) (v := .int .i64 x.v.b) rfl
 have c7 := flat_cells (F := ptF) h hx (j := 7) (v := .int .i64 x.v.p) rfl
 exact ⟨⟨c0.1, c1.1, c2.1, c3.1, c4.1, c5.1, c6.1, c7.1⟩, c0.2, c1.2, c2.2, c3.2, c4.2, c5.2, c6.2, c7.2⟩

set_option maxRecDepth 100000 in
set_option maxHeartbeats 4000000 in
theorem toPts_made (ao : Option Addr) (n c : Nat) (l : List PT) (w : World) (hl : GRow ptF w ao n c l) (hs : n ≤ 1048576) :
  Calls Tryz.prog 79 #[.slice ao n c] w fun r w' => ∃ ao' cap, r = .returned (.slice ao' n cap) ∧ w'.ownsRow w.heap.size 95 8 (.slice ao' n cap) n (ptF.all l) ∧ GRow ptF w' ao' n cap l ∧ Below w.heap.size w w' := by
 obtain ⟨i0, hi, hz0, hz1, hz2⟩ := finfo_parts ptInfoH
 have s1 := hl.size
 go_enter Tryz.func79, Tryz.ntmps79
 go_wp2_with (at_make; refine wpList_make_full _ rfl _ _ 24 rfl w.heap.size 95 i0 (.agg #[.bool false, .int .i64 0, .bool false, .int .i64 0, .int .i64 0, .int .i64 0, .int .i64 0, .int .i64 0]) 8 Tryz.underlying24 hi hz0 hz1 .i64 .i64 _ _ n rfl rfl rfl rfl ?c1 ?c2 ?c3 ?_)
 case c1 => rw [hz2]; omega
 case c2 => unfold maxLen; omega
 case c3 => exact Nat.le_refl _
 intro w1 hown hgrow
 have hb1 : Below w.heap.size w w1 := (Below.refl _ _).grown hgrow (Nat.le_refl _) (by intro k hk; cases hk)
 have hown1 : w1.ownsRow w.heap.size 95 8 (.slice (some ⟨w.heap.size, 0, none⟩) n n) n (ptF.all (l.take 0 ++ List.replicate (n - 0) PT.zero)) := by
  rw [List.take_zero, List.nil_append, Nat.sub_zero, ← flat_made]; exact hown
 clear hown hgrow hi hz0 hz1 hz2
 go_wp2
 go_loopw [4] (fun i wr => ∃ k : Nat, k ≤ n ∧ i = .int .i64 k ∧ wr.ownsRow w.heap.size 95 8 (.slice (some ⟨w.heap.size, 0, none⟩) n n) n (ptF.all (l.take k ++ List.replicate (n - k) PT.zero)) ∧ Below w.heap.size w wr) (fun i _ => n - (intOf i).toNat)
 case atStart => exact ⟨0, Nat.zero_le _, rfl, hown1, hb1⟩
 case round =>
  obtain ⟨k, hk, rfl, ho, hb⟩ := hrel
  clear hown1 hb1
  by_cases hlt : k < n
  ·obtain ⟨x, b, off, hx, rfl, a0, a1, a2, a3, a4, a5, a6, a7⟩ := pt_at (hl.below hb) k hlt
   have hrep : List.replicate (n - k) PT.zero = PT.zero :: List.replicate (n - (k + 1)) PT.zero := by rw [← List.replicate_succ]; congr 1; omega
   have hlk : (l.take k).length = k := by rw [List.length_take]; omega
   rw [hrep] at ho
   have htk : l.take (k + 1) = l.take k ++ [x] := by rw [List.take_add_one, hx]; rfl
   have HTK := hide htk
   have HB := hide hb
   have HO := hide ho
   have HX := hide hx
   clear hb ho htk hx
   go_wp2_with fail
   refine (toPt_made x _).mono ?_
   rintro r w2 ⟨rfl, hb2⟩
   have ho2 := gown_below HO.out hb2
   have hz : (l.take k ++ PT.zero :: List.replicate (n - (k + 1)) PT.zero)[k]? = some PT.zero := by rw [List.getElem?_append_right (by omega), hlk, Nat.sub_self]; rfl
   obtain ⟨⟨t0, t1, t2, t3, t4, t5, t6, t7⟩, f0, f1, f2, f3, f4, f5, f6, f7⟩ := pt_cells ho2 hz
   have o3 := pt_put (y := x) ho2
   rw [hlk] at o3
   have HO3 := hide o3
   have hb3 := gr_trans HB.out hb2
   have HB3 := hide (hb3.grown (grown_set8 (w := w2) (g := w.heap.size) (k * 8) (k * 8 + 1) (k * 8 + 2) (k * 8 + 3) (k * 8 + 4) (k * 8 + 5) (k * 8 + 6) (k * 8 + 7) (.bool x.up) (.int .i64 x.k) (.bool x.has) (.int .i64 x.v.r) (.int .i64 x.v.c) (.int .i64 x.v.h) (.int .i64 x.v.b) (.int .i64 x.v.p)) hb3.size (by intro j e; cases e; exact Nat.le_refl _))
   clear ho2 hb2 hb3 o3 hz a0 a1 a2 a3 a4 a5 a6 a7
   go_wp2
   go_roundw
   case rel => exact ⟨k + 1, by omega, by go_num, by rw [HTK.out, List.append_assoc]; exact HO3.out, HB3.out⟩
   case measure => simp [intOf]; omega
  ·have hkn : k = n := by omega
   subst hkn
   rw [Nat.sub_self, List.take_of_length_le (by omega), List.replicate_zero, List.append_nil] at ho
   have HO := hide ho
   have HR := hide (grow_own ho)
   have HB := hide hb
   clear ho hb
   go_wp2
   go_ret
   exact ⟨_, _, rfl, HO.out, HR.out, HB.out⟩

set_option maxRecDepth 100000 in
set_option maxHeartbeats 2000000 in
theorem eqPt_same (x : PT) (w : World) :
  Calls Tryz.prog 143 #[.agg #[.bool x.up, .int .i64 x.k, .bool x.has, .int .i64 x.v.r, .int .i64 x.v.c, .int .i64 x.v.h, .int .i64 x.v.b, .int .i64 x.v.p], .agg #[.bool x.up, .int .i64 x.k, .bool x.has, .int .i64 x.v.r, .int .i64 x.v.c, .int .i64 x.v.h, .int .i64 x.v.b, .int .i64 x.v.p]] w fun r w' => r = .returned (.bool true) ∧ Below w.heap.size w w' := by
 go_enter Tryz.func143, Tryz.ntmps143
 go_wp2_with fail
 refine (eqVec_same x.v.r x.v.c x.v.h x.v.b x.v.p _).mono ?_
 rintro e w2 ⟨rfl, hb2⟩
 have HB := hide (gr_trans (below_two _ _ _) hb2)
 clear hb2
 go_wp2
 go_ret
 exact ⟨rfl, HB.out⟩

set_option maxRecDepth 100000 in
set_option maxHeartbeats 400000 in
theorem szPts_any (ao : Option Addr) (n c : Nat) (left : Int) (w : World) (hl : n ≤ maxLen) (h0 : 0 ≤ left) (h1 : left ≤ 1048576) :
  Calls Tryz.prog 75 #[.slice ao n c, .int .i64 left] w fun r w' => r = .returned (.int .i64 (if (n : Int) ≤ left then left - n else -1)) ∧ w' = w := by
 unfold maxLen at hl
 go_enter Tryz.func75, Tryz.ntmps75
 go_wp2
 all_goals go_ret
 all_goals exact ⟨rfl, rfl⟩

set_option maxRecDepth 100000 in
set_option maxHeartbeats 4000000 in
theorem eqPts_same (ao : Option Addr) (n c : Nat) (ao' : Option Addr) (n' c' : Nat) (l : List PT) (w : World) (hl : GRow ptF w ao n c l) (hl' : GRow ptF w ao' n' c' l) :
  Calls Tryz.prog 83 #[.slice ao n c, .slice ao' n' c'] w fun r w' => r = .returned (.bool true) ∧ Below w.heap.size w w' := by
 have hs := hl.size
 have hs' := hl'.size
 have htop := Nat.le_trans hl.le hl.top
 unfold maxLen at htop
 have hnn : n' = n := by omega
 subst hnn
 go_enter Tryz.func83, Tryz.ntmps83
 go_wp2
 go_loopw [5] (fun i wr => ∃ k : Nat, k ≤ n' ∧ i = .int .i64 k ∧ Below w.heap.size w wr) (fun i _ => n' - (intOf i).toNat)
 case atStart => exact ⟨0, Nat.zero_le _, rfl, Below.refl _ _⟩
 case round =>
  obtain ⟨k, hk, rfl, hb⟩ := hrel
  by_cases hlt : k < n'
  ·obtain ⟨x, b, off, hx, rfl, a0, a1, a2, a3, a4, a5, a6, a7⟩ := pt_at (hl.below hb) k hlt
   obtain ⟨y, b', off', hy, rfl, e0, e1, e2, e3, e4, e5, e6, e7⟩ := pt_at (hl'.below hb) k hlt
   rw [hx] at hy
   cases hy
   have CX : Hid (∀ W, Below wr.heap.size wr W → _ ∧ _) := fun W h => ⟨at8h (hl.below hb) h hx, at8h (hl'.below hb) h hx⟩
   have HB := hide hb
   clear hb
   go_wp2_with fail
   go_region_held3 (fun W => (W.cell? ⟨b, off + k * 8, none⟩ = some (.bool x.up) ∧ W.cell? ⟨b, off + k * 8 + 1, none⟩ = some (.int .i64 x.k) ∧ W.cell? ⟨b, off + k * 8 + 2, none⟩ = some (.bool x.has) ∧ W.cell? ⟨b, off + k * 8 + 3, none⟩ = some (.int .i64 x.v.r) ∧ W.cell? ⟨b, off + k * 8 + 4, none⟩ = some (.int .i64 x.v.c) ∧ W.cell? ⟨b, off + k * 8 + 5, none⟩ = some (.int .i64 x.v.h) ∧ W.cell? ⟨b, off + k * 8 + 6, none⟩ = some (.int .i64 x.v.b) ∧ W.cell? ⟨b, off + k * 8 + 7, none⟩ = some (.int .i64 x.v.p)) ∧ (W.cell? ⟨b', off' + k * 8, none⟩ = some (.bool x.up) ∧ W.cell? ⟨b', off' + k * 8 + 1, none⟩ = some (.int .i64 x.k) ∧ W.cell? ⟨b', off' + k * 8 + 2, none⟩ = some (.bool x.has) ∧ W.cell? ⟨b', off' + k * 8 + 3, none⟩ = some (.int .i64 x.v.r) ∧ W.cell? ⟨b', off' + k * 8 + 4, none⟩ = some (.int .i64 x.v.c) ∧ W.cell? ⟨b', off' + k * 8 + 5, none⟩ = some (.int .i64 x.v.h) ∧ W.cell? ⟨b', off' + k * 8 + 6, none⟩ = some (.int .i64 x.v.b) ∧ W.cell? ⟨b', off' + k * 8 + 7, none⟩ = some (.int .i64 x.v.p))) (first | exact CX.out _ u1 | go_keep) (first
    | (go_at_call 143; refine (eqPt_same x _).mono ?_; rintro r w1 ⟨rfl, hb1⟩; have u1 : Below wr.heap.size wr w1 := undrew hb1))
   have b1 := gr_trans HB.out u1
   clear u1 hb1 a0 a1 a2 a3 a4 a5 a6 a7 e0 e1 e2 e3 e4 e5 e6 e7
   go_wp2
   go_roundw
   case rel => exact ⟨k + 1, by omega, by go_num, b1⟩
   case measure => simp [intOf]; omega
  ·have hk' : k = n' := by omega
   subst hk'
   go_wp2
   go_ret
   exact ⟨rfl, hb⟩

end Go.Proofs.YtddalpglihhipaaGreat
