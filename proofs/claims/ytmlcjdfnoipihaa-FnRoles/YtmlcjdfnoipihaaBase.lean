/-
  What a slice of bytes is to the walks of this seat: its elements as a list of numbers, and how that reading stays while a call makes new memory.
-/
import Derived.Test.YtmlcjdfnoipihaaRows
import Derived.WalkKit
import Derived.WalkSpells
import Derived.WalkLawsBesides
import Derived.Deep.QuietTactic
import Derived.BigQuiet
import Derived.Laws.AppendOwnNone
import Derived.Deep.RegionWith
import Derived.Deep.RegionLaw
namespace Go.Proofs.Ytmlcjdfnoipihaa
open Go.RowKit

/-- Numbers as the cells of a slice of bytes. -/
def cB (zs : List Int) : List Value := zs.map (Value.int .u8)

/-- Each number is a byte. -/
def Byt (zs : List Int) : Prop := ∀ z ∈ zs, 0 ≤ z ∧ z ≤ 255

theorem cB_length (zs : List Int) : (cB zs).length = zs.length := by simp [cB]
theorem cB_append (a b : List Int) : cB (a ++ b) = cB a ++ cB b := by simp [cB]
theorem cB_get (zs : List Int) (j : Nat) (h : j < zs.length) : (cB zs)[j]? = some (.int .u8 (zs.getD j 0)) := by
  simp [cB, List.getElem?_map, List.getElem?_eq_getElem h]

/-- A slice of bytes that can be read: zs are its elements. -/
structure Row (w : World) (ao : Option Addr) (len cap : Nat) (zs : List Int) : Prop where
  size : zs.length = len
  le : len ≤ cap
  top : cap ≤ maxLen
  nil : ao = none → cap = 0
  byte : Byt zs
  cell : len = 0 ∨ ∃ b off, ao = some ⟨b, off, none⟩ ∧ ∀ i, i < len → w.cell? ⟨b, off + i, none⟩ = some (.int .u8 (zs.getD i 0))

theorem block_lt {w : World} {a : Addr} {v : Value} (h : w.cell? a = some v) : a.block < w.heap.size := by
  unfold World.cell? at h
  by_cases hb : a.block < w.heap.size
  · exact hb
  · rw [Array.getElem?_eq_none (by omega)] at h
    simp at h

theorem Row.below {w w' : World} {ao : Option Addr} {len cap : Nat} {zs : List Int} (h : Row w ao len cap zs) (hb : Below w.heap.size w w') : Row w' ao len cap zs where
  size := h.size
  le := h.le
  top := h.top
  nil := h.nil
  byte := h.byte
  cell := by
    rcases h.cell with h0 | ⟨b, off, ha, hc⟩
    · exact .inl h0
    · exact .inr ⟨b, off, ha, fun i hi => by rw [hb.cell (block_lt (hc i hi))]; exact hc i hi⟩

theorem below_drewN {B : Nat} {a w : World} (h : Below B a w) (n : Nat) : Below B a (w.drewN n) :=
  ⟨h.os, h.tape, h.output, h.size, h.block⟩

/-- What the call made stays its own while only younger blocks turn. -/
theorem own_below {w w' : World} {base : Nat} {e : TypeId} {v : Value} {n : Nat} {xs : List Value} (h : w.ownsRow base e 1 v n xs) (hb : Below w.heap.size w w') : w'.ownsRow base e 1 v n xs := by
  obtain ⟨hl, h | ⟨g, cap, cur, rfl, hg, hh, h1, h2, h3, h4⟩⟩ := h
  · exact ⟨hl, .inl h⟩
  · refine ⟨hl, .inr ⟨g, cap, cur, rfl, hg, ?_, h1, h2, h3, h4⟩⟩
    rw [hb.block g ?_]
    · exact hh
    · by_cases hlt : g < w.heap.size
      · exact hlt
      · rw [Array.getElem?_eq_none (by omega)] at hh
        simp at hh

/-- A row that the call owns can be read. -/
theorem row_of_own {w : World} {base : Nat} {v : Value} {n : Nat} {zs : List Int} (h : w.ownsRow base 5 1 v n (cB zs)) (hz : Byt zs) :
    ∃ ao cap, v = .slice ao n cap ∧ Row w ao n cap zs := by
  have hl : zs.length = n := by have := h.1; simpa [cB] using this
  rcases h.2 with ⟨rfl, rfl⟩ | ⟨g, cap, cur, rfl, hg, hh, h1, h2, h3, h4⟩
  · exact ⟨none, 0, rfl, hl, Nat.le_refl _, Nat.zero_le _, fun _ => rfl, hz, .inl rfl⟩
  · refine ⟨_, cap, rfl, hl, h1, h2, (by intro h; cases h), hz, .inr ⟨g, 0, rfl, fun i hi => ?_⟩⟩
    have := h.cellAt i (by omega)
    rw [Nat.zero_add, this, cB_get zs i (by omega)]

theorem own_lt {w : World} {base : Nat} {e : TypeId} {v : Value} {n : Nat} {xs : List Value} (h : w.ownsRow base e 1 v n xs) {base' : Nat} (hle : base' ≤ base) : w.ownsRow base' e 1 v n xs := by
  obtain ⟨hl, h | ⟨g, cap, cur, rfl, hg, hh, h1, h2, h3, h4⟩⟩ := h
  · exact ⟨hl, .inl h⟩
  · exact ⟨hl, .inr ⟨g, cap, cur, rfl, by omega, hh, h1, h2, h3, h4⟩⟩

theorem Try.infoU8 : (Try.prog.info? 5).map (fun i => (i.zero, i.size, i.bytes)) = some (some (.int .u8 0), 1, 1) := by kernel_rfl

theorem add_none (b off j : Nat) : (⟨b, off, none⟩ : Addr).add j = ⟨b, off + j, none⟩ := by
  by_cases h : j = 0 <;> simp [Addr.add, h]

theorem Row.news {w : World} {ao : Option Addr} {len cap : Nat} {zs : List Int} (h : Row w ao len cap zs) (ad : Addr) (ha : ao = some ad) (j : Nat) (u : Value) (hu : (cB zs)[j]? = some u) : w.cell? (ad.add j) = some u := by
  have hj : j < zs.length := by
    by_cases hlt : j < zs.length
    · exact hlt
    · rw [List.getElem?_eq_none (by rw [cB_length]; omega)] at hu
      cases hu
  rw [cB_get _ _ hj] at hu
  rcases h.cell with h0 | ⟨b, off, hb, hc⟩
  · have := h.size; omega
  · rw [ha] at hb
    cases hb
    rw [← hu]
    rw [add_none]; exact hc j (by have := h.size; omega)

theorem Row.none_zero {w : World} {ao : Option Addr} {len cap : Nat} {zs : List Int} (h : Row w ao len cap zs) (ha : ao = none) : len = 0 ∧ cap = 0 := by
  have := h.nil ha; have := h.le; omega

theorem cB_oneCell (zs : List Int) (u : Value) (h : u ∈ cB zs) : u.oneCell' = true := ints_oneCell .u8 zs u h

theorem byte_append {a b : List Int} (ha : Byt a) (hb : Byt b) : Byt (a ++ b) := by
  intro z hz
  rcases List.mem_append.1 hz with h | h
  · exact ha z h
  · exact hb z h

/-- 'append' of whatever bytes can be read to bytes that the call owns. -/
theorem wpList_append_row {P : Program} (w : World) {ops : Array Oper} {rest : List Oper} {o : Oper} {a : Act} {Q : Exit → Act → World → Prop} (hgd : o.guard = none)
    (s x : Operand) (t : TypeId) (ho : o.op = Op.call { callee := Callee.builtin Builtin.append, args := #[s, x], argTypes := #[t, t] }) (base : Nat)
    (ht : P.underlying t = some (TypeDesc.slice 5)) (hinfo : (P.info? 5).map (fun i => (i.zero, i.size, i.bytes)) = some (some (.int .u8 0), 1, 1))
    (v : Value) (n : Nat) (xs : List Int) (hs : a.eval s = v) (hown : w.ownsRow base 5 1 v n (cB xs)) (hxs : Byt xs) (ao : Option Addr) (m c : Nat) (zs : List Int)
    (hx : a.eval x = .slice ao m c) (hrow : Row w ao m c zs) (hsm : n + m ≤ 140737488355328) (hbase : base ≤ w.heap.size)
    (h : ∀ ao' cap' w', w'.ownsRow base 5 1 (.slice ao' (n + m) cap') (n + m) (cB (xs ++ zs)) → Row w' ao' (n + m) cap' (xs ++ zs) → Below base w w' → wpList P ops Q rest (a.put o.dst (.slice ao' (n + m) cap')) w') :
    wpList P ops Q (o :: rest) a w := by
  obtain ⟨i0, hi, hz0, hz1, hz2⟩ := info_parts hinfo
  have hby := byte_append hxs hrow.byte
  rcases ao with _ | ad
  · obtain ⟨rfl, rfl⟩ := hrow.none_zero rfl
    have hz : zs = [] := List.eq_nil_of_length_eq_zero hrow.size
    subst hz
    refine wpList_append_own_none hgd s x t ho base 5 i0 1 ht hi v n (cB xs) hs hown hx ?_
    obtain ⟨ao', cap', rfl, hr⟩ := row_of_own hown hxs
    have := h ao' cap' w (by simpa using hown) (by simpa using hr) (Below.refl _ _)
    simpa using this
  · refine wpList_append_own w hgd s x t ho base 5 i0 (.int .u8 0) 1 1 ht hi hz0 hz1 hz2 rfl (by decide) v n (cB xs) hs hown ad m c (cB zs) hx (by rw [cB_length, hrow.size]; omega) (fun j u hu => hrow.news ad rfl j u hu) (cB_oneCell zs) (by unfold maxLen; omega) (by omega) hbase ?_
    intro v' w' how hgr _
    rw [← cB_append] at how
    have hlt := hown.lt
    obtain ⟨ao', cap', rfl, hr⟩ := row_of_own how hby
    exact h ao' cap' w' how hr ((Below.refl _ _).grown hgr hbase (by intro k hk; exact (hlt k hk).1))

/-- The same as one step of a region that draws its order. -/
theorem step_append_row {P : Program} {ops : Array Oper} {o : Oper} {a : Act} {w : World} {K : Act → World → Prop} {Q : Exit → Act → World → Prop} {E : Prop} (hgd : o.guard = none)
    (s x : Operand) (t : TypeId) (ho : o.op = Op.call { callee := Callee.builtin Builtin.append, args := #[s, x], argTypes := #[t, t] }) (base : Nat)
    (ht : P.underlying t = some (TypeDesc.slice 5)) (hinfo : (P.info? 5).map (fun i => (i.zero, i.size, i.bytes)) = some (some (.int .u8 0), 1, 1))
    (v : Value) (n : Nat) (xs : List Int) (hs : a.eval s = v) (hown : w.ownsRow base 5 1 v n (cB xs)) (hxs : Byt xs) (ao : Option Addr) (m c : Nat) (zs : List Int)
    (hx : a.eval x = .slice ao m c) (hrow : Row w ao m c zs) (hsm : n + m ≤ 140737488355328) (hbase : base ≤ w.heap.size)
    (h : ∀ ao' cap' w', w'.ownsRow base 5 1 (.slice ao' (n + m) cap') (n + m) (cB (xs ++ zs)) → Row w' ao' (n + m) cap' (xs ++ zs) → Below base w w' → K (a.put o.dst (.slice ao' (n + m) cap')) w') :
    if Region.wanted o (yielded ops a.tmps) = true then Oper.wp P o a w K Q else E := by
  have hw : Region.wanted o (yielded ops a.tmps) = true := by simp [Region.wanted, hgd]
  rw [if_pos hw]
  obtain ⟨i0, hi, hz0, hz1, hz2⟩ := info_parts hinfo
  have hby := byte_append hxs hrow.byte
  rcases ao with _ | ad
  · obtain ⟨rfl, rfl⟩ := hrow.none_zero rfl
    have hz : zs = [] := List.eq_nil_of_length_eq_zero hrow.size
    subst hz
    obtain ⟨ao', cap', rfl, hr⟩ := row_of_own hown hxs
    have hrun := run_append_owned_none (P := P) w base t o.type 5 i0 1 ht hi (.slice ao' n cap') n (cB xs) hown
    have hk : K (a.put o.dst (.slice ao' n cap')) w := by simpa using h ao' cap' w (by simpa using hown) (by simpa using hr) (Below.refl _ _)
    unfold Oper.wp
    simp [execOp, ho, resolve, invoke, builtin, hs, hx, hrun, Result.andThen]
    exact hk
  · refine wp_append_own w s x t ho base 5 i0 (.int .u8 0) 1 1 ht hi hz0 hz1 hz2 rfl (by decide) v n (cB xs) hs hown ad m c (cB zs) hx (by rw [cB_length, hrow.size]; omega) (fun j u hu => hrow.news ad rfl j u hu) (cB_oneCell zs) (by unfold maxLen; omega) (by omega) hbase ?_
    intro v' w' how hgr _
    rw [← cB_append] at how
    have hlt := hown.lt
    obtain ⟨ao', cap', rfl, hr⟩ := row_of_own how hby
    exact h ao' cap' w' how hr ((Below.refl _ _).grown hgr hbase (by intro k hk; exact (hlt k hk).1))

theorem hide {p : Prop} (h : p) : Hid p := h

theorem getD_byte {zs : List Int} (h : Byt zs) (j : Nat) : 0 ≤ zs.getD j 0 ∧ zs.getD j 0 ≤ 255 := by
  by_cases hj : j < zs.length
  · rw [List.getD_eq_getElem?_getD, List.getElem?_eq_getElem hj]; exact h _ (List.getElem_mem hj)
  · rw [List.getD_eq_getElem?_getD, List.getElem?_eq_none (by omega)]; simp

theorem Row.at {w : World} {ao : Option Addr} {len cap : Nat} {zs : List Int} (h : Row w ao len cap zs) (hp : 0 < len) : ∃ b off, ao = some ⟨b, off, none⟩ ∧ ∀ i, i < len → w.cell? ⟨b, off + i, none⟩ = some (.int .u8 (zs.getD i 0)) := by
  rcases h.cell with h0 | h0
  · omega
  · exact h0

theorem Byt.at {zs : List Int} (h : Byt zs) (j : Nat) : 0 ≤ zs.getD j 0 ∧ zs.getD j 0 ≤ 255 := getD_byte h j

theorem row_nil (w : World) : Row w none 0 0 [] := ⟨rfl, Nat.le_refl _, Nat.zero_le _, fun _ => rfl, (by intro z hz; cases hz), .inl rfl⟩

/-- An argument, as it is opened. -/
theorem row_open {w : World} {x : Addr} {len cap : Nat} {zs : List Int} (hl : len ≤ cap) (hm : cap ≤ maxLen) (hz : zs.length = cap) (hcell : ∀ i, i < zs.length → w.cell? (x.add i) = some (.int .u8 (zs.getD i 0))) (hwz : ∀ n ∈ zs, (Lit.int .u8 n).wf = true) : Row w (some x) len cap (zs.take len) where
  size := by simp; omega
  le := hl
  top := hm
  nil := by intro h; cases h
  byte := by
    intro z h
    have := hwz z (List.mem_of_mem_take h)
    simp [Lit.wf, IntKind.min, IntKind.max, IntKind.bits, IntKind.signed] at this
    omega
  cell := by
    by_cases h0 : len = 0
    · exact .inl h0
    · have hc0 := hcell 0 (by omega)
      obtain ⟨b, off, spot⟩ := x
      have hspot : spot = none := by simpa [Addr.add] using World.cell?_spot hc0
      subst hspot
      refine .inr ⟨b, off, rfl, fun i hi => ?_⟩
      have := hcell i (by omega)
      have e : (⟨b, off, none⟩ : Addr).add i = ⟨b, off + i, none⟩ := by by_cases h : i = 0 <;> simp [Addr.add, h]
      rw [e] at this
      rw [this]
      simp [List.getD_eq_getElem?_getD, hi]

end Go.Proofs.Ytmlcjdfnoipihaa
