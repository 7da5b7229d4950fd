/-
  What a slice of bytes is to the walks of this seat: its elements as a list of numbers, and how that reading stays while a call makes new memory.
  What a slice of ints is to the walks of this seat: its elements as a list of numbers, and how that reading stays while a call makes new memory.
  The law file's own helpers by their contracts: a copy of bytes, whether two slices are the same, the marks that are put and read again.
  The law file's own helpers on ints by their contracts: a copy, whether two slices are the same, the marks that are put and read again.
  A copy of bytes, its value written out.
  putPieces by its contract: it answers new memory that holds the bytes of its first argument and then those of each piece, in order.
  Worlds: what stays while blocks are made and elder ones are written; the cells of a box.
  Bytes as a text, and a text as bytes.
-/
import Derived.Test.YtamglfhnhjgdjaaGreatDoorRows
import Derived.WalkKit
import Derived.WalkSpells
import Derived.WalkLawsBesides
import Derived.Deep.QuietTactic
import Derived.BigQuiet
import Derived.Laws.AppendOwnNone
import Derived.Deep.RegionWith
import Derived.Deep.RegionLaw
import Derived.Deep.RegionHeld
import Derived.Laws.IdiomStrings
namespace Go.Proofs.YtamglfhnhjgdjaaGreatDoor
open Go.RowKit

/-- Numbers as the cells of a slice of bytes. -/
def cB (zs : List Int) : List Value := zs.map (Value.int .u8)

/-- Each number is a byte. -/
def Byt (zs : List Int) : Prop := ∀ z ∈ zs, 0 ≤ z ∧ z ≤ 255

theorem cB_length (zs : List Int) : (cB zs).length = zs.length := by simp [cB]
theorem cB_append (a b : List Int) : cB (a ++ b) = cB a ++ cB b := by simp [cB]
theorem cB_get (zs : List Int) (j : Nat) (h : j < zs.length) : (cB zs)[j]? = some (.int .u8 (zs.getD j 0)) := by
  simp [cB, List.getElem?_map, List.getElem?_eq_getElem h]

/-- A slice of bytes that can be read: zs are its elements. -/
structure Row (w : World) (ao : Option Addr) (len cap : Nat) (zs : List Int) : Prop where
  size : zs.length = len
  le : len ≤ cap
  top : cap ≤ maxLen
  nil : ao = none → cap = 0
  byte : Byt zs
  cell : len = 0 ∨ ∃ b off, ao = some ⟨b, off, none⟩ ∧ ∀ i, i < len → w.cell? ⟨b, off + i, none⟩ = some (.int .u8 (zs.getD i 0))

theorem block_lt {w : World} {a : Addr} {v : Value} (h : w.cell? a = some v) : a.block < w.heap.size := by
  unfold World.cell? at h
  by_cases hb : a.block < w.heap.size
  · exact hb
  · rw [Array.getElem?_eq_none (by omega)] at h
    simp at h

theorem Row.below {w w' : World} {ao : Option Addr} {len cap : Nat} {zs : List Int} (h : Row w ao len cap zs) (hb : Below w.heap.size w w') : Row w' ao len cap zs where
  size := h.size
  le := h.le
  top := h.top
  nil := h.nil
  byte := h.byte
  cell := by
    rcases h.cell with h0 | ⟨b, off, ha, hc⟩
    · exact .inl h0
    · exact .inr ⟨b, off, ha, fun i hi => by rw [hb.cell (block_lt (hc i hi))]; exact hc i hi⟩

theorem below_drewN {B : Nat} {a w : World} (h : Below B a w) (n : Nat) : Below B a (w.drewN n) :=
  ⟨h.os, h.tape, h.output, h.size, h.block⟩

/-- What the call made stays its own while only younger blocks turn. -/
theorem own_below {w w' : World} {base : Nat} {e : TypeId} {v : Value} {n : Nat} {xs : List Value} (h : w.ownsRow base e 1 v n xs) (hb : Below w.heap.size w w') : w'.ownsRow base e 1 v n xs := by
  obtain ⟨hl, h | ⟨g, cap, cur, rfl, hg, hh, h1, h2, h3, h4⟩⟩ := h
  · exact ⟨hl, .inl h⟩
  · refine ⟨hl, .inr ⟨g, cap, cur, rfl, hg, ?_, h1, h2, h3, h4⟩⟩
    rw [hb.block g ?_]
    · exact hh
    · by_cases hlt : g < w.heap.size
      · exact hlt
      · rw [Array.getElem?_eq_none (by omega)] at hh
        simp at hh

/-- A row that the call owns can be read. -/
theorem row_of_own {w : World} {base : Nat} {v : Value} {n : Nat} {zs : List Int} (h : w.ownsRow base 5 1 v n (cB zs)) (hz : Byt zs) :
    ∃ ao cap, v = .slice ao n cap ∧ Row w ao n cap zs := by
  have hl : zs.length = n := by have := h.1; simpa [cB] using this
  rcases h.2 with ⟨rfl, rfl⟩ | ⟨g, cap, cur, rfl, hg, hh, h1, h2, h3, h4⟩
  · exact ⟨none, 0, rfl, hl, Nat.le_refl _, Nat.zero_le _, fun _ => rfl, hz, .inl rfl⟩
  · refine ⟨_, cap, rfl, hl, h1, h2, (by intro h; cases h), hz, .inr ⟨g, 0, rfl, fun i hi => ?_⟩⟩
    have := h.cellAt i (by omega)
    rw [Nat.zero_add, this, cB_get zs i (by omega)]

theorem own_lt {w : World} {base : Nat} {e : TypeId} {v : Value} {n : Nat} {xs : List Value} (h : w.ownsRow base e 1 v n xs) {base' : Nat} (hle : base' ≤ base) : w.ownsRow base' e 1 v n xs := by
  obtain ⟨hl, h | ⟨g, cap, cur, rfl, hg, hh, h1, h2, h3, h4⟩⟩ := h
  · exact ⟨hl, .inl h⟩
  · exact ⟨hl, .inr ⟨g, cap, cur, rfl, by omega, hh, h1, h2, h3, h4⟩⟩

theorem Tryz.infoU8 : (Tryz.prog.info? 5).map (fun i => (i.zero, i.size, i.bytes)) = some (some (.int .u8 0), 1, 1) := by kernel_rfl

theorem add_none (b off j : Nat) : (⟨b, off, none⟩ : Addr).add j = ⟨b, off + j, none⟩ := by
  by_cases h : j = 0 <;> simp [Addr.add, h]

theorem Row.news {w : World} {ao : Option Addr} {len cap : Nat} {zs : List Int} (h : Row w ao len cap zs) (ad : Addr) (ha : ao = some ad) (j : Nat) (u : Value) (hu : (cB zs)[j]? = some u) : w.cell? (ad.add j) = some u := by
  have hj : j < zs.length := by
    by_cases hlt : j < zs.length
    · exact hlt
    · rw [List.getElem?_eq_none (by rw [cB_length]; omega)] at hu
      cases hu
  rw [cB_get _ _ hj] at hu
  rcases h.cell with h0 | ⟨b, off, hb, hc⟩
  · have := h.size; omega
  · rw [ha] at hb
    cases hb
    rw [← hu]
    rw [add_none]; exact hc j (by have := h.size; omega)

theorem Row.none_zero {w : World} {ao : Option Addr} {len cap : Nat} {zs : List Int} (h : Row w ao len cap zs) (ha : ao = none) : len = 0 ∧ cap = 0 := by
  have := h.nil ha; have := h.le; omega

theorem cB_oneCell (zs : List Int) (u : Value) (h : u ∈ cB zs) : u.oneCell' = true := ints_oneCell .u8 zs u h

theorem byte_append {a b : List Int} (ha : Byt a) (hb : Byt b) : Byt (a ++ b) := by
  intro z hz
  rcases List.mem_append.1 hz with h | h
  · exact ha z h
  · exact hb z h

/-- 'append' of whatever bytes can be read to bytes that the call owns. -/
theorem wpList_append_row {P : Program} (w : World) {ops : Array Oper} {rest : List Oper} {o : Oper} {a : Act} {Q : Exit → Act → World → Prop} (hgd : o.guard = none)
    (s x : Operand) (t : TypeId) (ho : o.op = Op.call { callee := Callee.builtin Builtin.append, args := #[s, x], argTypes := #[t, t] }) (base : Nat)
    (ht : P.underlying t = some (TypeDesc.slice 5)) (hinfo : (P.info? 5).map (fun i => (i.zero, i.size, i.bytes)) = some (some (.int .u8 0), 1, 1))
    (v : Value) (n : Nat) (xs : List Int) (hs : a.eval s = v) (hown : w.ownsRow base 5 1 v n (cB xs)) (hxs : Byt xs) (ao : Option Addr) (m c : Nat) (zs : List Int)
    (hx : a.eval x = .slice ao m c) (hrow : Row w ao m c zs) (hsm : n + m ≤ 140737488355328) (hbase : base ≤ w.heap.size)
    (h : ∀ ao' cap' w', w'.ownsRow base 5 1 (.slice ao' (n + m) cap') (n + m) (cB (xs ++ zs)) → Row w' ao' (n + m) cap' (xs ++ zs) → Below base w w' → wpList P ops Q rest (a.put o.dst (.slice ao' (n + m) cap')) w') :
    wpList P ops Q (o :: rest) a w := by
  obtain ⟨i0, hi, hz0, hz1, hz2⟩ := info_parts hinfo
  have hby := byte_append hxs hrow.byte
  rcases ao with _ | ad
  · obtain ⟨rfl, rfl⟩ := hrow.none_zero rfl
    have hz : zs = [] := List.eq_nil_of_length_eq_zero hrow.size
    subst hz
    refine wpList_append_own_none hgd s x t ho base 5 i0 1 ht hi v n (cB xs) hs hown hx ?_
    obtain ⟨ao', cap', rfl, hr⟩ := row_of_own hown hxs
    have := h ao' cap' w (by simpa using hown) (by simpa using hr) (Below.refl _ _)
    simpa using this
  · refine wpList_append_own w hgd s x t ho base 5 i0 (.int .u8 0) 1 1 ht hi hz0 hz1 hz2 rfl (by decide) v n (cB xs) hs hown ad m c (cB zs) hx (by rw [cB_length, hrow.size]; omega) (fun j u hu => hrow.news ad rfl j u hu) (cB_oneCell zs) (by unfold maxLen; omega) (by omega) hbase ?_
    intro v' w' how hgr _
    rw [← cB_append] at how
    have hlt := hown.lt
    obtain ⟨ao', cap', rfl, hr⟩ := row_of_own how hby
    exact h ao' cap' w' how hr ((Below.refl _ _).grown hgr hbase (by intro k hk; exact (hlt k hk).1))

/-- The same as one step of a region that draws its order. -/
theorem step_append_row {P : Program} {ops : Array Oper} {o : Oper} {a : Act} {w : World} {K : Act → World → Prop} {Q : Exit → Act → World → Prop} {E : Prop} (hgd : o.guard = none)
    (s x : Operand) (t : TypeId) (ho : o.op = Op.call { callee := Callee.builtin Builtin.append, args := #[s, x], argTypes := #[t, t] }) (base : Nat)
    (ht : P.underlying t = some (TypeDesc.slice 5)) (hinfo : (P.info? 5).map (fun i => (i.zero, i.size, i.bytes)) = some (some (.int .u8 0), 1, 1))
    (v : Value) (n : Nat) (xs : List Int) (hs : a.eval s = v) (hown : w.ownsRow base 5 1 v n (cB xs)) (hxs : Byt xs) (ao : Option Addr) (m c : Nat) (zs : List Int)
    (hx : a.eval x = .slice ao m c) (hrow : Row w ao m c zs) (hsm : n + m ≤ 140737488355328) (hbase : base ≤ w.heap.size)
    (h : ∀ ao' cap' w', w'.ownsRow base 5 1 (.slice ao' (n + m) cap') (n + m) (cB (xs ++ zs)) → Row w' ao' (n + m) cap' (xs ++ zs) → Below base w w' → K (a.put o.dst (.slice ao' (n + m) cap')) w') :
    if Region.wanted o (yielded ops a.tmps) = true then Oper.wp P o a w K Q else E := by
  have hw : Region.wanted o (yielded ops a.tmps) = true := by simp [Region.wanted, hgd]
  rw [if_pos hw]
  obtain ⟨i0, hi, hz0, hz1, hz2⟩ := info_parts hinfo
  have hby := byte_append hxs hrow.byte
  rcases ao with _ | ad
  · obtain ⟨rfl, rfl⟩ := hrow.none_zero rfl
    have hz : zs = [] := List.eq_nil_of_length_eq_zero hrow.size
    subst hz
    obtain ⟨ao', cap', rfl, hr⟩ := row_of_own hown hxs
    have hrun := run_append_owned_none (P := P) w base t o.type 5 i0 1 ht hi (.slice ao' n cap') n (cB xs) hown
    have hk : K (a.put o.dst (.slice ao' n cap')) w := by simpa using h ao' cap' w (by simpa using hown) (by simpa using hr) (Below.refl _ _)
    unfold Oper.wp
    simp [execOp, ho, resolve, invoke, builtin, hs, hx, hrun, Result.andThen]
    exact hk
  · refine wp_append_own w s x t ho base 5 i0 (.int .u8 0) 1 1 ht hi hz0 hz1 hz2 rfl (by decide) v n (cB xs) hs hown ad m c (cB zs) hx (by rw [cB_length, hrow.size]; omega) (fun j u hu => hrow.news ad rfl j u hu) (cB_oneCell zs) (by unfold maxLen; omega) (by omega) hbase ?_
    intro v' w' how hgr _
    rw [← cB_append] at how
    have hlt := hown.lt
    obtain ⟨ao', cap', rfl, hr⟩ := row_of_own how hby
    exact h ao' cap' w' how hr ((Below.refl _ _).grown hgr hbase (by intro k hk; exact (hlt k hk).1))

theorem hide {p : Prop} (h : p) : Hid p := h

theorem getD_byte {zs : List Int} (h : Byt zs) (j : Nat) : 0 ≤ zs.getD j 0 ∧ zs.getD j 0 ≤ 255 := by
  by_cases hj : j < zs.length
  · rw [List.getD_eq_getElem?_getD, List.getElem?_eq_getElem hj]; exact h _ (List.getElem_mem hj)
  · rw [List.getD_eq_getElem?_getD, List.getElem?_eq_none (by omega)]; simp

theorem Row.at {w : World} {ao : Option Addr} {len cap : Nat} {zs : List Int} (h : Row w ao len cap zs) (hp : 0 < len) : ∃ b off, ao = some ⟨b, off, none⟩ ∧ ∀ i, i < len → w.cell? ⟨b, off + i, none⟩ = some (.int .u8 (zs.getD i 0)) := by
  rcases h.cell with h0 | h0
  · omega
  · exact h0

theorem Byt.at {zs : List Int} (h : Byt zs) (j : Nat) : 0 ≤ zs.getD j 0 ∧ zs.getD j 0 ≤ 255 := getD_byte h j

theorem row_nil (w : World) : Row w none 0 0 [] := ⟨rfl, Nat.le_refl _, Nat.zero_le _, fun _ => rfl, (by intro z hz; cases hz), .inl rfl⟩

/-- An argument, as it is opened. -/
theorem row_open {w : World} {x : Addr} {len cap : Nat} {zs : List Int} (hl : len ≤ cap) (hm : cap ≤ maxLen) (hz : zs.length = cap) (hcell : ∀ i, i < zs.length → w.cell? (x.add i) = some (.int .u8 (zs.getD i 0))) (hwz : ∀ n ∈ zs, (Lit.int .u8 n).wf = true) : Row w (some x) len cap (zs.take len) where
  size := by simp; omega
  le := hl
  top := hm
  nil := by intro h; cases h
  byte := by
    intro z h
    have := hwz z (List.mem_of_mem_take h)
    simp [Lit.wf, IntKind.min, IntKind.max, IntKind.bits, IntKind.signed] at this
    omega
  cell := by
    by_cases h0 : len = 0
    · exact .inl h0
    · have hc0 := hcell 0 (by omega)
      obtain ⟨b, off, spot⟩ := x
      have hspot : spot = none := by simpa [Addr.add] using World.cell?_spot hc0
      subst hspot
      refine .inr ⟨b, off, rfl, fun i hi => ?_⟩
      have := hcell i (by omega)
      have e : (⟨b, off, none⟩ : Addr).add i = ⟨b, off + i, none⟩ := by by_cases h : i = 0 <;> simp [Addr.add, h]
      rw [e] at this
      rw [this]
      simp [List.getD_eq_getElem?_getD, hi]

/-- Numbers as the cells of a slice of ints. -/
def cI (zs : List Int) : List Value := zs.map (Value.int .i64)

/-- Each number is an int. -/
def I64s (zs : List Int) : Prop := ∀ z ∈ zs, -9223372036854775808 ≤ z ∧ z ≤ 9223372036854775807

theorem cI_length (zs : List Int) : (cI zs).length = zs.length := by simp [cI]
theorem cI_append (a b : List Int) : cI (a ++ b) = cI a ++ cI b := by simp [cI]
theorem cI_get (zs : List Int) (j : Nat) (h : j < zs.length) : (cI zs)[j]? = some (.int .i64 (zs.getD j 0)) := by
  simp [cI, List.getElem?_map, List.getElem?_eq_getElem h]

/-- A slice of ints that can be read: zs are its elements. -/
structure IRow (w : World) (ao : Option Addr) (len cap : Nat) (zs : List Int) : Prop where
  size : zs.length = len
  le : len ≤ cap
  top : cap ≤ maxLen
  nil : ao = none → cap = 0
  byte : I64s zs
  cell : len = 0 ∨ ∃ b off, ao = some ⟨b, off, none⟩ ∧ ∀ i, i < len → w.cell? ⟨b, off + i, none⟩ = some (.int .i64 (zs.getD i 0))

theorem IRow.below {w w' : World} {ao : Option Addr} {len cap : Nat} {zs : List Int} (h : IRow w ao len cap zs) (hb : Below w.heap.size w w') : IRow w' ao len cap zs where
  size := h.size
  le := h.le
  top := h.top
  nil := h.nil
  byte := h.byte
  cell := by
    rcases h.cell with h0 | ⟨b, off, ha, hc⟩
    · exact .inl h0
    · exact .inr ⟨b, off, ha, fun i hi => by rw [hb.cell (block_lt (hc i hi))]; exact hc i hi⟩

/-- A row that the call owns can be read. -/
theorem irow_of_own {w : World} {base : Nat} {v : Value} {n : Nat} {zs : List Int} (h : w.ownsRow base 3 1 v n (cI zs)) (hz : I64s zs) :
    ∃ ao cap, v = .slice ao n cap ∧ IRow w ao n cap zs := by
  have hl : zs.length = n := by have := h.1; simpa [cI] using this
  rcases h.2 with ⟨rfl, rfl⟩ | ⟨g, cap, cur, rfl, hg, hh, h1, h2, h3, h4⟩
  · exact ⟨none, 0, rfl, hl, Nat.le_refl _, Nat.zero_le _, fun _ => rfl, hz, .inl rfl⟩
  · refine ⟨_, cap, rfl, hl, h1, h2, (by intro h; cases h), hz, .inr ⟨g, 0, rfl, fun i hi => ?_⟩⟩
    have := h.cellAt i (by omega)
    rw [Nat.zero_add, this, cI_get zs i (by omega)]

theorem Tryz.infoI64 : (Tryz.prog.info? 3).map (fun i => (i.zero, i.size, i.bytes)) = some (some (.int .i64 0), 1, 8) := by kernel_rfl

theorem IRow.news {w : World} {ao : Option Addr} {len cap : Nat} {zs : List Int} (h : IRow w ao len cap zs) (ad : Addr) (ha : ao = some ad) (j : Nat) (u : Value) (hu : (cI zs)[j]? = some u) : w.cell? (ad.add j) = some u := by
  have hj : j < zs.length := by
    by_cases hlt : j < zs.length
    · exact hlt
    · rw [List.getElem?_eq_none (by rw [cI_length]; omega)] at hu
      cases hu
  rw [cI_get _ _ hj] at hu
  rcases h.cell with h0 | ⟨b, off, hb, hc⟩
  · have := h.size; omega
  · rw [ha] at hb
    cases hb
    rw [← hu]
    rw [add_none]; exact hc j (by have := h.size; omega)

theorem IRow.none_zero {w : World} {ao : Option Addr} {len cap : Nat} {zs : List Int} (h : IRow w ao len cap zs) (ha : ao = none) : len = 0 ∧ cap = 0 := by
  have := h.nil ha; have := h.le; omega

theorem cI_oneCell (zs : List Int) (u : Value) (h : u ∈ cI zs) : u.oneCell' = true := ints_oneCell .i64 zs u h

theorem i64s_append {a b : List Int} (ha : I64s a) (hb : I64s b) : I64s (a ++ b) := by
  intro z hz
  rcases List.mem_append.1 hz with h | h
  · exact ha z h
  · exact hb z h

/-- 'append' of whatever ints can be read to ints that the call owns. -/
theorem wpList_append_irow {P : Program} (w : World) {ops : Array Oper} {rest : List Oper} {o : Oper} {a : Act} {Q : Exit → Act → World → Prop} (hgd : o.guard = none)
    (s x : Operand) (t : TypeId) (ho : o.op = Op.call { callee := Callee.builtin Builtin.append, args := #[s, x], argTypes := #[t, t] }) (base : Nat)
    (ht : P.underlying t = some (TypeDesc.slice 3)) (hinfo : (P.info? 3).map (fun i => (i.zero, i.size, i.bytes)) = some (some (.int .i64 0), 1, 8))
    (v : Value) (n : Nat) (xs : List Int) (hs : a.eval s = v) (hown : w.ownsRow base 3 1 v n (cI xs)) (hxs : I64s xs) (ao : Option Addr) (m c : Nat) (zs : List Int)
    (hx : a.eval x = .slice ao m c) (hrow : IRow w ao m c zs) (hsm : (n + m) * 8 ≤ 140737488355328) (hbase : base ≤ w.heap.size)
    (h : ∀ ao' cap' w', w'.ownsRow base 3 1 (.slice ao' (n + m) cap') (n + m) (cI (xs ++ zs)) → IRow w' ao' (n + m) cap' (xs ++ zs) → Below base w w' → wpList P ops Q rest (a.put o.dst (.slice ao' (n + m) cap')) w') :
    wpList P ops Q (o :: rest) a w := by
  obtain ⟨i0, hi, hz0, hz1, hz2⟩ := info_parts hinfo
  have hby := i64s_append hxs hrow.byte
  rcases ao with _ | ad
  · obtain ⟨rfl, rfl⟩ := hrow.none_zero rfl
    have hz : zs = [] := List.eq_nil_of_length_eq_zero hrow.size
    subst hz
    refine wpList_append_own_none hgd s x t ho base 3 i0 1 ht hi v n (cI xs) hs hown hx ?_
    obtain ⟨ao', cap', rfl, hr⟩ := irow_of_own hown hxs
    have := h ao' cap' w (by simpa using hown) (by simpa using hr) (Below.refl _ _)
    simpa using this
  · refine wpList_append_own w hgd s x t ho base 3 i0 (.int .i64 0) 1 8 ht hi hz0 hz1 hz2 rfl (by decide) v n (cI xs) hs hown ad m c (cI zs) hx (by rw [cI_length, hrow.size]; omega) (fun j u hu => hrow.news ad rfl j u hu) (cI_oneCell zs) (by unfold maxLen; omega) (by omega) hbase ?_
    intro v' w' how hgr _
    rw [← cI_append] at how
    have hlt := hown.lt
    obtain ⟨ao', cap', rfl, hr⟩ := irow_of_own how hby
    exact h ao' cap' w' how hr ((Below.refl _ _).grown hgr hbase (by intro k hk; exact (hlt k hk).1))

/-- The same as one step of a region that draws its order. -/
theorem step_append_irow {P : Program} {ops : Array Oper} {o : Oper} {a : Act} {w : World} {K : Act → World → Prop} {Q : Exit → Act → World → Prop} {E : Prop} (hgd : o.guard = none)
    (s x : Operand) (t : TypeId) (ho : o.op = Op.call { callee := Callee.builtin Builtin.append, args := #[s, x], argTypes := #[t, t] }) (base : Nat)
    (ht : P.underlying t = some (TypeDesc.slice 3)) (hinfo : (P.info? 3).map (fun i => (i.zero, i.size, i.bytes)) = some (some (.int .i64 0), 1, 8))
    (v : Value) (n : Nat) (xs : List Int) (hs : a.eval s = v) (hown : w.ownsRow base 3 1 v n (cI xs)) (hxs : I64s xs) (ao : Option Addr) (m c : Nat) (zs : List Int)
    (hx : a.eval x = .slice ao m c) (hrow : IRow w ao m c zs) (hsm : (n + m) * 8 ≤ 140737488355328) (hbase : base ≤ w.heap.size)
    (h : ∀ ao' cap' w', w'.ownsRow base 3 1 (.slice ao' (n + m) cap') (n + m) (cI (xs ++ zs)) → IRow w' ao' (n + m) cap' (xs ++ zs) → Below base w w' → K (a.put o.dst (.slice ao' (n + m) cap')) w') :
    if Region.wanted o (yielded ops a.tmps) = true then Oper.wp P o a w K Q else E := by
  have hw : Region.wanted o (yielded ops a.tmps) = true := by simp [Region.wanted, hgd]
  rw [if_pos hw]
  obtain ⟨i0, hi, hz0, hz1, hz2⟩ := info_parts hinfo
  have hby := i64s_append hxs hrow.byte
  rcases ao with _ | ad
  · obtain ⟨rfl, rfl⟩ := hrow.none_zero rfl
    have hz : zs = [] := List.eq_nil_of_length_eq_zero hrow.size
    subst hz
    obtain ⟨ao', cap', rfl, hr⟩ := irow_of_own hown hxs
    have hrun := run_append_owned_none (P := P) w base t o.type 3 i0 1 ht hi (.slice ao' n cap') n (cI xs) hown
    have hk : K (a.put o.dst (.slice ao' n cap')) w := by simpa using h ao' cap' w (by simpa using hown) (by simpa using hr) (Below.refl _ _)
    unfold Oper.wp
    simp [execOp, ho, resolve, invoke, builtin, hs, hx, hrun, Result.andThen]
    exact hk
  · refine wp_append_own w s x t ho base 3 i0 (.int .i64 0) 1 8 ht hi hz0 hz1 hz2 rfl (by decide) v n (cI xs) hs hown ad m c (cI zs) hx (by rw [cI_length, hrow.size]; omega) (fun j u hu => hrow.news ad rfl j u hu) (cI_oneCell zs) (by unfold maxLen; omega) (by omega) hbase ?_
    intro v' w' how hgr _
    rw [← cI_append] at how
    have hlt := hown.lt
    obtain ⟨ao', cap', rfl, hr⟩ := irow_of_own how hby
    exact h ao' cap' w' how hr ((Below.refl _ _).grown hgr hbase (by intro k hk; exact (hlt k hk).1))

theorem getD_i64 {zs : List Int} (h : I64s zs) (j : Nat) : -9223372036854775808 ≤ zs.getD j 0 ∧ zs.getD j 0 ≤ 9223372036854775807 := by
  by_cases hj : j < zs.length
  · rw [List.getD_eq_getElem?_getD, List.getElem?_eq_getElem hj]; exact h _ (List.getElem_mem hj)
  · rw [List.getD_eq_getElem?_getD, List.getElem?_eq_none (by omega)]; simp

theorem IRow.at {w : World} {ao : Option Addr} {len cap : Nat} {zs : List Int} (h : IRow w ao len cap zs) (hp : 0 < len) : ∃ b off, ao = some ⟨b, off, none⟩ ∧ ∀ i, i < len → w.cell? ⟨b, off + i, none⟩ = some (.int .i64 (zs.getD i 0)) := by
  rcases h.cell with h0 | h0
  · omega
  · exact h0

theorem I64s.at {zs : List Int} (h : I64s zs) (j : Nat) : -9223372036854775808 ≤ zs.getD j 0 ∧ zs.getD j 0 ≤ 9223372036854775807 := getD_i64 h j

theorem irow_nil (w : World) : IRow w none 0 0 [] := ⟨rfl, Nat.le_refl _, Nat.zero_le _, fun _ => rfl, (by intro z hz; cases hz), .inl rfl⟩

/-- An argument, as it is opened. -/
theorem irow_open {w : World} {x : Addr} {len cap : Nat} {zs : List Int} (hl : len ≤ cap) (hm : cap ≤ maxLen) (hz : zs.length = cap) (hcell : ∀ i, i < zs.length → w.cell? (x.add i) = some (.int .i64 (zs.getD i 0))) (hwz : ∀ n ∈ zs, (Lit.int .i64 n).wf = true) : IRow w (some x) len cap (zs.take len) where
  size := by simp; omega
  le := hl
  top := hm
  nil := by intro h; cases h
  byte := by
    intro z h
    have := hwz z (List.mem_of_mem_take h)
    simp [Lit.wf, IntKind.min, IntKind.max, IntKind.bits, IntKind.signed] at this
    omega
  cell := by
    by_cases h0 : len = 0
    · exact .inl h0
    · have hc0 := hcell 0 (by omega)
      obtain ⟨b, off, spot⟩ := x
      have hspot : spot = none := by simpa [Addr.add] using World.cell?_spot hc0
      subst hspot
      refine .inr ⟨b, off, rfl, fun i hi => ?_⟩
      have := hcell i (by omega)
      have e : (⟨b, off, none⟩ : Addr).add i = ⟨b, off + i, none⟩ := by by_cases h : i = 0 <;> simp [Addr.add, h]
      rw [e] at this
      rw [this]
      simp [List.getD_eq_getElem?_getD, hi]

theorem Tryz.infoStr : (Tryz.prog.info? 9).map (fun i => (i.zero, i.size, i.bytes)) = some (some (.string ⟨#[]⟩), 1, 16) := by kernel_rfl

theorem own_shape {w : World} {base : Nat} {e : TypeId} {v : Value} {n : Nat} {xs : List Value} (h : w.ownsRow base e 1 v n xs) : ∃ ao cap, v = .slice ao n cap := by
  rcases h.2 with ⟨rfl, rfl⟩ | ⟨g, cap, cur, rfl, _⟩
  · exact ⟨_, _, rfl⟩
  · exact ⟨_, _, rfl⟩

theorem irow_one (w : World) (x : Int) (h : -9223372036854775808 ≤ x ∧ x ≤ 9223372036854775807) : IRow (w.alloc (.cells #[.int .i64 x] 3)) (some ⟨w.heap.size, 0, none⟩) 1 1 [x] where
  size := rfl
  le := Nat.le_refl _
  top := by unfold maxLen; omega
  nil := by intro h; cases h
  byte := by intro z hz; simp at hz; subst hz; exact h
  cell := .inr ⟨w.heap.size, 0, rfl, fun i hi => by
    obtain rfl : i = 0 := by omega
    simp⟩

theorem take_succ_getD (l : List Int) (k : Nat) (h : k < l.length) : l.take (k + 1) = l.take k ++ [l.getD k 0] := by
  rw [List.take_succ_eq_append_getElem h]; simp [h]

theorem eq_of_takes {a b : List Int} (hl : a.length = b.length) (h : a.take a.length = b.take a.length) : a = b := by
  rw [List.take_length, hl, List.take_length] at h; exact h

theorem ne_at {a b : List Int} (k : Nat) (h : ¬ a.getD k 0 = b.getD k 0) : ¬ a = b := by
  intro e; exact h (by rw [e])

theorem ret_bool {a b : Bool} (h : a = b) : Ending.returned (.bool a) = .returned (.bool b) := by rw [h]
theorem ret_int {k : IntKind} {a b : Int} (h : a = b) : Ending.returned (.int k a) = .returned (.int k b) := by rw [h]

/-- A copy on its way: k of n bytes are laid. -/
def half (zs : List Int) (n k : Nat) : List Value := cB (zs.take k) ++ List.replicate (n - k) (.int .u8 0)

theorem half_length (zs : List Int) (n k : Nat) (h : zs.length = n) (hk : k ≤ n) : (half zs n k).length = n := by
  simp [half, cB_length]; omega

theorem half_set (zs : List Int) (n k : Nat) (h : zs.length = n) (hk : k < n) : (half zs n k).set k (.int .u8 (zs.getD k 0)) = half zs n (k + 1) := by
  have hl : (cB (zs.take k)).length = k := by simp [cB_length]; omega
  unfold half
  rw [List.set_append_right _ _ (by omega), hl, Nat.sub_self, take_succ_getD _ _ (by omega), cB_append]
  obtain ⟨m, hm⟩ : ∃ m, n - k = m + 1 := ⟨n - k - 1, by omega⟩
  have hm' : n - (k + 1) = m := by omega
  rw [hm, hm', List.replicate_succ, List.set_cons_zero]
  simp [cB]

theorem half_all (zs : List Int) (n : Nat) (h : zs.length = n) : half zs n n = cB zs := by
  simp [half, ← h]

theorem half_none (zs : List Int) (n : Nat) : half zs n 0 = List.replicate n (.int .u8 0) := by
  simp [half, cB]

/-- The marks that are put into n bytes, from k on. -/
def marks (k : Int) (n : Nat) : List Int := (List.range n).map fun i : Nat => IntKind.u8.wrap (k + i)

theorem marks_length (k : Int) (n : Nat) : (marks k n).length = n := by simp [marks]
theorem marks_get (k : Int) (n i : Nat) (h : i < n) : (marks k n).getD i 0 = IntKind.u8.wrap (k + i) := by
  simp [marks, List.getD_eq_getElem?_getD, List.getElem?_map, List.getElem?_range h]
theorem marks_succ (k : Int) (n : Nat) : marks k (n + 1) = marks k n ++ [IntKind.u8.wrap (k + n)] := by
  simp [marks, List.range_succ]
theorem wrap_byte (x : Int) : 0 ≤ IntKind.u8.wrap x ∧ IntKind.u8.wrap x ≤ 255 := by
  simp [IntKind.wrap, IntKind.bits, IntKind.signed]; omega
theorem marks_byte (k : Int) (n : Nat) : Byt (marks k n) := by
  intro z hz
  simp only [marks, List.mem_map] at hz
  obtain ⟨i, _, rfl⟩ := hz
  exact wrap_byte _

/-- Marks on their way: j of them are put, the rest is as it was. -/
def marked (k : Int) (zs : List Int) (j : Nat) : List Int := marks k j ++ zs.drop j

theorem marked_set (k : Int) (zs : List Int) (j : Nat) (h : j < zs.length) : (cB (marked k zs j)).set j (.int .u8 (IntKind.u8.wrap (k + j))) = cB (marked k zs (j + 1)) := by
  have hl : (cB (marks k j)).length = j := by rw [cB_length, marks_length]
  unfold marked
  rw [cB_append, List.set_append_right _ _ (by omega), hl, Nat.sub_self, marks_succ, cB_append, cB_append]
  rw [List.drop_eq_getElem_cons h]
  simp only [cB, List.map_cons, List.set_cons_zero, List.map_nil, List.append_assoc, List.cons_append, List.nil_append]

theorem marked_length (k : Int) (zs : List Int) (j : Nat) (h : j ≤ zs.length) : (marked k zs j).length = zs.length := by
  simp [marked, marks_length]; omega

theorem grown_setCell {w0 w : World} {g : Nat} (h : w0.grownBy w (some g)) (j : Nat) (u : Value) : w0.grownBy (w.setCell ⟨g, j, none⟩ u) (some g) where
  os := h.os
  tape := h.tape
  output := h.output
  size := by have := h.size; simpa using this
  block := fun k hk hne => by
    rw [Below.heap_setCell _ _ _ _ (by intro e; exact hne (by rw [e]))]
    exact h.block k hk hne

/-- What the call owns can be read, its value written out. -/
theorem row_own {w : World} {base : Nat} {ao : Option Addr} {n cap : Nat} {zs : List Int} (h : w.ownsRow base 5 1 (.slice ao n cap) n (cB zs)) (hz : Byt zs) : Row w ao n cap zs := by
  obtain ⟨ao', cap', e, hr⟩ := row_of_own h hz
  cases e
  exact hr

/-- A younger row stays its owner's while an elder one is written. -/
theorem own_above {w w' : World} {base : Nat} {e : TypeId} {v : Value} {n : Nat} {xs : List Value} {row : Option Nat} (h : w.ownsRow base e 1 v n xs) (hg : w.grownBy w' row) (hr : ∀ k, row = some k → k < base) : w'.ownsRow base e 1 v n xs := by
  refine h.kept hg ?_
  cases hv : v.ownBlock with
  | none => exact .inl rfl
  | some k =>
    refine .inr ?_
    intro e
    have := hr k e.symm
    have := (h.lt k hv).1
    omega

theorem below_grown {B : Nat} {a w w' : World} {row : Option Nat} (h : Below B a w) (hg : w.grownBy w' row) (hB : B ≤ w.heap.size) (hr : ∀ k, row = some k → B ≤ k) : Below B a w' := h.grown hg hB hr

/-- A copy on its way: k of n bytes are laid. -/
def halfI (zs : List Int) (n k : Nat) : List Value := cI (zs.take k) ++ List.replicate (n - k) (.int .i64 0)

theorem halfI_length (zs : List Int) (n k : Nat) (h : zs.length = n) (hk : k ≤ n) : (halfI zs n k).length = n := by
  simp [halfI, cI_length]; omega

theorem halfI_set (zs : List Int) (n k : Nat) (h : zs.length = n) (hk : k < n) : (halfI zs n k).set k (.int .i64 (zs.getD k 0)) = halfI zs n (k + 1) := by
  have hl : (cI (zs.take k)).length = k := by simp [cI_length]; omega
  unfold halfI
  rw [List.set_append_right _ _ (by omega), hl, Nat.sub_self, take_succ_getD _ _ (by omega), cI_append]
  obtain ⟨m, hm⟩ : ∃ m, n - k = m + 1 := ⟨n - k - 1, by omega⟩
  have hm' : n - (k + 1) = m := by omega
  rw [hm, hm', List.replicate_succ, List.set_cons_zero]
  simp [cI]

theorem halfI_all (zs : List Int) (n : Nat) (h : zs.length = n) : halfI zs n n = cI zs := by
  simp [halfI, ← h]

theorem halfI_none (zs : List Int) (n : Nat) : halfI zs n 0 = List.replicate n (.int .i64 0) := by
  simp [halfI, cI]

/-- The marksI that are put into n bytes, from k on. -/
def marksI (k : Int) (n : Nat) : List Int := (List.range n).map fun i : Nat => (k + i)

theorem marksI_length (k : Int) (n : Nat) : (marksI k n).length = n := by simp [marksI]
theorem marksI_get (k : Int) (n i : Nat) (h : i < n) : (marksI k n).getD i 0 = (k + i) := by
  simp [marksI, List.getD_eq_getElem?_getD, List.getElem?_map, List.getElem?_range h]
theorem marksI_succ (k : Int) (n : Nat) : marksI k (n + 1) = marksI k n ++ [(k + n)] := by
  simp [marksI, List.range_succ]
theorem marksI_byte (k : Int) (n : Nat) (h0 : 0 ≤ k) (h1 : k ≤ 1099511627776) (hn : n ≤ 16777216) : I64s (marksI k n) := by
  intro z hz
  simp only [marksI, List.mem_map, List.mem_range] at hz
  obtain ⟨i, hi, rfl⟩ := hz
  omega

/-- Marks on their way: j of them are put, the rest is as it was. -/
def markedI (k : Int) (zs : List Int) (j : Nat) : List Int := marksI k j ++ zs.drop j

theorem markedI_set (k : Int) (zs : List Int) (j : Nat) (h : j < zs.length) : (cI (markedI k zs j)).set j (.int .i64 ((k + j))) = cI (markedI k zs (j + 1)) := by
  have hl : (cI (marksI k j)).length = j := by rw [cI_length, marksI_length]
  unfold markedI
  rw [cI_append, List.set_append_right _ _ (by omega), hl, Nat.sub_self, marksI_succ, cI_append, cI_append]
  rw [List.drop_eq_getElem_cons h]
  simp only [cI, List.map_cons, List.set_cons_zero, List.map_nil, List.append_assoc, List.cons_append, List.nil_append]

theorem markedI_length (k : Int) (zs : List Int) (j : Nat) (h : j ≤ zs.length) : (markedI k zs j).length = zs.length := by
  simp [markedI, marksI_length]; omega

/-- What the call owns can be read, its value written out. -/
theorem irow_own {w : World} {base : Nat} {ao : Option Addr} {n cap : Nat} {zs : List Int} (h : w.ownsRow base 3 1 (.slice ao n cap) n (cI zs)) (hz : I64s zs) : IRow w ao n cap zs := by
  obtain ⟨ao', cap', e, hr⟩ := irow_of_own h hz
  cases e
  exact hr



/-- A piece: where it lies, its length, its capacity, its bytes. -/
structure Piece where
  ao : Option Addr
  len : Nat
  cap : Nat
  zs : List Int

def noPiece : Piece := ⟨none, 0, 0, []⟩

/-- How many bytes the first k pieces have. -/
def tot (ps : List Piece) (k : Nat) : Nat := ((ps.take k).map Piece.len).sum
/-- The bytes of the first k pieces. -/
def flat (ps : List Piece) (k : Nat) : List Int := ((ps.take k).map Piece.zs).flatten

theorem take_snoc (ps : List Piece) (k : Nat) (h : k < ps.length) : ps.take (k + 1) = ps.take k ++ [ps.getD k noPiece] := by
  rw [List.take_succ_eq_append_getElem h]; simp [h]
theorem tot_succ (ps : List Piece) (k : Nat) (h : k < ps.length) : tot ps (k + 1) = tot ps k + (ps.getD k noPiece).len := by
  unfold tot; rw [take_snoc ps k h]; simp
theorem flat_succ (ps : List Piece) (k : Nat) (h : k < ps.length) : flat ps (k + 1) = flat ps k ++ (ps.getD k noPiece).zs := by
  unfold flat; rw [take_snoc ps k h]; simp
theorem tot_le (ps : List Piece) (k : Nat) : tot ps k ≤ tot ps ps.length := by
  unfold tot
  rw [List.take_length]
  have := List.take_append_drop k ps
  conv => rhs; rw [← this, List.map_append, List.sum_append]
  omega

/-- A list of pieces that lie in memory. -/
structure Pieces (w : World) (po : Option Addr) (m c : Nat) (ps : List Piece) : Prop where
  size : ps.length = m
  small : m ≤ 1000
  cell : m = 0 ∨ ∃ b off, po = some ⟨b, off, none⟩ ∧ ∀ i, i < m → w.cell? ⟨b, off + i, none⟩ = some (.slice (ps.getD i noPiece).ao (ps.getD i noPiece).len (ps.getD i noPiece).cap)
  row : ∀ i, i < m → Row w (ps.getD i noPiece).ao (ps.getD i noPiece).len (ps.getD i noPiece).cap (ps.getD i noPiece).zs

set_option maxRecDepth 100000 in
set_option maxHeartbeats 1000000 in
theorem pieces_any (a1 : Option Addr) (l1 c1 : Nat) (z1 : List Int) (po : Option Addr) (m c : Nat) (ps : List Piece) (w : World) (h1 : Row w a1 l1 c1 z1) (hp : Pieces w po m c ps) (hs : l1 + tot ps m ≤ 16777216) :
    Calls Tryz.prog 21 #[.slice a1 l1 c1, .slice po m c] w fun e w' => e = .returned (.slice (some ⟨w.heap.size, 0, none⟩) (l1 + tot ps m) (l1 + tot ps m)) ∧
      w'.ownsRow w.heap.size 5 1 (.slice (some ⟨w.heap.size, 0, none⟩) (l1 + tot ps m) (l1 + tot ps m)) (l1 + tot ps m) (cB (z1 ++ flat ps m)) ∧ Below w.heap.size w w' := by
  obtain ⟨i0, hi, hz0, hz1, hz2⟩ := info_parts Tryz.infoU8
  have s1 := h1.size
  have hm := hp.small
  have hps := hp.size
  have htm : ∀ k, tot ps k ≤ tot ps m := fun k => by rw [← hps]; exact tot_le ps k
  have HTM : Hid (∀ k, tot ps k ≤ tot ps m) := htm
  clear htm
  go_enter Tryz.func21, Tryz.ntmps21
  go_wp2
  go_loop [5, 15] (fun s i => ∃ k : Nat, k ≤ m ∧ i = .int .i64 k ∧ s = .int .i64 ((l1 + tot ps k : Nat) : Int)) (fun _ i => m - (intOf i).toNat)
  case atStart => exact ⟨0, Nat.zero_le _, rfl, by simp [tot]⟩
  case round =>
    obtain ⟨k, hk, rfl, rfl⟩ := hrel
    by_cases hlt : k < m
    · rcases hp.cell with h0 | ⟨b, off, rfl, hc⟩
      · omega
      have cx := hc k hlt
      have ht := tot_succ ps k (by omega)
      have h2 := HTM.out (k + 1)
      have HT : Hid (tot ps (k + 1) = tot ps k + (ps.getD k noPiece).len) := ht
      rw [ht] at h2
      generalize hx : ps.getD k noPiece = p at cx h2
      have HX : Hid (ps.getD k noPiece = p) := hx
      clear hx ht hc
      go_wp2
      go_round
      case rel => exact ⟨k + 1, by omega, by go_num, by rw [HT.out, HX.out]; go_num⟩
      case measure => simp [intOf]; omega
    · have hk' : k = m := by omega
      subst hk'
      go_wp2_with (at_make; refine wpList_make_own _ rfl _ _ 22 rfl w.heap.size 5 i0 (.int .u8 0) 1 Tryz.underlying22 hi hz0 hz1 .i64 .i64 _ (l1 + tot ps k) rfl rfl rfl ?c1 ?c2 ?c3 ?_)
      case c1 => omega
      case c2 => unfold maxLen; omega
      intro w1 how1 hgr1
      have hb1 : Below w.heap.size w w1 := (Below.refl _ _).grown hgr1 (Nat.le_refl _) (by intro k hk; cases hk)
      have hr1 := h1.below hb1
      clear hgr1
      go_wp2_with (at_builtin; refine wpList_append_fits_any _ rfl _ _ 22 rfl w.heap.size 5 i0 1 Tryz.underlying22 hi hz1 w.heap.size 0 (l1 + tot ps k) [] rfl how1 a1 l1 c1 (cB z1) rfl ?d1 ?d2 ?d3 ?d4 ?d5 ?_)
      case d1 => rw [cB_length]; omega
      case d2 => exact hr1.none_zero
      case d3 => exact fun ad ha j u hu => hr1.news ad ha j u hu
      case d4 => exact cB_oneCell z1
      case d5 => omega
      intro w2 how2 hgr2
      have hb2 : Below w.heap.size w w2 := hb1.grown hgr2 (by have := hb1.size; omega) (by intro k hk; cases hk; exact Nat.le_refl _)
      clear how1 hgr2 hb1 hr1
      go_wp2
      go_loopw [8, 30] (fun v i wr => ∃ j : Nat, j ≤ k ∧ i = .int .i64 j ∧ v = .slice (some ⟨w.heap.size, 0, none⟩) (l1 + tot ps j) (l1 + tot ps k) ∧ wr.ownsRow w.heap.size 5 1 (.slice (some ⟨w.heap.size, 0, none⟩) (l1 + tot ps j) (l1 + tot ps k)) (l1 + tot ps j) (cB (z1 ++ flat ps j)) ∧ Below w.heap.size w wr) (fun _ i _ => k - (intOf i).toNat)
      case atStart => exact ⟨0, Nat.zero_le _, rfl, by simp [tot], by simpa [tot, flat] using how2, hb2⟩
      case round =>
        obtain ⟨j, hj, rfl, rfl, how, hb⟩ := hrel
        by_cases hlj : j < k
        · rcases hp.cell with h0 | ⟨b, off, rfl, hc⟩
          · omega
          have cx : wr.cell? ⟨b, off + j, none⟩ = some (.slice (ps.getD j noPiece).ao (ps.getD j noPiece).len (ps.getD j noPiece).cap) := by rw [hb.cell (block_lt (hc j hlj))]; exact hc j hlj
          have rx := (hp.row j hlj).below hb
          have ht := tot_succ ps j (by omega)
          have hf := flat_succ ps j (by omega)
          have h2 := HTM.out (j + 1)
          rw [ht] at h2
          generalize hx : ps.getD j noPiece = p at cx h2 rx ht hf
          have HT : Hid (tot ps (j + 1) = tot ps j + p.len) := ht
          have HF : Hid (flat ps (j + 1) = flat ps j ++ p.zs) := hf
          clear hx ht hc hf
          go_wp2_with (at_builtin; refine wpList_append_fits_any _ rfl _ _ 22 rfl w.heap.size 5 i0 1 Tryz.underlying22 hi hz1 w.heap.size (l1 + tot ps j) (l1 + tot ps k) _ rfl how p.ao p.len p.cap (cB p.zs) rfl ?e1 ?e2 ?e3 ?e4 ?e5 ?_)
          case e1 => rw [cB_length, rx.size]; omega
          case e2 => exact rx.none_zero
          case e3 => exact fun ad ha j u hu => rx.news ad ha j u hu
          case e4 => exact cB_oneCell _
          case e5 => omega
          intro w3 how3 hgr3
          have hb3 : Below w.heap.size w w3 := hb.grown hgr3 (by have := hb.size; omega) (by intro k hk; cases hk; exact Nat.le_refl _)
          rw [← cB_append, List.append_assoc, ← HF.out, Nat.add_assoc, ← HT.out] at how3
          clear hgr3 how hb
          go_wp2
          go_roundw
          case rel => exact ⟨j + 1, by omega, by go_num, by rw [HT.out, Nat.add_assoc], how3, hb3⟩
          case measure => simp [intOf]; omega
        · have hj' : j = k := by omega
          subst hj'
          go_wp2
          go_ret
          exact ⟨rfl, how, hb⟩

/-- Pieces that a call lays side by side in a new block. -/
theorem pieces_lit (w : World) (B : Nat) (ps : List Piece) (n : Nat) (e : TypeId) (hB : B = w.heap.size) (hn : ps.length = n) (hs : n ≤ 1000) (hr : ∀ i, i < n → Row w (ps.getD i noPiece).ao (ps.getD i noPiece).len (ps.getD i noPiece).cap (ps.getD i noPiece).zs) :
    Pieces (w.alloc (.cells (ps.map fun p => Value.slice p.ao p.len p.cap).toArray e)) (some ⟨B, 0, none⟩) n n ps where
  size := hn
  small := hs
  cell := .inr ⟨B, 0, rfl, fun i hi => by
    subst hB
    have hi' : i < ps.length := by omega
    rw [Nat.zero_add]
    have : (w.alloc (.cells (ps.map fun p => Value.slice p.ao p.len p.cap).toArray e)).cell? ⟨w.heap.size, i, none⟩ = (ps.map fun p => Value.slice p.ao p.len p.cap).toArray[i]? := by simp
    rw [this]
    simp [hi']⟩
  row := fun i hi => (hr i hi).below ((Below.refl _ _).alloc (Nat.le_refl _) _)

theorem below_one (w : World) (o : Obj) : Below w.heap.size w (w.alloc o) := (Below.refl _ _).alloc (Nat.le_refl _) o

theorem below_two (w : World) (o p : Obj) : Below w.heap.size w ((w.alloc o).alloc p) := (below_one w o).alloc (by simp) p

theorem below_three (w : World) (o p q : Obj) : Below w.heap.size w (((w.alloc o).alloc p).alloc q) := (below_two w o p).alloc (by simp; omega) q

theorem block_last (w : World) (o : Obj) : (w.alloc o).heap[w.heap.size]? = some o := by show (w.heap.push o)[w.heap.size]? = _; simp

theorem kept_one {w w1 : World} {o : Obj} (hb : Below (w.alloc o).heap.size (w.alloc o) w1) : w1.heap[w.heap.size]? = some o := by
  rw [hb.block _ (by simp)]; exact block_last w o

theorem kept_two {w w1 : World} {o p : Obj} (hb : Below ((w.alloc o).alloc p).heap.size ((w.alloc o).alloc p) w1) : w1.heap[w.heap.size]? = some o ∧ w1.heap[w.heap.size + 1]? = some p := by
  refine ⟨?_, ?_⟩
  · have := below_one (w.alloc o) p
    exact kept_one (w := w) (o := o) ((this.trans (hb.mono this.size)))
  · have := kept_one (w := w.alloc o) (o := p) hb; simpa using this

theorem kept_three {w w1 : World} {o p q : Obj} (hb : Below (((w.alloc o).alloc p).alloc q).heap.size (((w.alloc o).alloc p).alloc q) w1) : w1.heap[w.heap.size]? = some o ∧ w1.heap[w.heap.size + 1]? = some p ∧ w1.heap[w.heap.size + 1 + 1]? = some q := by
  have t := below_one ((w.alloc o).alloc p) q
  have u := kept_two (w := w) (o := o) (p := p) (t.trans (hb.mono t.size))
  refine ⟨u.1, u.2, ?_⟩
  have := kept_one (w := (w.alloc o).alloc p) (o := q) hb; simpa using this

theorem cells4 {w : World} {C : Nat} {t : TypeId} {c0 c1 c2 c3 : Value} (h : w.heap[C]? = some (.cells #[c0, c1, c2, c3] t)) :
    (w.cell? ⟨C, 0, none⟩ = some c0 ∧ w.cell? ⟨C, 1, none⟩ = some c1 ∧ w.cell? ⟨C, 2, none⟩ = some c2 ∧ w.cell? ⟨C, 3, none⟩ = some c3) ∧
    (w.frozen? ⟨C, 0, none⟩ = false ∧ w.frozen? ⟨C, 1, none⟩ = false ∧ w.frozen? ⟨C, 2, none⟩ = false ∧ w.frozen? ⟨C, 3, none⟩ = false) := by
  refine ⟨⟨?_, ?_, ?_, ?_⟩, ?_, ?_, ?_, ?_⟩ <;> simp [World.cell?, World.frozen?, h]

/-- What the call owns stays while an elder block is written. -/
theorem own_set {w : World} {base : Nat} {e : TypeId} {v : Value} {n : Nat} {xs : List Value} (h : w.ownsRow base e 1 v n xs) {g j : Nat} {u : Value} (hg : g < base) : (w.setCell ⟨g, j, none⟩ u).ownsRow base e 1 v n xs :=
  own_above h (grown_setCell (World.grownBy.refl _ _) j u) (by intro k hk; cases hk; exact hg)

theorem below_set {B : Nat} {a w : World} (h : Below B a w) {g : Nat} (hB : B ≤ g) (j : Nat) (u : Value) : Below B a (w.setCell ⟨g, j, none⟩ u) := h.setCell (p := ⟨g, j, none⟩) hB u

theorem grown_below {a b c : World} {row : Option Nat} (h : Below a.heap.size a b) (k : b.grownBy c row) : a.grownBy c row where
  os := k.os.trans h.os
  tape := k.tape.trans h.tape
  output := k.output.trans h.output
  size := Nat.le_trans h.size k.size
  block := fun j hj hne => (k.block j (Nat.lt_of_lt_of_le hj h.size) hne).trans (h.block j hj)

theorem undrew {B n : Nat} {w w' : World} (h : Below B (w.drewN n) w') : Below B w w' := ⟨h.os, h.tape, h.output, h.size, h.block⟩

theorem kept_block {w w' : World} {i : Nat} {o : Obj} (h : w.heap[i]? = some o) (hb : Below w.heap.size w w') : w'.heap[i]? = some o := by
  by_cases hlt : i < w.heap.size
  · rw [hb.block i hlt]; exact h
  · rw [Array.getElem?_eq_none (by omega)] at h; cases h

theorem cells5 {w : World} {C : Nat} {t : TypeId} {c0 c1 c2 c3 c4 : Value} (h : w.heap[C]? = some (.cells #[c0, c1, c2, c3, c4] t)) :
    (w.cell? ⟨C, 0, none⟩ = some c0 ∧ w.cell? ⟨C, 1, none⟩ = some c1 ∧ w.cell? ⟨C, 2, none⟩ = some c2 ∧ w.cell? ⟨C, 3, none⟩ = some c3 ∧ w.cell? ⟨C, 4, none⟩ = some c4) ∧
    (w.frozen? ⟨C, 0, none⟩ = false ∧ w.frozen? ⟨C, 1, none⟩ = false ∧ w.frozen? ⟨C, 2, none⟩ = false ∧ w.frozen? ⟨C, 3, none⟩ = false ∧ w.frozen? ⟨C, 4, none⟩ = false) := by
  refine ⟨⟨?_, ?_, ?_, ?_, ?_⟩, ?_, ?_, ?_, ?_, ?_⟩ <;> simp [World.cell?, World.frozen?, h]

theorem set_block5 {w : World} {b j : Nat} {cur : Array Value} {t : TypeId} (h : w.heap[b]? = some (.cells cur t)) (u : Value) : (w.setCell ⟨b, j, none⟩ u).heap[b]? = some (.cells (cur.setIfInBounds j u) t) := heap_setCell_same w b j cur t u h

theorem kept_set {w : World} {i b j : Nat} {o : Obj} {u : Value} (h : w.heap[i]? = some o) (hne : i ≠ b) : (w.setCell ⟨b, j, none⟩ u).heap[i]? = some o := by rw [Below.heap_setCell _ _ _ _ hne]; exact h

theorem cells2 {w : World} {C : Nat} {t : TypeId} {c0 c1 : Value} (h : w.heap[C]? = some (.cells #[c0, c1] t)) :
    (w.cell? ⟨C, 0, none⟩ = some c0 ∧ w.cell? ⟨C, 1, none⟩ = some c1) ∧ (w.frozen? ⟨C, 0, none⟩ = false ∧ w.frozen? ⟨C, 1, none⟩ = false) := by
  refine ⟨⟨?_, ?_⟩, ?_, ?_⟩ <;> simp [World.cell?, World.frozen?, h]

theorem set_block2 {w : World} {b : Nat} {c0 c1 : Value} {t : TypeId} (h : w.heap[b]? = some (.cells #[c0, c1] t)) (u : Value) : (w.setCell ⟨b, 1, none⟩ u).heap[b]? = some (.cells #[c0, u] t) := by
  have := heap_setCell_same w b 1 #[c0, c1] t u h
  simpa using this

theorem below_grown_in {w w' : World} {rb : Nat} (hg : w.grownBy w' (some rb)) {B : Nat} (h1 : B ≤ rb) (h2 : B ≤ w.heap.size) : Below B w w' := (Below.refl B w).grown hg h2 (by intro k hk; cases hk; exact h1)

theorem grownTr {a b c : World} {row : Option Nat} (h : a.grownBy b row) (k : b.grownBy c row) : a.grownBy c row :=
  ⟨k.os.trans h.os, k.tape.trans h.tape, k.output.trans h.output, Nat.le_trans h.size k.size, fun i hi hn => (k.block i (Nat.lt_of_lt_of_le hi h.size) hn).trans (h.block i hi hn)⟩

theorem grownOf {a b : World} {row : Option Nat} (h : Below a.heap.size a b) : a.grownBy b row := ⟨h.os, h.tape, h.output, h.size, fun k hk _ => h.block k hk⟩

theorem grown_set {w : World} {rb : Nat} (j : Nat) (u : Value) : w.grownBy (w.setCell ⟨rb, j, none⟩ u) (some rb) := grown_setCell (World.grownBy.refl _ _) j u

theorem cells3 {w : World} {C : Nat} {t : TypeId} {c0 c1 c2 : Value} (h : w.heap[C]? = some (.cells #[c0, c1, c2] t)) :
    (w.cell? ⟨C, 0, none⟩ = some c0 ∧ w.cell? ⟨C, 1, none⟩ = some c1 ∧ w.cell? ⟨C, 2, none⟩ = some c2) ∧ (w.frozen? ⟨C, 0, none⟩ = false ∧ w.frozen? ⟨C, 1, none⟩ = false ∧ w.frozen? ⟨C, 2, none⟩ = false) := by
  refine ⟨⟨?_, ?_, ?_⟩, ?_, ?_, ?_⟩ <;> simp [World.cell?, World.frozen?, h]

theorem set_block3a {w : World} {b : Nat} {c0 c1 c2 : Value} {t : TypeId} (h : w.heap[b]? = some (.cells #[c0, c1, c2] t)) (u : Value) : (w.setCell ⟨b, 1, none⟩ u).heap[b]? = some (.cells #[c0, u, c2] t) := by
  have := heap_setCell_same w b 1 #[c0, c1, c2] t u h
  simpa using this

theorem set_block3b {w : World} {b : Nat} {c0 c1 c2 : Value} {t : TypeId} (h : w.heap[b]? = some (.cells #[c0, c1, c2] t)) (u : Value) : (w.setCell ⟨b, 2, none⟩ u).heap[b]? = some (.cells #[c0, c1, u] t) := by
  have := heap_setCell_same w b 2 #[c0, c1, c2] t u h
  simpa using this

theorem empty_row' (w : World) (b : Nat) : Row w (some ⟨b, 0, none⟩) 0 0 [] := ⟨rfl, Nat.le_refl _, Nat.zero_le _, (by intro h; cases h), (fun x hx => by cases hx), .inl rfl⟩

theorem kept_drew {w w1 : World} {i : Nat} {o : Obj} {B : Nat} (h : w.heap[i]? = some o) (hb : Below B w.drew w1) (hB : w.heap.size ≤ B := by simp) : w1.heap[i]? = some o := by
  have hi := (Array.getElem?_eq_some_iff.1 h).1
  rw [hb.block i (by omega)]; exact h

theorem kept_grown {w w' : World} {row : Option Nat} {i : Nat} {o : Obj} (h : w.heap[i]? = some o) (hg : w.grownBy w' row) (hne : ∀ k, row = some k → k ≠ i) : w'.heap[i]? = some o := by
  by_cases hlt : i < w.heap.size
  · rw [hg.block i hlt (fun e => hne i e.symm rfl)]; exact h
  · rw [Array.getElem?_eq_none (by omega)] at h; cases h

theorem below_set4 {B : Nat} {a w : World} (h : Below B a w) {g : Nat} (hB : B ≤ g) (c0 c1 c2 c3 : Value) : Below B a ((((w.setCell ⟨g, 0, none⟩ c0).setCell ⟨g, 1, none⟩ c1).setCell ⟨g, 2, none⟩ c2).setCell ⟨g, 3, none⟩ c3) :=
  below_set (below_set (below_set (below_set h hB 0 c0) hB 1 c1) hB 2 c2) hB 3 c3

theorem own_set4 {w : World} {base : Nat} {e : TypeId} {v : Value} {n : Nat} {xs : List Value} (h : w.ownsRow base e 1 v n xs) {g : Nat} (hg : g < base) (c0 c1 c2 c3 : Value) : ((((w.setCell ⟨g, 0, none⟩ c0).setCell ⟨g, 1, none⟩ c1).setCell ⟨g, 2, none⟩ c2).setCell ⟨g, 3, none⟩ c3).ownsRow base e 1 v n xs :=
  own_set (own_set (own_set (own_set h hg) hg) hg) hg

theorem below_set5 {B : Nat} {a w : World} (h : Below B a w) {g : Nat} (hB : B ≤ g) (c0 c1 c2 c3 c4 : Value) : Below B a (((((w.setCell ⟨g, 0, none⟩ c0).setCell ⟨g, 1, none⟩ c1).setCell ⟨g, 2, none⟩ c2).setCell ⟨g, 3, none⟩ c3).setCell ⟨g, 4, none⟩ c4) :=
  below_set (below_set (below_set (below_set (below_set h hB 0 c0) hB 1 c1) hB 2 c2) hB 3 c3) hB 4 c4

theorem Row.set {w : World} {b off len cap : Nat} {zs : List Int} (h : Row w (some ⟨b, off, none⟩) len cap zs) {P : Nat} (hP : ¬ b = P) (j : Nat) (u : Value) : Row (w.setCell ⟨P, j, none⟩ u) (some ⟨b, off, none⟩) len cap zs where
  size := h.size
  le := h.le
  top := h.top
  nil := h.nil
  byte := h.byte
  cell := by
    rcases h.cell with h0 | ⟨b', off', e, hc⟩
    · exact .inl h0
    · cases e
      refine .inr ⟨b, off, rfl, fun i hi => ?_⟩
      rw [World.cell?_setCell_far w ⟨P, j, none⟩ ⟨b, off + i, none⟩ u (fun e => hP e.symm)]
      exact hc i hi

theorem gr_trans {w W W' : World} (a : Below w.heap.size w W) (b : Below W.heap.size W W') : Below w.heap.size w W' := a.trans (b.mono a.size)

theorem gr_alloc {w W : World} (a : Below w.heap.size w W) (o : Obj) : Below w.heap.size w (W.alloc o) := gr_trans a (below_one W o)

theorem gr_drew {w W : World} (a : Below w.heap.size w W) : Below w.heap.size w W.drew := a.drew

theorem gr_drewN {w W : World} (a : Below w.heap.size w W) (n : Nat) : Below w.heap.size w (W.drewN n) := below_drewN a n

theorem belowGr {a b c : World} {rb : Nat} (h : Below a.heap.size a b) (hg : b.grownBy c (some rb)) (hr : a.heap.size ≤ rb) : Below a.heap.size a c := h.grown hg h.size (by intro k hk; cases hk; exact hr)

/-- The bytes of a text. -/
def strB (S : ByteArray) : List Int := S.data.toList.map fun b => (b.toNat : Int)

/-- Bytes as a text. -/
def byB (zs : List Int) : ByteArray := ⟨(zs.map fun z => UInt8.ofNat z.toNat).toArray⟩

theorem byB_size (zs : List Int) : (byB zs).size = zs.length := by
  show (zs.map fun z => UInt8.ofNat z.toNat).toArray.size = _
  rw [List.size_toArray, List.length_map]

theorem byte_back {z : Int} (h : 0 ≤ z ∧ z ≤ 255) : ((UInt8.ofNat z.toNat).toNat : Int) = z := by
  rw [UInt8.toNat_ofNat']
  omega

theorem strB_byB {zs : List Int} (h : Byt zs) : strB (byB zs) = zs := by
  show ((zs.map fun z => UInt8.ofNat z.toNat).toArray.toList).map (fun b => (b.toNat : Int)) = zs
  rw [List.toList_toArray, List.map_map]
  conv => rhs; rw [← List.map_id zs]
  exact List.map_congr_left (fun z hz => byte_back (h z hz))

theorem conv_row (dst : TypeId) (w : World) (ao : Option Addr) (l c : Nat) (zs : List Int) (h : Row w ao l c zs) (hd : Tryz.prog.underlying dst = some .string) : (convert 22 dst (.slice ao l c)).run Tryz.prog w = .ok (.string (byB zs)) w := by
  have hl : (zs.map fun z => UInt8.ofNat z.toNat).length = l := by rw [List.length_map]; exact h.size
  rcases ao with _ | a
  · obtain ⟨rfl, rfl⟩ := h.none_zero rfl
    have hz : zs = [] := List.eq_nil_of_length_eq_zero h.size
    subst hz
    rw [run_convert_bytes_string w 22 dst 5 none 0 0 Tryz.underlying22 Tryz.underlying5 hd]
    rfl
  · have := run_convert_bytes_back (P := Tryz.prog) w 22 dst 5 a c (zs.map fun z => UInt8.ofNat z.toNat) Tryz.underlying22 Tryz.underlying5 hd (by
      intro j hj
      have hj' : j < zs.length := by simpa using hj
      rw [h.news a rfl j _ (cB_get zs j hj')]
      have hb := getD_byte h.byte j
      have e : (zs.map fun z => UInt8.ofNat z.toNat)[j] = UInt8.ofNat (zs.getD j 0).toNat := by simp [List.getD_eq_getElem?_getD, hj']
      rw [e, byte_back hb])
    rw [hl] at this
    exact this

theorem byB_strB (S : ByteArray) : byB (strB S) = S := by
  have h : (strB S).map (fun z => UInt8.ofNat z.toNat) = S.data.toList := by
    unfold strB
    rw [List.map_map]
    conv => rhs; rw [← List.map_id S.data.toList]
    exact List.map_congr_left (fun b _ => by
      show UInt8.ofNat ((b.toNat : Int)).toNat = b
      rw [Int.toNat_natCast]
      exact UInt8.ofNat_toNat)
  unfold byB
  rw [h]

end Go.Proofs.YtamglfhnhjgdjaaGreatDoor
