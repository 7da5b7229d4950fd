/-
  What a slice of bytes is to the walks of this seat: its elements as a list of numbers, and how that reading stays while a call makes new memory.
  What a slice of ints is to the walks of this seat: its elements as a list of numbers, and how that reading stays while a call makes new memory.
  The law file's own helpers by their contracts: a copy of bytes, whether two slices are the same, the marks that are put and read again.
  The law file's own helpers on ints by their contracts: a copy, whether two slices are the same, the marks that are put and read again.
  A copy of bytes, its value written out.
  putPieces by its contract: it answers new memory that holds the bytes of its first argument and then those of each piece, in order.
  Numbers as bytes: what PutInt answers, as a plain function, and both Go functions by their contracts.
  Parts of bytes: what PutTlv answers, as a plain function, and both Go functions by their contracts.
  A part read back: what GetTlv answers, as a plain function, and both Go functions by their contracts.
  The specification's GetTlv by its contract: it answers what the plain function says.
  The specification's GetTlv by its contract where a part is there whole.
  The specification's GetTlv by its contract where a part with a long length is there whole; and at all arguments.
  Both GetTlv by their contracts, their values written out.
  A number read back of its bytes: what GetInt answers, as a plain function, and both Go functions by their contracts.
  A number comes back of its bytes; what is read has these bytes.
  Parts of bytes, as plain functions: what is put comes back, cut it does not; what is read has these bytes.
  sameBytes by its contract: whether two slices hold the same bytes.
  What is not too great to be drawn of; the head of a slice of bytes.
-/
import Derived.Test.YtjkmagpppfnlpaaGreatDoorRows
import Derived.WalkKit
import Derived.WalkSpells
import Derived.WalkLawsBesides
import Derived.Deep.QuietTactic
import Derived.BigQuiet
import Derived.Laws.AppendOwnNone
import Derived.Deep.RegionWith
import Derived.Deep.RegionLaw
namespace Go.Proofs.YtjkmagpppfnlpaaGreatDoor
open Go.RowKit

/-- Numbers as the cells of a slice of bytes. -/
def cB (zs : List Int) : List Value := zs.map (Value.int .u8)

/-- Each number is a byte. -/
def Byt (zs : List Int) : Prop := ∀ z ∈ zs, 0 ≤ z ∧ z ≤ 255

theorem cB_length (zs : List Int) : (cB zs).length = zs.length := by simp [cB]
theorem cB_append (a b : List Int) : cB (a ++ b) = cB a ++ cB b := by simp [cB]
theorem cB_get (zs : List Int) (j : Nat) (h : j < zs.length) : (cB zs)[j]? = some (.int .u8 (zs.getD j 0)) := by
  simp [cB, List.getElem?_map, List.getElem?_eq_getElem h]

/-- A slice of bytes that can be read: zs are its elements. -/
structure Row (w : World) (ao : Option Addr) (len cap : Nat) (zs : List Int) : Prop where
  size : zs.length = len
  le : len ≤ cap
  top : cap ≤ maxLen
  nil : ao = none → cap = 0
  byte : Byt zs
  cell : len = 0 ∨ ∃ b off, ao = some ⟨b, off, none⟩ ∧ ∀ i, i < len → w.cell? ⟨b, off + i, none⟩ = some (.int .u8 (zs.getD i 0))

theorem block_lt {w : World} {a : Addr} {v : Value} (h : w.cell? a = some v) : a.block < w.heap.size := by
  unfold World.cell? at h
  by_cases hb : a.block < w.heap.size
  · exact hb
  · rw [Array.getElem?_eq_none (by omega)] at h
    simp at h

theorem Row.below {w w' : World} {ao : Option Addr} {len cap : Nat} {zs : List Int} (h : Row w ao len cap zs) (hb : Below w.heap.size w w') : Row w' ao len cap zs where
  size := h.size
  le := h.le
  top := h.top
  nil := h.nil
  byte := h.byte
  cell := by
    rcases h.cell with h0 | ⟨b, off, ha, hc⟩
    · exact .inl h0
    · exact .inr ⟨b, off, ha, fun i hi => by rw [hb.cell (block_lt (hc i hi))]; exact hc i hi⟩

theorem below_drewN {B : Nat} {a w : World} (h : Below B a w) (n : Nat) : Below B a (w.drewN n) :=
  ⟨h.os, h.tape, h.output, h.size, h.block⟩

/-- What the call made stays its own while only younger blocks turn. -/
theorem own_below {w w' : World} {base : Nat} {e : TypeId} {v : Value} {n : Nat} {xs : List Value} (h : w.ownsRow base e 1 v n xs) (hb : Below w.heap.size w w') : w'.ownsRow base e 1 v n xs := by
  obtain ⟨hl, h | ⟨g, cap, cur, rfl, hg, hh, h1, h2, h3, h4⟩⟩ := h
  · exact ⟨hl, .inl h⟩
  · refine ⟨hl, .inr ⟨g, cap, cur, rfl, hg, ?_, h1, h2, h3, h4⟩⟩
    rw [hb.block g ?_]
    · exact hh
    · by_cases hlt : g < w.heap.size
      · exact hlt
      · rw [Array.getElem?_eq_none (by omega)] at hh
        simp at hh

/-- A row that the call owns can be read. -/
theorem row_of_own {w : World} {base : Nat} {v : Value} {n : Nat} {zs : List Int} (h : w.ownsRow base 5 1 v n (cB zs)) (hz : Byt zs) :
    ∃ ao cap, v = .slice ao n cap ∧ Row w ao n cap zs := by
  have hl : zs.length = n := by have := h.1; simpa [cB] using this
  rcases h.2 with ⟨rfl, rfl⟩ | ⟨g, cap, cur, rfl, hg, hh, h1, h2, h3, h4⟩
  · exact ⟨none, 0, rfl, hl, Nat.le_refl _, Nat.zero_le _, fun _ => rfl, hz, .inl rfl⟩
  · refine ⟨_, cap, rfl, hl, h1, h2, (by intro h; cases h), hz, .inr ⟨g, 0, rfl, fun i hi => ?_⟩⟩
    have := h.cellAt i (by omega)
    rw [Nat.zero_add, this, cB_get zs i (by omega)]

theorem own_lt {w : World} {base : Nat} {e : TypeId} {v : Value} {n : Nat} {xs : List Value} (h : w.ownsRow base e 1 v n xs) {base' : Nat} (hle : base' ≤ base) : w.ownsRow base' e 1 v n xs := by
  obtain ⟨hl, h | ⟨g, cap, cur, rfl, hg, hh, h1, h2, h3, h4⟩⟩ := h
  · exact ⟨hl, .inl h⟩
  · exact ⟨hl, .inr ⟨g, cap, cur, rfl, by omega, hh, h1, h2, h3, h4⟩⟩

theorem Tryz.infoU8 : (Tryz.prog.info? 5).map (fun i => (i.zero, i.size, i.bytes)) = some (some (.int .u8 0), 1, 1) := by kernel_rfl

theorem add_none (b off j : Nat) : (⟨b, off, none⟩ : Addr).add j = ⟨b, off + j, none⟩ := by
  by_cases h : j = 0 <;> simp [Addr.add, h]

theorem Row.news {w : World} {ao : Option Addr} {len cap : Nat} {zs : List Int} (h : Row w ao len cap zs) (ad : Addr) (ha : ao = some ad) (j : Nat) (u : Value) (hu : (cB zs)[j]? = some u) : w.cell? (ad.add j) = some u := by
  have hj : j < zs.length := by
    by_cases hlt : j < zs.length
    · exact hlt
    · rw [List.getElem?_eq_none (by rw [cB_length]; omega)] at hu
      cases hu
  rw [cB_get _ _ hj] at hu
  rcases h.cell with h0 | ⟨b, off, hb, hc⟩
  · have := h.size; omega
  · rw [ha] at hb
    cases hb
    rw [← hu]
    rw [add_none]; exact hc j (by have := h.size; omega)

theorem Row.none_zero {w : World} {ao : Option Addr} {len cap : Nat} {zs : List Int} (h : Row w ao len cap zs) (ha : ao = none) : len = 0 ∧ cap = 0 := by
  have := h.nil ha; have := h.le; omega

theorem cB_oneCell (zs : List Int) (u : Value) (h : u ∈ cB zs) : u.oneCell' = true := ints_oneCell .u8 zs u h

theorem byte_append {a b : List Int} (ha : Byt a) (hb : Byt b) : Byt (a ++ b) := by
  intro z hz
  rcases List.mem_append.1 hz with h | h
  · exact ha z h
  · exact hb z h

/-- 'append' of whatever bytes can be read to bytes that the call owns. -/
theorem wpList_append_row {P : Program} (w : World) {ops : Array Oper} {rest : List Oper} {o : Oper} {a : Act} {Q : Exit → Act → World → Prop} (hgd : o.guard = none)
    (s x : Operand) (t : TypeId) (ho : o.op = Op.call { callee := Callee.builtin Builtin.append, args := #[s, x], argTypes := #[t, t] }) (base : Nat)
    (ht : P.underlying t = some (TypeDesc.slice 5)) (hinfo : (P.info? 5).map (fun i => (i.zero, i.size, i.bytes)) = some (some (.int .u8 0), 1, 1))
    (v : Value) (n : Nat) (xs : List Int) (hs : a.eval s = v) (hown : w.ownsRow base 5 1 v n (cB xs)) (hxs : Byt xs) (ao : Option Addr) (m c : Nat) (zs : List Int)
    (hx : a.eval x = .slice ao m c) (hrow : Row w ao m c zs) (hsm : n + m ≤ 140737488355328) (hbase : base ≤ w.heap.size)
    (h : ∀ ao' cap' w', w'.ownsRow base 5 1 (.slice ao' (n + m) cap') (n + m) (cB (xs ++ zs)) → Row w' ao' (n + m) cap' (xs ++ zs) → Below base w w' → wpList P ops Q rest (a.put o.dst (.slice ao' (n + m) cap')) w') :
    wpList P ops Q (o :: rest) a w := by
  obtain ⟨i0, hi, hz0, hz1, hz2⟩ := info_parts hinfo
  have hby := byte_append hxs hrow.byte
  rcases ao with _ | ad
  · obtain ⟨rfl, rfl⟩ := hrow.none_zero rfl
    have hz : zs = [] := List.eq_nil_of_length_eq_zero hrow.size
    subst hz
    refine wpList_append_own_none hgd s x t ho base 5 i0 1 ht hi v n (cB xs) hs hown hx ?_
    obtain ⟨ao', cap', rfl, hr⟩ := row_of_own hown hxs
    have := h ao' cap' w (by simpa using hown) (by simpa using hr) (Below.refl _ _)
    simpa using this
  · refine wpList_append_own w hgd s x t ho base 5 i0 (.int .u8 0) 1 1 ht hi hz0 hz1 hz2 rfl (by decide) v n (cB xs) hs hown ad m c (cB zs) hx (by rw [cB_length, hrow.size]; omega) (fun j u hu => hrow.news ad rfl j u hu) (cB_oneCell zs) (by unfold maxLen; omega) (by omega) hbase ?_
    intro v' w' how hgr _
    rw [← cB_append] at how
    have hlt := hown.lt
    obtain ⟨ao', cap', rfl, hr⟩ := row_of_own how hby
    exact h ao' cap' w' how hr ((Below.refl _ _).grown hgr hbase (by intro k hk; exact (hlt k hk).1))

/-- The same as one step of a region that draws its order. -/
theorem step_append_row {P : Program} {ops : Array Oper} {o : Oper} {a : Act} {w : World} {K : Act → World → Prop} {Q : Exit → Act → World → Prop} {E : Prop} (hgd : o.guard = none)
    (s x : Operand) (t : TypeId) (ho : o.op = Op.call { callee := Callee.builtin Builtin.append, args := #[s, x], argTypes := #[t, t] }) (base : Nat)
    (ht : P.underlying t = some (TypeDesc.slice 5)) (hinfo : (P.info? 5).map (fun i => (i.zero, i.size, i.bytes)) = some (some (.int .u8 0), 1, 1))
    (v : Value) (n : Nat) (xs : List Int) (hs : a.eval s = v) (hown : w.ownsRow base 5 1 v n (cB xs)) (hxs : Byt xs) (ao : Option Addr) (m c : Nat) (zs : List Int)
    (hx : a.eval x = .slice ao m c) (hrow : Row w ao m c zs) (hsm : n + m ≤ 140737488355328) (hbase : base ≤ w.heap.size)
    (h : ∀ ao' cap' w', w'.ownsRow base 5 1 (.slice ao' (n + m) cap') (n + m) (cB (xs ++ zs)) → Row w' ao' (n + m) cap' (xs ++ zs) → Below base w w' → K (a.put o.dst (.slice ao' (n + m) cap')) w') :
    if Region.wanted o (yielded ops a.tmps) = true then Oper.wp P o a w K Q else E := by
  have hw : Region.wanted o (yielded ops a.tmps) = true := by simp [Region.wanted, hgd]
  rw [if_pos hw]
  obtain ⟨i0, hi, hz0, hz1, hz2⟩ := info_parts hinfo
  have hby := byte_append hxs hrow.byte
  rcases ao with _ | ad
  · obtain ⟨rfl, rfl⟩ := hrow.none_zero rfl
    have hz : zs = [] := List.eq_nil_of_length_eq_zero hrow.size
    subst hz
    obtain ⟨ao', cap', rfl, hr⟩ := row_of_own hown hxs
    have hrun := run_append_owned_none (P := P) w base t o.type 5 i0 1 ht hi (.slice ao' n cap') n (cB xs) hown
    have hk : K (a.put o.dst (.slice ao' n cap')) w := by simpa using h ao' cap' w (by simpa using hown) (by simpa using hr) (Below.refl _ _)
    unfold Oper.wp
    simp [execOp, ho, resolve, invoke, builtin, hs, hx, hrun, Result.andThen]
    exact hk
  · refine wp_append_own w s x t ho base 5 i0 (.int .u8 0) 1 1 ht hi hz0 hz1 hz2 rfl (by decide) v n (cB xs) hs hown ad m c (cB zs) hx (by rw [cB_length, hrow.size]; omega) (fun j u hu => hrow.news ad rfl j u hu) (cB_oneCell zs) (by unfold maxLen; omega) (by omega) hbase ?_
    intro v' w' how hgr _
    rw [← cB_append] at how
    have hlt := hown.lt
    obtain ⟨ao', cap', rfl, hr⟩ := row_of_own how hby
    exact h ao' cap' w' how hr ((Below.refl _ _).grown hgr hbase (by intro k hk; exact (hlt k hk).1))

theorem hide {p : Prop} (h : p) : Hid p := h

theorem getD_byte {zs : List Int} (h : Byt zs) (j : Nat) : 0 ≤ zs.getD j 0 ∧ zs.getD j 0 ≤ 255 := by
  by_cases hj : j < zs.length
  · rw [List.getD_eq_getElem?_getD, List.getElem?_eq_getElem hj]; exact h _ (List.getElem_mem hj)
  · rw [List.getD_eq_getElem?_getD, List.getElem?_eq_none (by omega)]; simp

theorem Row.at {w : World} {ao : Option Addr} {len cap : Nat} {zs : List Int} (h : Row w ao len cap zs) (hp : 0 < len) : ∃ b off, ao = some ⟨b, off, none⟩ ∧ ∀ i, i < len → w.cell? ⟨b, off + i, none⟩ = some (.int .u8 (zs.getD i 0)) := by
  rcases h.cell with h0 | h0
  · omega
  · exact h0

theorem Byt.at {zs : List Int} (h : Byt zs) (j : Nat) : 0 ≤ zs.getD j 0 ∧ zs.getD j 0 ≤ 255 := getD_byte h j

theorem row_nil (w : World) : Row w none 0 0 [] := ⟨rfl, Nat.le_refl _, Nat.zero_le _, fun _ => rfl, (by intro z hz; cases hz), .inl rfl⟩

/-- An argument, as it is opened. -/
theorem row_open {w : World} {x : Addr} {len cap : Nat} {zs : List Int} (hl : len ≤ cap) (hm : cap ≤ maxLen) (hz : zs.length = cap) (hcell : ∀ i, i < zs.length → w.cell? (x.add i) = some (.int .u8 (zs.getD i 0))) (hwz : ∀ n ∈ zs, (Lit.int .u8 n).wf = true) : Row w (some x) len cap (zs.take len) where
  size := by simp; omega
  le := hl
  top := hm
  nil := by intro h; cases h
  byte := by
    intro z h
    have := hwz z (List.mem_of_mem_take h)
    simp [Lit.wf, IntKind.min, IntKind.max, IntKind.bits, IntKind.signed] at this
    omega
  cell := by
    by_cases h0 : len = 0
    · exact .inl h0
    · have hc0 := hcell 0 (by omega)
      obtain ⟨b, off, spot⟩ := x
      have hspot : spot = none := by simpa [Addr.add] using World.cell?_spot hc0
      subst hspot
      refine .inr ⟨b, off, rfl, fun i hi => ?_⟩
      have := hcell i (by omega)
      have e : (⟨b, off, none⟩ : Addr).add i = ⟨b, off + i, none⟩ := by by_cases h : i = 0 <;> simp [Addr.add, h]
      rw [e] at this
      rw [this]
      simp [List.getD_eq_getElem?_getD, hi]

/-- Numbers as the cells of a slice of ints. -/
def cI (zs : List Int) : List Value := zs.map (Value.int .i64)

/-- Each number is an int. -/
def I64s (zs : List Int) : Prop := ∀ z ∈ zs, -9223372036854775808 ≤ z ∧ z ≤ 9223372036854775807

theorem cI_length (zs : List Int) : (cI zs).length = zs.length := by simp [cI]
theorem cI_append (a b : List Int) : cI (a ++ b) = cI a ++ cI b := by simp [cI]
theorem cI_get (zs : List Int) (j : Nat) (h : j < zs.length) : (cI zs)[j]? = some (.int .i64 (zs.getD j 0)) := by
  simp [cI, List.getElem?_map, List.getElem?_eq_getElem h]

/-- A slice of ints that can be read: zs are its elements. -/
structure IRow (w : World) (ao : Option Addr) (len cap : Nat) (zs : List Int) : Prop where
  size : zs.length = len
  le : len ≤ cap
  top : cap ≤ maxLen
  nil : ao = none → cap = 0
  byte : I64s zs
  cell : len = 0 ∨ ∃ b off, ao = some ⟨b, off, none⟩ ∧ ∀ i, i < len → w.cell? ⟨b, off + i, none⟩ = some (.int .i64 (zs.getD i 0))

theorem IRow.below {w w' : World} {ao : Option Addr} {len cap : Nat} {zs : List Int} (h : IRow w ao len cap zs) (hb : Below w.heap.size w w') : IRow w' ao len cap zs where
  size := h.size
  le := h.le
  top := h.top
  nil := h.nil
  byte := h.byte
  cell := by
    rcases h.cell with h0 | ⟨b, off, ha, hc⟩
    · exact .inl h0
    · exact .inr ⟨b, off, ha, fun i hi => by rw [hb.cell (block_lt (hc i hi))]; exact hc i hi⟩

/-- A row that the call owns can be read. -/
theorem irow_of_own {w : World} {base : Nat} {v : Value} {n : Nat} {zs : List Int} (h : w.ownsRow base 3 1 v n (cI zs)) (hz : I64s zs) :
    ∃ ao cap, v = .slice ao n cap ∧ IRow w ao n cap zs := by
  have hl : zs.length = n := by have := h.1; simpa [cI] using this
  rcases h.2 with ⟨rfl, rfl⟩ | ⟨g, cap, cur, rfl, hg, hh, h1, h2, h3, h4⟩
  · exact ⟨none, 0, rfl, hl, Nat.le_refl _, Nat.zero_le _, fun _ => rfl, hz, .inl rfl⟩
  · refine ⟨_, cap, rfl, hl, h1, h2, (by intro h; cases h), hz, .inr ⟨g, 0, rfl, fun i hi => ?_⟩⟩
    have := h.cellAt i (by omega)
    rw [Nat.zero_add, this, cI_get zs i (by omega)]

theorem Tryz.infoI64 : (Tryz.prog.info? 3).map (fun i => (i.zero, i.size, i.bytes)) = some (some (.int .i64 0), 1, 8) := by kernel_rfl

theorem IRow.news {w : World} {ao : Option Addr} {len cap : Nat} {zs : List Int} (h : IRow w ao len cap zs) (ad : Addr) (ha : ao = some ad) (j : Nat) (u : Value) (hu : (cI zs)[j]? = some u) : w.cell? (ad.add j) = some u := by
  have hj : j < zs.length := by
    by_cases hlt : j < zs.length
    · exact hlt
    · rw [List.getElem?_eq_none (by rw [cI_length]; omega)] at hu
      cases hu
  rw [cI_get _ _ hj] at hu
  rcases h.cell with h0 | ⟨b, off, hb, hc⟩
  · have := h.size; omega
  · rw [ha] at hb
    cases hb
    rw [← hu]
    rw [add_none]; exact hc j (by have := h.size; omega)

theorem IRow.none_zero {w : World} {ao : Option Addr} {len cap : Nat} {zs : List Int} (h : IRow w ao len cap zs) (ha : ao = none) : len = 0 ∧ cap = 0 := by
  have := h.nil ha; have := h.le; omega

theorem cI_oneCell (zs : List Int) (u : Value) (h : u ∈ cI zs) : u.oneCell' = true := ints_oneCell .i64 zs u h

theorem i64s_append {a b : List Int} (ha : I64s a) (hb : I64s b) : I64s (a ++ b) := by
  intro z hz
  rcases List.mem_append.1 hz with h | h
  · exact ha z h
  · exact hb z h

/-- 'append' of whatever ints can be read to ints that the call owns. -/
theorem wpList_append_irow {P : Program} (w : World) {ops : Array Oper} {rest : List Oper} {o : Oper} {a : Act} {Q : Exit → Act → World → Prop} (hgd : o.guard = none)
    (s x : Operand) (t : TypeId) (ho : o.op = Op.call { callee := Callee.builtin Builtin.append, args := #[s, x], argTypes := #[t, t] }) (base : Nat)
    (ht : P.underlying t = some (TypeDesc.slice 3)) (hinfo : (P.info? 3).map (fun i => (i.zero, i.size, i.bytes)) = some (some (.int .i64 0), 1, 8))
    (v : Value) (n : Nat) (xs : List Int) (hs : a.eval s = v) (hown : w.ownsRow base 3 1 v n (cI xs)) (hxs : I64s xs) (ao : Option Addr) (m c : Nat) (zs : List Int)
    (hx : a.eval x = .slice ao m c) (hrow : IRow w ao m c zs) (hsm : (n + m) * 8 ≤ 140737488355328) (hbase : base ≤ w.heap.size)
    (h : ∀ ao' cap' w', w'.ownsRow base 3 1 (.slice ao' (n + m) cap') (n + m) (cI (xs ++ zs)) → IRow w' ao' (n + m) cap' (xs ++ zs) → Below base w w' → wpList P ops Q rest (a.put o.dst (.slice ao' (n + m) cap')) w') :
    wpList P ops Q (o :: rest) a w := by
  obtain ⟨i0, hi, hz0, hz1, hz2⟩ := info_parts hinfo
  have hby := i64s_append hxs hrow.byte
  rcases ao with _ | ad
  · obtain ⟨rfl, rfl⟩ := hrow.none_zero rfl
    have hz : zs = [] := List.eq_nil_of_length_eq_zero hrow.size
    subst hz
    refine wpList_append_own_none hgd s x t ho base 3 i0 1 ht hi v n (cI xs) hs hown hx ?_
    obtain ⟨ao', cap', rfl, hr⟩ := irow_of_own hown hxs
    have := h ao' cap' w (by simpa using hown) (by simpa using hr) (Below.refl _ _)
    simpa using this
  · refine wpList_append_own w hgd s x t ho base 3 i0 (.int .i64 0) 1 8 ht hi hz0 hz1 hz2 rfl (by decide) v n (cI xs) hs hown ad m c (cI zs) hx (by rw [cI_length, hrow.size]; omega) (fun j u hu => hrow.news ad rfl j u hu) (cI_oneCell zs) (by unfold maxLen; omega) (by omega) hbase ?_
    intro v' w' how hgr _
    rw [← cI_append] at how
    have hlt := hown.lt
    obtain ⟨ao', cap', rfl, hr⟩ := irow_of_own how hby
    exact h ao' cap' w' how hr ((Below.refl _ _).grown hgr hbase (by intro k hk; exact (hlt k hk).1))

/-- The same as one step of a region that draws its order. -/
theorem step_append_irow {P : Program} {ops : Array Oper} {o : Oper} {a : Act} {w : World} {K : Act → World → Prop} {Q : Exit → Act → World → Prop} {E : Prop} (hgd : o.guard = none)
    (s x : Operand) (t : TypeId) (ho : o.op = Op.call { callee := Callee.builtin Builtin.append, args := #[s, x], argTypes := #[t, t] }) (base : Nat)
    (ht : P.underlying t = some (TypeDesc.slice 3)) (hinfo : (P.info? 3).map (fun i => (i.zero, i.size, i.bytes)) = some (some (.int .i64 0), 1, 8))
    (v : Value) (n : Nat) (xs : List Int) (hs : a.eval s = v) (hown : w.ownsRow base 3 1 v n (cI xs)) (hxs : I64s xs) (ao : Option Addr) (m c : Nat) (zs : List Int)
    (hx : a.eval x = .slice ao m c) (hrow : IRow w ao m c zs) (hsm : (n + m) * 8 ≤ 140737488355328) (hbase : base ≤ w.heap.size)
    (h : ∀ ao' cap' w', w'.ownsRow base 3 1 (.slice ao' (n + m) cap') (n + m) (cI (xs ++ zs)) → IRow w' ao' (n + m) cap' (xs ++ zs) → Below base w w' → K (a.put o.dst (.slice ao' (n + m) cap')) w') :
    if Region.wanted o (yielded ops a.tmps) = true then Oper.wp P o a w K Q else E := by
  have hw : Region.wanted o (yielded ops a.tmps) = true := by simp [Region.wanted, hgd]
  rw [if_pos hw]
  obtain ⟨i0, hi, hz0, hz1, hz2⟩ := info_parts hinfo
  have hby := i64s_append hxs hrow.byte
  rcases ao with _ | ad
  · obtain ⟨rfl, rfl⟩ := hrow.none_zero rfl
    have hz : zs = [] := List.eq_nil_of_length_eq_zero hrow.size
    subst hz
    obtain ⟨ao', cap', rfl, hr⟩ := irow_of_own hown hxs
    have hrun := run_append_owned_none (P := P) w base t o.type 3 i0 1 ht hi (.slice ao' n cap') n (cI xs) hown
    have hk : K (a.put o.dst (.slice ao' n cap')) w := by simpa using h ao' cap' w (by simpa using hown) (by simpa using hr) (Below.refl _ _)
    unfold Oper.wp
    simp [execOp, ho, resolve, invoke, builtin, hs, hx, hrun, Result.andThen]
    exact hk
  · refine wp_append_own w s x t ho base 3 i0 (.int .i64 0) 1 8 ht hi hz0 hz1 hz2 rfl (by decide) v n (cI xs) hs hown ad m c (cI zs) hx (by rw [cI_length, hrow.size]; omega) (fun j u hu => hrow.news ad rfl j u hu) (cI_oneCell zs) (by unfold maxLen; omega) (by omega) hbase ?_
    intro v' w' how hgr _
    rw [← cI_append] at how
    have hlt := hown.lt
    obtain ⟨ao', cap', rfl, hr⟩ := irow_of_own how hby
    exact h ao' cap' w' how hr ((Below.refl _ _).grown hgr hbase (by intro k hk; exact (hlt k hk).1))

theorem getD_i64 {zs : List Int} (h : I64s zs) (j : Nat) : -9223372036854775808 ≤ zs.getD j 0 ∧ zs.getD j 0 ≤ 9223372036854775807 := by
  by_cases hj : j < zs.length
  · rw [List.getD_eq_getElem?_getD, List.getElem?_eq_getElem hj]; exact h _ (List.getElem_mem hj)
  · rw [List.getD_eq_getElem?_getD, List.getElem?_eq_none (by omega)]; simp

theorem IRow.at {w : World} {ao : Option Addr} {len cap : Nat} {zs : List Int} (h : IRow w ao len cap zs) (hp : 0 < len) : ∃ b off, ao = some ⟨b, off, none⟩ ∧ ∀ i, i < len → w.cell? ⟨b, off + i, none⟩ = some (.int .i64 (zs.getD i 0)) := by
  rcases h.cell with h0 | h0
  · omega
  · exact h0

theorem I64s.at {zs : List Int} (h : I64s zs) (j : Nat) : -9223372036854775808 ≤ zs.getD j 0 ∧ zs.getD j 0 ≤ 9223372036854775807 := getD_i64 h j

theorem irow_nil (w : World) : IRow w none 0 0 [] := ⟨rfl, Nat.le_refl _, Nat.zero_le _, fun _ => rfl, (by intro z hz; cases hz), .inl rfl⟩

/-- An argument, as it is opened. -/
theorem irow_open {w : World} {x : Addr} {len cap : Nat} {zs : List Int} (hl : len ≤ cap) (hm : cap ≤ maxLen) (hz : zs.length = cap) (hcell : ∀ i, i < zs.length → w.cell? (x.add i) = some (.int .i64 (zs.getD i 0))) (hwz : ∀ n ∈ zs, (Lit.int .i64 n).wf = true) : IRow w (some x) len cap (zs.take len) where
  size := by simp; omega
  le := hl
  top := hm
  nil := by intro h; cases h
  byte := by
    intro z h
    have := hwz z (List.mem_of_mem_take h)
    simp [Lit.wf, IntKind.min, IntKind.max, IntKind.bits, IntKind.signed] at this
    omega
  cell := by
    by_cases h0 : len = 0
    · exact .inl h0
    · have hc0 := hcell 0 (by omega)
      obtain ⟨b, off, spot⟩ := x
      have hspot : spot = none := by simpa [Addr.add] using World.cell?_spot hc0
      subst hspot
      refine .inr ⟨b, off, rfl, fun i hi => ?_⟩
      have := hcell i (by omega)
      have e : (⟨b, off, none⟩ : Addr).add i = ⟨b, off + i, none⟩ := by by_cases h : i = 0 <;> simp [Addr.add, h]
      rw [e] at this
      rw [this]
      simp [List.getD_eq_getElem?_getD, hi]

theorem Tryz.infoStr : (Tryz.prog.info? 9).map (fun i => (i.zero, i.size, i.bytes)) = some (some (.string ⟨#[]⟩), 1, 16) := by kernel_rfl

theorem own_shape {w : World} {base : Nat} {e : TypeId} {v : Value} {n : Nat} {xs : List Value} (h : w.ownsRow base e 1 v n xs) : ∃ ao cap, v = .slice ao n cap := by
  rcases h.2 with ⟨rfl, rfl⟩ | ⟨g, cap, cur, rfl, _⟩
  · exact ⟨_, _, rfl⟩
  · exact ⟨_, _, rfl⟩

theorem irow_one (w : World) (x : Int) (h : -9223372036854775808 ≤ x ∧ x ≤ 9223372036854775807) : IRow (w.alloc (.cells #[.int .i64 x] 3)) (some ⟨w.heap.size, 0, none⟩) 1 1 [x] where
  size := rfl
  le := Nat.le_refl _
  top := by unfold maxLen; omega
  nil := by intro h; cases h
  byte := by intro z hz; simp at hz; subst hz; exact h
  cell := .inr ⟨w.heap.size, 0, rfl, fun i hi => by
    obtain rfl : i = 0 := by omega
    simp⟩

theorem take_succ_getD (l : List Int) (k : Nat) (h : k < l.length) : l.take (k + 1) = l.take k ++ [l.getD k 0] := by
  rw [List.take_succ_eq_append_getElem h]; simp [h]

theorem eq_of_takes {a b : List Int} (hl : a.length = b.length) (h : a.take a.length = b.take a.length) : a = b := by
  rw [List.take_length, hl, List.take_length] at h; exact h

theorem ne_at {a b : List Int} (k : Nat) (h : ¬ a.getD k 0 = b.getD k 0) : ¬ a = b := by
  intro e; exact h (by rw [e])

theorem ret_bool {a b : Bool} (h : a = b) : Ending.returned (.bool a) = .returned (.bool b) := by rw [h]
theorem ret_int {k : IntKind} {a b : Int} (h : a = b) : Ending.returned (.int k a) = .returned (.int k b) := by rw [h]

set_option maxRecDepth 100000 in
set_option maxHeartbeats 400000 in
theorem eq_any (a1 : Option Addr) (l1 c1 : Nat) (z1 : List Int) (a2 : Option Addr) (l2 c2 : Nat) (z2 : List Int) (w : World) (h1 : Row w a1 l1 c1 z1) (h2 : Row w a2 l2 c2 z2) :
    Calls Tryz.prog 19 #[.slice a1 l1 c1, .slice a2 l2 c2] w fun e w' => e = .returned (.bool (decide (z1 = z2))) ∧ ∃ n, w' = w.drewN n := by
  have m1 := h1.top; have m2 := h2.top; have s1 := h1.size; have s2 := h2.size; have e1 := h1.le; have e2 := h2.le
  unfold maxLen at m1 m2
  by_cases hl : l1 = l2
  · subst hl
    by_cases h0 : l1 = 0
    · subst h0
      have hz : z1 = z2 := by rw [List.eq_nil_of_length_eq_zero s1, List.eq_nil_of_length_eq_zero s2]
      go_enter Tryz.func19, Tryz.ntmps19
      go_wp2
      go_loop [5] (fun i => i = .int .i64 0) (fun _ => 0)
      case atStart => rfl
      case round =>
        subst hrel
        go_wp2
        go_ret
        exact ⟨by simp, 0, rfl⟩
    · rcases h1.cell with h | ⟨b1, o1, rfl, g1⟩
      · exact absurd h h0
      rcases h2.cell with h | ⟨b2, o2, rfl, g2⟩
      · exact absurd h h0
      clear h1 h2
      have G1 : Hid (∀ i, i < l1 → w.cell? ⟨b1, o1 + i, none⟩ = some (.int .u8 (z1.getD i 0))) := g1
      have G2 : Hid (∀ i, i < l1 → w.cell? ⟨b2, o2 + i, none⟩ = some (.int .u8 (z2.getD i 0))) := g2
      clear g1 g2
      go_enter Tryz.func19, Tryz.ntmps19
      go_wp2
      go_loopw [5] (fun i wr => ∃ k : Nat, k ≤ l1 ∧ i = .int .i64 k ∧ z1.take k = z2.take k ∧ ∃ n, wr = w.drewN n) (fun i _ => l1 - (intOf i).toNat)
      case atStart => exact ⟨0, Nat.zero_le _, rfl, rfl, 0, rfl⟩
      case round =>
        obtain ⟨k, hk, rfl, ht, n, rfl⟩ := hrel
        have HT : Hid (z1.take k = z2.take k) := ht
        clear ht
        by_cases hlt : k < l1
        · have c1 := G1.out k hlt
          have c2 := G2.out k hlt
          generalize hx : z1.getD k 0 = x at c1
          generalize hy : z2.getD k 0 = y at c2
          have HX : Hid (z1.getD k 0 = x) := hx
          have HY : Hid (z2.getD k 0 = y) := hy
          clear hx hy
          by_cases hq : x = y
          · subst hq
            go_wp2
            go_quiet (fail)
            go_wp2
            go_roundw
            case rel => exact ⟨k + 1, by omega, by go_num, by rw [take_succ_getD _ _ (by omega), take_succ_getD _ _ (by omega), HT.out, HX.out, HY.out], _, rfl⟩
            case measure => simp [intOf]; omega
          · have hne : (x != y) = true := by simp [hq]
            go_wp2
            go_quiet (fail)
            go_wp2
            go_ret
            exact ⟨ret_bool (decide_eq_false (ne_at k (by rw [HX.out, HY.out]; exact hq))).symm, _, World.drewN_drewN _ _ _⟩
        · go_wp2
          go_ret
          have hk' : k = l1 := by omega
          exact ⟨ret_bool (decide_eq_true (eq_of_takes (by omega) (by rw [s1, ← hk']; exact HT.out))).symm, _, rfl⟩
  · have hne : ((l1 : Int) != (l2 : Int)) = true := by simp; omega
    have hz : ¬ z1 = z2 := by intro e; rw [e] at s1; omega
    go_enter Tryz.func19, Tryz.ntmps19
    go_wp2
    go_ret
    exact ⟨ret_bool (decide_eq_false hz).symm, 0, rfl⟩

/-- A copy on its way: k of n bytes are laid. -/
def half (zs : List Int) (n k : Nat) : List Value := cB (zs.take k) ++ List.replicate (n - k) (.int .u8 0)

theorem half_length (zs : List Int) (n k : Nat) (h : zs.length = n) (hk : k ≤ n) : (half zs n k).length = n := by
  simp [half, cB_length]; omega

theorem half_set (zs : List Int) (n k : Nat) (h : zs.length = n) (hk : k < n) : (half zs n k).set k (.int .u8 (zs.getD k 0)) = half zs n (k + 1) := by
  have hl : (cB (zs.take k)).length = k := by simp [cB_length]; omega
  unfold half
  rw [List.set_append_right _ _ (by omega), hl, Nat.sub_self, take_succ_getD _ _ (by omega), cB_append]
  obtain ⟨m, hm⟩ : ∃ m, n - k = m + 1 := ⟨n - k - 1, by omega⟩
  have hm' : n - (k + 1) = m := by omega
  rw [hm, hm', List.replicate_succ, List.set_cons_zero]
  simp [cB]

theorem half_all (zs : List Int) (n : Nat) (h : zs.length = n) : half zs n n = cB zs := by
  simp [half, ← h]

theorem half_none (zs : List Int) (n : Nat) : half zs n 0 = List.replicate n (.int .u8 0) := by
  simp [half, cB]

set_option maxRecDepth 100000 in
set_option maxHeartbeats 400000 in
theorem copy_any (a1 : Option Addr) (l1 c1 : Nat) (z1 : List Int) (w : World) (h1 : Row w a1 l1 c1 z1) (hs : l1 ≤ 16777216) :
    Calls Tryz.prog 17 #[.slice a1 l1 c1] w fun e w' => e = .returned (.slice (some ⟨w.heap.size, 0, none⟩) l1 l1) ∧
      w'.ownsRow w.heap.size 5 1 (.slice (some ⟨w.heap.size, 0, none⟩) l1 l1) l1 (cB z1) ∧ Below w.heap.size w w' := by
  obtain ⟨i0, hi, hz0, hz1, hz2⟩ := info_parts Tryz.infoU8
  have s1 := h1.size
  have hcell := h1.cell
  clear h1
  go_enter Tryz.func17, Tryz.ntmps17
  go_wp2_with (at_make; refine wpList_make_full _ rfl _ _ 22 rfl w.heap.size 5 i0 (.int .u8 0) 1 Tryz.underlying22 hi hz0 hz1 .i64 .i64 _ _ l1 rfl rfl rfl rfl ?c1 ?c2 ?c3 ?_)
  case c1 => rw [hz2]; omega
  case c2 => unfold maxLen; omega
  case c3 => exact Nat.le_refl _
  intro w1 hown hgrow
  have hb1 : Below w.heap.size w w1 := (Below.refl _ _).grown hgrow (Nat.le_refl _) (by intro k hk; cases hk)
  have hown1 : w1.ownsRow w.heap.size 5 1 (.slice (some ⟨w.heap.size, 0, none⟩) l1 l1) l1 (half z1 l1 0) := by
    rw [half_none, ← toList_madeCells_one]; simpa [Value.cells] using hown
  clear hown hgrow hi hz0 hz1 hz2
  go_wp2
  go_loopw [4] (fun i wr => ∃ k : Nat, k ≤ l1 ∧ i = .int .i64 k ∧ wr.ownsRow w.heap.size 5 1 (.slice (some ⟨w.heap.size, 0, none⟩) l1 l1) l1 (half z1 l1 k) ∧ Below w.heap.size w wr) (fun i _ => l1 - (intOf i).toNat)
  case atStart => exact ⟨0, Nat.zero_le _, rfl, hown1, hb1⟩
  case round =>
    obtain ⟨k, hk, rfl, hown, hb⟩ := hrel
    by_cases hlt : k < l1
    · rcases hcell with h0 | ⟨b, off, rfl, hc⟩
      · omega
      have cx : wr.cell? ⟨b, off + k, none⟩ = some (.int .u8 (z1.getD k 0)) := by rw [hb.cell (block_lt (hc k hlt))]; exact hc k hlt
      have cf := hown.frozenAt k
      have cc : ∃ u, wr.cell? ⟨w.heap.size, k, none⟩ = some u := by
        rw [hown.cellAt k (by omega)]
        exact ⟨_, List.getElem?_eq_getElem (by rw [half_length _ _ _ s1 (by omega)]; exact hlt)⟩
      obtain ⟨u, cu⟩ := cc
      have R := hown.stored k (.int .u8 (z1.getD k 0))
      rw [half_set _ _ _ s1 hlt] at R
      have hb' := hb.setCell (p := ⟨w.heap.size, k, none⟩) (Nat.le_refl _) (.int .u8 (z1.getD k 0))
      have HR := R.1
      generalize hx : z1.getD k 0 = x at cx HR hb'
      have HX : Hid (z1.getD k 0 = x) := hx
      clear hx hc hown R hb hb1 hown1
      go_wp2
      go_roundw
      case rel => exact ⟨k + 1, by omega, by go_num, HR, hb'⟩
      case measure => simp [intOf]; omega
    · have hk' : k = l1 := by omega
      subst hk'
      rw [half_all _ _ s1] at hown
      go_wp2
      go_ret
      exact ⟨rfl, hown, hb⟩

/-- The marks that are put into n bytes, from k on. -/
def marks (k : Int) (n : Nat) : List Int := (List.range n).map fun i : Nat => IntKind.u8.wrap (k + i)

theorem marks_length (k : Int) (n : Nat) : (marks k n).length = n := by simp [marks]
theorem marks_get (k : Int) (n i : Nat) (h : i < n) : (marks k n).getD i 0 = IntKind.u8.wrap (k + i) := by
  simp [marks, List.getD_eq_getElem?_getD, List.getElem?_map, List.getElem?_range h]
theorem marks_succ (k : Int) (n : Nat) : marks k (n + 1) = marks k n ++ [IntKind.u8.wrap (k + n)] := by
  simp [marks, List.range_succ]
theorem wrap_byte (x : Int) : 0 ≤ IntKind.u8.wrap x ∧ IntKind.u8.wrap x ≤ 255 := by
  simp [IntKind.wrap, IntKind.bits, IntKind.signed]; omega
theorem marks_byte (k : Int) (n : Nat) : Byt (marks k n) := by
  intro z hz
  simp only [marks, List.mem_map] at hz
  obtain ⟨i, _, rfl⟩ := hz
  exact wrap_byte _

/-- Marks on their way: j of them are put, the rest is as it was. -/
def marked (k : Int) (zs : List Int) (j : Nat) : List Int := marks k j ++ zs.drop j

theorem marked_set (k : Int) (zs : List Int) (j : Nat) (h : j < zs.length) : (cB (marked k zs j)).set j (.int .u8 (IntKind.u8.wrap (k + j))) = cB (marked k zs (j + 1)) := by
  have hl : (cB (marks k j)).length = j := by rw [cB_length, marks_length]
  unfold marked
  rw [cB_append, List.set_append_right _ _ (by omega), hl, Nat.sub_self, marks_succ, cB_append, cB_append]
  rw [List.drop_eq_getElem_cons h]
  simp only [cB, List.map_cons, List.set_cons_zero, List.map_nil, List.append_assoc, List.cons_append, List.nil_append]

theorem marked_length (k : Int) (zs : List Int) (j : Nat) (h : j ≤ zs.length) : (marked k zs j).length = zs.length := by
  simp [marked, marks_length]; omega

theorem grown_setCell {w0 w : World} {g : Nat} (h : w0.grownBy w (some g)) (j : Nat) (u : Value) : w0.grownBy (w.setCell ⟨g, j, none⟩ u) (some g) where
  os := h.os
  tape := h.tape
  output := h.output
  size := by have := h.size; simpa using this
  block := fun k hk hne => by
    rw [Below.heap_setCell _ _ _ _ (by intro e; exact hne (by rw [e]))]
    exact h.block k hk hne

set_option maxRecDepth 100000 in
set_option maxHeartbeats 400000 in
theorem mark_any (base g n cap : Nat) (zs : List Int) (k : Int) (w : World) (hown : w.ownsRow base 5 1 (.slice (some ⟨g, 0, none⟩) n cap) n (cB zs)) (hn : n ≤ 16777216) (hk0 : 0 ≤ k) (hk1 : k ≤ 1099511627776) :
    Calls Tryz.prog 20 #[.slice (some ⟨g, 0, none⟩) n cap, .int .i64 k] w fun e w' => e = .returned (.int .i64 (k + n)) ∧
      w'.ownsRow base 5 1 (.slice (some ⟨g, 0, none⟩) n cap) n (cB (marks k n)) ∧ w.grownBy w' (some g) := by
  have hl : zs.length = n := by have := hown.1; simpa [cB] using this
  go_enter Tryz.func20, Tryz.ntmps20
  go_wp2
  go_loopw [1, 5] (fun m i wr => ∃ j : Nat, j ≤ n ∧ i = .int .i64 j ∧ m = .int .i64 (k + j) ∧ wr.ownsRow base 5 1 (.slice (some ⟨g, 0, none⟩) n cap) n (cB (marked k zs j)) ∧ w.grownBy wr (some g)) (fun _ i _ => n - (intOf i).toNat)
  case atStart => exact ⟨0, Nat.zero_le _, rfl, by simp, by simpa [marked, marks] using hown, World.grownBy.refl _ _⟩
  case round =>
    obtain ⟨j, hj, rfl, rfl, how, hg⟩ := hrel
    by_cases hlt : j < n
    · have cf := how.frozenAt j
      have cc : ∃ u, wr.cell? ⟨g, j, none⟩ = some u := by
        rw [how.cellAt j (by omega)]
        exact ⟨_, List.getElem?_eq_getElem (by rw [cB_length, marked_length _ _ _ (by omega)]; omega)⟩
      obtain ⟨u, cu⟩ := cc
      have R := (how.stored j (.int .u8 (IntKind.u8.wrap (k + j)))).1
      rw [marked_set _ _ _ (by omega)] at R
      have hg' := grown_setCell hg j (.int .u8 (IntKind.u8.wrap (k + j)))
      clear how hg hown
      go_wp2
      go_roundw
      case rel => exact ⟨j + 1, by omega, by go_num, by go_num, R, hg'⟩
      case measure => simp [intOf]; omega
    · have hj' : j = n := by omega
      subst hj'
      have hd : marked k zs j = marks k j := by simp [marked, ← hl]
      rw [hd] at how
      clear hd
      go_wp2
      go_ret
      exact ⟨rfl, how, hg⟩

set_option maxRecDepth 100000 in
set_option maxHeartbeats 400000 in
theorem mark_nil (k : Int) (w : World) :
    Calls Tryz.prog 20 #[.slice none 0 0, .int .i64 k] w fun e w' => e = .returned (.int .i64 k) ∧ w' = w := by
  go_enter Tryz.func20, Tryz.ntmps20
  go_wp2
  go_loop [1, 5] (fun m i => m = .int .i64 k ∧ i = .int .i64 0) (fun _ _ => 0)
  case atStart => exact ⟨rfl, rfl⟩
  case round =>
    obtain ⟨rfl, rfl⟩ := hrel
    go_wp2
    go_ret
    exact ⟨rfl, rfl⟩

theorem eq_same (a1 : Option Addr) (l1 c1 : Nat) (a2 : Option Addr) (l2 c2 : Nat) (zs : List Int) (w : World) (h1 : Row w a1 l1 c1 zs) (h2 : Row w a2 l2 c2 zs) :
    Calls Tryz.prog 19 #[.slice a1 l1 c1, .slice a2 l2 c2] w fun e w' => e = .returned (.bool true) ∧ ∃ n, w' = w.drewN n := by
  refine (eq_any a1 l1 c1 zs a2 l2 c2 zs w h1 h2).mono ?_
  rintro e w' ⟨rfl, n, rfl⟩
  exact ⟨by simp, n, rfl⟩

/-- Marks into what the call owns. -/
theorem mark_own (base : Nat) (ao : Option Addr) (n cap : Nat) (zs : List Int) (k : Int) (w : World) (hown : w.ownsRow base 5 1 (.slice ao n cap) n (cB zs)) (hbase : base ≤ w.heap.size) (hn : n ≤ 16777216) (hk0 : 0 ≤ k) (hk1 : k ≤ 1099511627776) :
    Calls Tryz.prog 20 #[.slice ao n cap, .int .i64 k] w fun e w' => e = .returned (.int .i64 (k + n)) ∧
      w'.ownsRow base 5 1 (.slice ao n cap) n (cB (marks k n)) ∧ Below base w w' := by
  rcases hown.2 with ⟨h, h0⟩ | ⟨g, cap', cur, h, hg, h3⟩
  · cases h
    refine (mark_nil k w).mono ?_
    rintro e w' ⟨rfl, rfl⟩
    exact ⟨by simp, by simpa [marks, cB] using World.ownsRow_nil _ _ _ _, Below.refl _ _⟩
  · cases h
    refine (mark_any base g n cap zs k w hown hn hk0 hk1).mono ?_
    rintro e w' ⟨rfl, ho, hgr⟩
    exact ⟨rfl, ho, (Below.refl _ _).grown hgr hbase (by intro k hk; cases hk; exact hg)⟩

/-- What the call owns can be read, its value written out. -/
theorem row_own {w : World} {base : Nat} {ao : Option Addr} {n cap : Nat} {zs : List Int} (h : w.ownsRow base 5 1 (.slice ao n cap) n (cB zs)) (hz : Byt zs) : Row w ao n cap zs := by
  obtain ⟨ao', cap', e, hr⟩ := row_of_own h hz
  cases e
  exact hr

/-- Marks into what the call owns; no other block turns. -/
theorem mark_grown (base : Nat) (ao : Option Addr) (n cap : Nat) (zs : List Int) (k : Int) (w : World) (hown : w.ownsRow base 5 1 (.slice ao n cap) n (cB zs)) (hn : n ≤ 16777216) (hk0 : 0 ≤ k) (hk1 : k ≤ 1099511627776) :
    Calls Tryz.prog 20 #[.slice ao n cap, .int .i64 k] w fun e w' => e = .returned (.int .i64 (k + n)) ∧
      w'.ownsRow base 5 1 (.slice ao n cap) n (cB (marks k n)) ∧ w.grownBy w' (Value.slice ao n cap).ownBlock := by
  rcases hown.2 with ⟨h, h0⟩ | ⟨g, cap', cur, h, hg, h3⟩
  · cases h
    refine (mark_nil k w).mono ?_
    rintro e w' ⟨rfl, rfl⟩
    exact ⟨by simp, by simpa [marks, cB] using World.ownsRow_nil _ _ _ _, World.grownBy.refl _ _⟩
  · cases h
    refine (mark_any base g n cap zs k w hown hn hk0 hk1).mono ?_
    rintro e w' ⟨rfl, ho, hgr⟩
    exact ⟨rfl, ho, hgr⟩

/-- A younger row stays its owner's while an elder one is written. -/
theorem own_above {w w' : World} {base : Nat} {e : TypeId} {v : Value} {n : Nat} {xs : List Value} {row : Option Nat} (h : w.ownsRow base e 1 v n xs) (hg : w.grownBy w' row) (hr : ∀ k, row = some k → k < base) : w'.ownsRow base e 1 v n xs := by
  refine h.kept hg ?_
  cases hv : v.ownBlock with
  | none => exact .inl rfl
  | some k =>
    refine .inr ?_
    intro e
    have := hr k e.symm
    have := (h.lt k hv).1
    omega

theorem below_grown {B : Nat} {a w w' : World} {row : Option Nat} (h : Below B a w) (hg : w.grownBy w' row) (hB : B ≤ w.heap.size) (hr : ∀ k, row = some k → B ≤ k) : Below B a w' := h.grown hg hB hr

set_option maxRecDepth 100000 in
set_option maxHeartbeats 400000 in
theorem eqI_any (a1 : Option Addr) (l1 c1 : Nat) (z1 : List Int) (a2 : Option Addr) (l2 c2 : Nat) (z2 : List Int) (w : World) (h1 : IRow w a1 l1 c1 z1) (h2 : IRow w a2 l2 c2 z2) :
    Calls Tryz.prog 101 #[.slice a1 l1 c1, .slice a2 l2 c2] w fun e w' => e = .returned (.bool (decide (z1 = z2))) ∧ ∃ n, w' = w.drewN n := by
  have m1 := h1.top; have m2 := h2.top; have s1 := h1.size; have s2 := h2.size; have e1 := h1.le; have e2 := h2.le
  unfold maxLen at m1 m2
  by_cases hl : l1 = l2
  · subst hl
    by_cases h0 : l1 = 0
    · subst h0
      have hz : z1 = z2 := by rw [List.eq_nil_of_length_eq_zero s1, List.eq_nil_of_length_eq_zero s2]
      go_enter Tryz.func101, Tryz.ntmps101
      go_wp2
      go_loop [5] (fun i => i = .int .i64 0) (fun _ => 0)
      case atStart => rfl
      case round =>
        subst hrel
        go_wp2
        go_ret
        exact ⟨by simp, 0, rfl⟩
    · rcases h1.cell with h | ⟨b1, o1, rfl, g1⟩
      · exact absurd h h0
      rcases h2.cell with h | ⟨b2, o2, rfl, g2⟩
      · exact absurd h h0
      clear h1 h2
      have G1 : Hid (∀ i, i < l1 → w.cell? ⟨b1, o1 + i, none⟩ = some (.int .i64 (z1.getD i 0))) := g1
      have G2 : Hid (∀ i, i < l1 → w.cell? ⟨b2, o2 + i, none⟩ = some (.int .i64 (z2.getD i 0))) := g2
      clear g1 g2
      go_enter Tryz.func101, Tryz.ntmps101
      go_wp2
      go_loopw [5] (fun i wr => ∃ k : Nat, k ≤ l1 ∧ i = .int .i64 k ∧ z1.take k = z2.take k ∧ ∃ n, wr = w.drewN n) (fun i _ => l1 - (intOf i).toNat)
      case atStart => exact ⟨0, Nat.zero_le _, rfl, rfl, 0, rfl⟩
      case round =>
        obtain ⟨k, hk, rfl, ht, n, rfl⟩ := hrel
        have HT : Hid (z1.take k = z2.take k) := ht
        clear ht
        by_cases hlt : k < l1
        · have c1 := G1.out k hlt
          have c2 := G2.out k hlt
          generalize hx : z1.getD k 0 = x at c1
          generalize hy : z2.getD k 0 = y at c2
          have HX : Hid (z1.getD k 0 = x) := hx
          have HY : Hid (z2.getD k 0 = y) := hy
          clear hx hy
          by_cases hq : x = y
          · subst hq
            go_wp2
            go_quiet (fail)
            go_wp2
            go_roundw
            case rel => exact ⟨k + 1, by omega, by go_num, by rw [take_succ_getD _ _ (by omega), take_succ_getD _ _ (by omega), HT.out, HX.out, HY.out], _, rfl⟩
            case measure => simp [intOf]; omega
          · have hne : (x != y) = true := by simp [hq]
            go_wp2
            go_quiet (fail)
            go_wp2
            go_ret
            exact ⟨ret_bool (decide_eq_false (ne_at k (by rw [HX.out, HY.out]; exact hq))).symm, _, World.drewN_drewN _ _ _⟩
        · go_wp2
          go_ret
          have hk' : k = l1 := by omega
          exact ⟨ret_bool (decide_eq_true (eq_of_takes (by omega) (by rw [s1, ← hk']; exact HT.out))).symm, _, rfl⟩
  · have hne : ((l1 : Int) != (l2 : Int)) = true := by simp; omega
    have hz : ¬ z1 = z2 := by intro e; rw [e] at s1; omega
    go_enter Tryz.func101, Tryz.ntmps101
    go_wp2
    go_ret
    exact ⟨ret_bool (decide_eq_false hz).symm, 0, rfl⟩

/-- A copy on its way: k of n bytes are laid. -/
def halfI (zs : List Int) (n k : Nat) : List Value := cI (zs.take k) ++ List.replicate (n - k) (.int .i64 0)

theorem halfI_length (zs : List Int) (n k : Nat) (h : zs.length = n) (hk : k ≤ n) : (halfI zs n k).length = n := by
  simp [halfI, cI_length]; omega

theorem halfI_set (zs : List Int) (n k : Nat) (h : zs.length = n) (hk : k < n) : (halfI zs n k).set k (.int .i64 (zs.getD k 0)) = halfI zs n (k + 1) := by
  have hl : (cI (zs.take k)).length = k := by simp [cI_length]; omega
  unfold halfI
  rw [List.set_append_right _ _ (by omega), hl, Nat.sub_self, take_succ_getD _ _ (by omega), cI_append]
  obtain ⟨m, hm⟩ : ∃ m, n - k = m + 1 := ⟨n - k - 1, by omega⟩
  have hm' : n - (k + 1) = m := by omega
  rw [hm, hm', List.replicate_succ, List.set_cons_zero]
  simp [cI]

theorem halfI_all (zs : List Int) (n : Nat) (h : zs.length = n) : halfI zs n n = cI zs := by
  simp [halfI, ← h]

theorem halfI_none (zs : List Int) (n : Nat) : halfI zs n 0 = List.replicate n (.int .i64 0) := by
  simp [halfI, cI]

/-- The marksI that are put into n bytes, from k on. -/
def marksI (k : Int) (n : Nat) : List Int := (List.range n).map fun i : Nat => (k + i)

theorem marksI_length (k : Int) (n : Nat) : (marksI k n).length = n := by simp [marksI]
theorem marksI_get (k : Int) (n i : Nat) (h : i < n) : (marksI k n).getD i 0 = (k + i) := by
  simp [marksI, List.getD_eq_getElem?_getD, List.getElem?_map, List.getElem?_range h]
theorem marksI_succ (k : Int) (n : Nat) : marksI k (n + 1) = marksI k n ++ [(k + n)] := by
  simp [marksI, List.range_succ]
theorem marksI_byte (k : Int) (n : Nat) (h0 : 0 ≤ k) (h1 : k ≤ 1099511627776) (hn : n ≤ 16777216) : I64s (marksI k n) := by
  intro z hz
  simp only [marksI, List.mem_map, List.mem_range] at hz
  obtain ⟨i, hi, rfl⟩ := hz
  omega

/-- Marks on their way: j of them are put, the rest is as it was. -/
def markedI (k : Int) (zs : List Int) (j : Nat) : List Int := marksI k j ++ zs.drop j

theorem markedI_set (k : Int) (zs : List Int) (j : Nat) (h : j < zs.length) : (cI (markedI k zs j)).set j (.int .i64 ((k + j))) = cI (markedI k zs (j + 1)) := by
  have hl : (cI (marksI k j)).length = j := by rw [cI_length, marksI_length]
  unfold markedI
  rw [cI_append, List.set_append_right _ _ (by omega), hl, Nat.sub_self, marksI_succ, cI_append, cI_append]
  rw [List.drop_eq_getElem_cons h]
  simp only [cI, List.map_cons, List.set_cons_zero, List.map_nil, List.append_assoc, List.cons_append, List.nil_append]

theorem markedI_length (k : Int) (zs : List Int) (j : Nat) (h : j ≤ zs.length) : (markedI k zs j).length = zs.length := by
  simp [markedI, marksI_length]; omega

set_option maxRecDepth 100000 in
set_option maxHeartbeats 400000 in
theorem markI_any (base g n cap : Nat) (zs : List Int) (k : Int) (w : World) (hown : w.ownsRow base 3 1 (.slice (some ⟨g, 0, none⟩) n cap) n (cI zs)) (hn : n ≤ 16777216) (hk0 : 0 ≤ k) (hk1 : k ≤ 1099511627776) :
    Calls Tryz.prog 76 #[.slice (some ⟨g, 0, none⟩) n cap, .int .i64 k] w fun e w' => e = .returned (.int .i64 (k + n)) ∧
      w'.ownsRow base 3 1 (.slice (some ⟨g, 0, none⟩) n cap) n (cI (marksI k n)) ∧ w.grownBy w' (some g) := by
  have hl : zs.length = n := by have := hown.1; simpa [cI] using this
  go_enter Tryz.func76, Tryz.ntmps76
  go_wp2
  go_loopw [1, 5] (fun m i wr => ∃ j : Nat, j ≤ n ∧ i = .int .i64 j ∧ m = .int .i64 (k + j) ∧ wr.ownsRow base 3 1 (.slice (some ⟨g, 0, none⟩) n cap) n (cI (markedI k zs j)) ∧ w.grownBy wr (some g)) (fun _ i _ => n - (intOf i).toNat)
  case atStart => exact ⟨0, Nat.zero_le _, rfl, by simp, by simpa [markedI, marksI] using hown, World.grownBy.refl _ _⟩
  case round =>
    obtain ⟨j, hj, rfl, rfl, how, hg⟩ := hrel
    by_cases hlt : j < n
    · have cf := how.frozenAt j
      have cc : ∃ u, wr.cell? ⟨g, j, none⟩ = some u := by
        rw [how.cellAt j (by omega)]
        exact ⟨_, List.getElem?_eq_getElem (by rw [cI_length, markedI_length _ _ _ (by omega)]; omega)⟩
      obtain ⟨u, cu⟩ := cc
      have R := (how.stored j (.int .i64 ((k + j)))).1
      rw [markedI_set _ _ _ (by omega)] at R
      have hg' := grown_setCell hg j (.int .i64 ((k + j)))
      clear how hg hown
      go_wp2
      go_roundw
      case rel => exact ⟨j + 1, by omega, by go_num, by go_num, R, hg'⟩
      case measure => simp [intOf]; omega
    · have hj' : j = n := by omega
      subst hj'
      have hd : markedI k zs j = marksI k j := by simp [markedI, ← hl]
      rw [hd] at how
      clear hd
      go_wp2
      go_ret
      exact ⟨rfl, how, hg⟩

set_option maxRecDepth 100000 in
set_option maxHeartbeats 400000 in
theorem markI_nil (k : Int) (w : World) :
    Calls Tryz.prog 76 #[.slice none 0 0, .int .i64 k] w fun e w' => e = .returned (.int .i64 k) ∧ w' = w := by
  go_enter Tryz.func76, Tryz.ntmps76
  go_wp2
  go_loop [1, 5] (fun m i => m = .int .i64 k ∧ i = .int .i64 0) (fun _ _ => 0)
  case atStart => exact ⟨rfl, rfl⟩
  case round =>
    obtain ⟨rfl, rfl⟩ := hrel
    go_wp2
    go_ret
    exact ⟨rfl, rfl⟩

set_option maxRecDepth 100000 in
set_option maxHeartbeats 400000 in
theorem heldI_any (ao : Option Addr) (n cap : Nat) (k : Int) (w : World) (h1 : IRow w ao n cap (marksI k n)) (hn : n ≤ 16777216) (hk0 : 0 ≤ k) (hk1 : k ≤ 1099511627776) :
    Calls Tryz.prog 78 #[.slice ao n cap, .int .i64 k] w fun e w' => e = .returned (.int .i64 (k + n)) ∧ w' = w := by
  have hcell := h1.cell
  clear h1
  go_enter Tryz.func78, Tryz.ntmps78
  go_wp2
  go_loop [1, 5] (fun m i => ∃ j : Nat, j ≤ n ∧ i = .int .i64 j ∧ m = .int .i64 (k + j)) (fun _ i => n - (intOf i).toNat)
  case atStart => exact ⟨0, Nat.zero_le _, rfl, by simp⟩
  case round =>
    obtain ⟨j, hj, rfl, rfl⟩ := hrel
    by_cases hlt : j < n
    · rcases hcell with h0 | ⟨b, off, rfl, hc⟩
      · omega
      have cx := hc j hlt
      rw [marksI_get _ _ _ hlt] at cx
      clear hc
      go_wp2
      go_round
      case rel => exact ⟨j + 1, by omega, by go_num, by go_num⟩
      case measure => simp [intOf]; omega
    · have hj' : j = n := by omega
      subst hj'
      go_wp2
      go_ret
      exact ⟨rfl, rfl⟩

theorem eqI_same (a1 : Option Addr) (l1 c1 : Nat) (a2 : Option Addr) (l2 c2 : Nat) (zs : List Int) (w : World) (h1 : IRow w a1 l1 c1 zs) (h2 : IRow w a2 l2 c2 zs) :
    Calls Tryz.prog 101 #[.slice a1 l1 c1, .slice a2 l2 c2] w fun e w' => e = .returned (.bool true) ∧ ∃ n, w' = w.drewN n := by
  refine (eqI_any a1 l1 c1 zs a2 l2 c2 zs w h1 h2).mono ?_
  rintro e w' ⟨rfl, n, rfl⟩
  exact ⟨by simp, n, rfl⟩

/-- Marks into what the call owns. -/
theorem markI_own (base : Nat) (ao : Option Addr) (n cap : Nat) (zs : List Int) (k : Int) (w : World) (hown : w.ownsRow base 3 1 (.slice ao n cap) n (cI zs)) (hbase : base ≤ w.heap.size) (hn : n ≤ 16777216) (hk0 : 0 ≤ k) (hk1 : k ≤ 1099511627776) :
    Calls Tryz.prog 76 #[.slice ao n cap, .int .i64 k] w fun e w' => e = .returned (.int .i64 (k + n)) ∧
      w'.ownsRow base 3 1 (.slice ao n cap) n (cI (marksI k n)) ∧ Below base w w' := by
  rcases hown.2 with ⟨h, h0⟩ | ⟨g, cap', cur, h, hg, h3⟩
  · cases h
    refine (markI_nil k w).mono ?_
    rintro e w' ⟨rfl, rfl⟩
    exact ⟨by simp, by simpa [marksI, cI] using World.ownsRow_nil _ _ _ _, Below.refl _ _⟩
  · cases h
    refine (markI_any base g n cap zs k w hown hn hk0 hk1).mono ?_
    rintro e w' ⟨rfl, ho, hgr⟩
    exact ⟨rfl, ho, (Below.refl _ _).grown hgr hbase (by intro k hk; cases hk; exact hg)⟩

/-- What the call owns can be read, its value written out. -/
theorem irow_own {w : World} {base : Nat} {ao : Option Addr} {n cap : Nat} {zs : List Int} (h : w.ownsRow base 3 1 (.slice ao n cap) n (cI zs)) (hz : I64s zs) : IRow w ao n cap zs := by
  obtain ⟨ao', cap', e, hr⟩ := irow_of_own h hz
  cases e
  exact hr

/-- Marks into what the call owns; no other block turns. -/
theorem markI_grown (base : Nat) (ao : Option Addr) (n cap : Nat) (zs : List Int) (k : Int) (w : World) (hown : w.ownsRow base 3 1 (.slice ao n cap) n (cI zs)) (hn : n ≤ 16777216) (hk0 : 0 ≤ k) (hk1 : k ≤ 1099511627776) :
    Calls Tryz.prog 76 #[.slice ao n cap, .int .i64 k] w fun e w' => e = .returned (.int .i64 (k + n)) ∧
      w'.ownsRow base 3 1 (.slice ao n cap) n (cI (marksI k n)) ∧ w.grownBy w' (Value.slice ao n cap).ownBlock := by
  rcases hown.2 with ⟨h, h0⟩ | ⟨g, cap', cur, h, hg, h3⟩
  · cases h
    refine (markI_nil k w).mono ?_
    rintro e w' ⟨rfl, rfl⟩
    exact ⟨by simp, by simpa [marksI, cI] using World.ownsRow_nil _ _ _ _, World.grownBy.refl _ _⟩
  · cases h
    refine (markI_any base g n cap zs k w hown hn hk0 hk1).mono ?_
    rintro e w' ⟨rfl, ho, hgr⟩
    exact ⟨rfl, ho, hgr⟩

theorem copy_made (a1 : Option Addr) (l1 c1 : Nat) (z1 : List Int) (w : World) (h1 : Row w a1 l1 c1 z1) (hs : l1 ≤ 16777216) :
    Calls Tryz.prog 17 #[.slice a1 l1 c1] w fun e w' => ∃ ao cap, e = .returned (.slice ao l1 cap) ∧
      w'.ownsRow w.heap.size 5 1 (.slice ao l1 cap) l1 (cB z1) ∧ Row w' ao l1 cap z1 ∧ Below w.heap.size w w' := by
  refine (copy_any a1 l1 c1 z1 w h1 hs).mono ?_
  rintro e w' ⟨rfl, ho, hb⟩
  exact ⟨_, _, rfl, ho, row_own ho h1.byte, hb⟩

/-- A piece: where it lies, its length, its capacity, its bytes. -/
structure Piece where
  ao : Option Addr
  len : Nat
  cap : Nat
  zs : List Int

def noPiece : Piece := ⟨none, 0, 0, []⟩

/-- How many bytes the first k pieces have. -/
def tot (ps : List Piece) (k : Nat) : Nat := ((ps.take k).map Piece.len).sum
/-- The bytes of the first k pieces. -/
def flat (ps : List Piece) (k : Nat) : List Int := ((ps.take k).map Piece.zs).flatten

theorem take_snoc (ps : List Piece) (k : Nat) (h : k < ps.length) : ps.take (k + 1) = ps.take k ++ [ps.getD k noPiece] := by
  rw [List.take_succ_eq_append_getElem h]; simp [h]
theorem tot_succ (ps : List Piece) (k : Nat) (h : k < ps.length) : tot ps (k + 1) = tot ps k + (ps.getD k noPiece).len := by
  unfold tot; rw [take_snoc ps k h]; simp
theorem flat_succ (ps : List Piece) (k : Nat) (h : k < ps.length) : flat ps (k + 1) = flat ps k ++ (ps.getD k noPiece).zs := by
  unfold flat; rw [take_snoc ps k h]; simp
theorem tot_le (ps : List Piece) (k : Nat) : tot ps k ≤ tot ps ps.length := by
  unfold tot
  rw [List.take_length]
  have := List.take_append_drop k ps
  conv => rhs; rw [← this, List.map_append, List.sum_append]
  omega

/-- A list of pieces that lie in memory. -/
structure Pieces (w : World) (po : Option Addr) (m c : Nat) (ps : List Piece) : Prop where
  size : ps.length = m
  small : m ≤ 1000
  cell : m = 0 ∨ ∃ b off, po = some ⟨b, off, none⟩ ∧ ∀ i, i < m → w.cell? ⟨b, off + i, none⟩ = some (.slice (ps.getD i noPiece).ao (ps.getD i noPiece).len (ps.getD i noPiece).cap)
  row : ∀ i, i < m → Row w (ps.getD i noPiece).ao (ps.getD i noPiece).len (ps.getD i noPiece).cap (ps.getD i noPiece).zs

set_option maxRecDepth 100000 in
set_option maxHeartbeats 1000000 in
theorem pieces_any (a1 : Option Addr) (l1 c1 : Nat) (z1 : List Int) (po : Option Addr) (m c : Nat) (ps : List Piece) (w : World) (h1 : Row w a1 l1 c1 z1) (hp : Pieces w po m c ps) (hs : l1 + tot ps m ≤ 16777216) :
    Calls Tryz.prog 28 #[.slice a1 l1 c1, .slice po m c] w fun e w' => e = .returned (.slice (some ⟨w.heap.size, 0, none⟩) (l1 + tot ps m) (l1 + tot ps m)) ∧
      w'.ownsRow w.heap.size 5 1 (.slice (some ⟨w.heap.size, 0, none⟩) (l1 + tot ps m) (l1 + tot ps m)) (l1 + tot ps m) (cB (z1 ++ flat ps m)) ∧ Below w.heap.size w w' := by
  obtain ⟨i0, hi, hz0, hz1, hz2⟩ := info_parts Tryz.infoU8
  have s1 := h1.size
  have hm := hp.small
  have hps := hp.size
  have htm : ∀ k, tot ps k ≤ tot ps m := fun k => by rw [← hps]; exact tot_le ps k
  have HTM : Hid (∀ k, tot ps k ≤ tot ps m) := htm
  clear htm
  go_enter Tryz.func28, Tryz.ntmps28
  go_wp2
  go_loop [5, 15] (fun s i => ∃ k : Nat, k ≤ m ∧ i = .int .i64 k ∧ s = .int .i64 ((l1 + tot ps k : Nat) : Int)) (fun _ i => m - (intOf i).toNat)
  case atStart => exact ⟨0, Nat.zero_le _, rfl, by simp [tot]⟩
  case round =>
    obtain ⟨k, hk, rfl, rfl⟩ := hrel
    by_cases hlt : k < m
    · rcases hp.cell with h0 | ⟨b, off, rfl, hc⟩
      · omega
      have cx := hc k hlt
      have ht := tot_succ ps k (by omega)
      have h2 := HTM.out (k + 1)
      have HT : Hid (tot ps (k + 1) = tot ps k + (ps.getD k noPiece).len) := ht
      rw [ht] at h2
      generalize hx : ps.getD k noPiece = p at cx h2
      have HX : Hid (ps.getD k noPiece = p) := hx
      clear hx ht hc
      go_wp2
      go_round
      case rel => exact ⟨k + 1, by omega, by go_num, by rw [HT.out, HX.out]; go_num⟩
      case measure => simp [intOf]; omega
    · have hk' : k = m := by omega
      subst hk'
      go_wp2_with (at_make; refine wpList_make_own _ rfl _ _ 22 rfl w.heap.size 5 i0 (.int .u8 0) 1 Tryz.underlying22 hi hz0 hz1 .i64 .i64 _ (l1 + tot ps k) rfl rfl rfl ?c1 ?c2 ?c3 ?_)
      case c1 => omega
      case c2 => unfold maxLen; omega
      intro w1 how1 hgr1
      have hb1 : Below w.heap.size w w1 := (Below.refl _ _).grown hgr1 (Nat.le_refl _) (by intro k hk; cases hk)
      have hr1 := h1.below hb1
      clear hgr1
      go_wp2_with (at_builtin; refine wpList_append_fits_any _ rfl _ _ 22 rfl w.heap.size 5 i0 1 Tryz.underlying22 hi hz1 w.heap.size 0 (l1 + tot ps k) [] rfl how1 a1 l1 c1 (cB z1) rfl ?d1 ?d2 ?d3 ?d4 ?d5 ?_)
      case d1 => rw [cB_length]; omega
      case d2 => exact hr1.none_zero
      case d3 => exact fun ad ha j u hu => hr1.news ad ha j u hu
      case d4 => exact cB_oneCell z1
      case d5 => omega
      intro w2 how2 hgr2
      have hb2 : Below w.heap.size w w2 := hb1.grown hgr2 (by have := hb1.size; omega) (by intro k hk; cases hk; exact Nat.le_refl _)
      clear how1 hgr2 hb1 hr1
      go_wp2
      go_loopw [8, 30] (fun v i wr => ∃ j : Nat, j ≤ k ∧ i = .int .i64 j ∧ v = .slice (some ⟨w.heap.size, 0, none⟩) (l1 + tot ps j) (l1 + tot ps k) ∧ wr.ownsRow w.heap.size 5 1 (.slice (some ⟨w.heap.size, 0, none⟩) (l1 + tot ps j) (l1 + tot ps k)) (l1 + tot ps j) (cB (z1 ++ flat ps j)) ∧ Below w.heap.size w wr) (fun _ i _ => k - (intOf i).toNat)
      case atStart => exact ⟨0, Nat.zero_le _, rfl, by simp [tot], by simpa [tot, flat] using how2, hb2⟩
      case round =>
        obtain ⟨j, hj, rfl, rfl, how, hb⟩ := hrel
        by_cases hlj : j < k
        · rcases hp.cell with h0 | ⟨b, off, rfl, hc⟩
          · omega
          have cx : wr.cell? ⟨b, off + j, none⟩ = some (.slice (ps.getD j noPiece).ao (ps.getD j noPiece).len (ps.getD j noPiece).cap) := by rw [hb.cell (block_lt (hc j hlj))]; exact hc j hlj
          have rx := (hp.row j hlj).below hb
          have ht := tot_succ ps j (by omega)
          have hf := flat_succ ps j (by omega)
          have h2 := HTM.out (j + 1)
          rw [ht] at h2
          generalize hx : ps.getD j noPiece = p at cx h2 rx ht hf
          have HT : Hid (tot ps (j + 1) = tot ps j + p.len) := ht
          have HF : Hid (flat ps (j + 1) = flat ps j ++ p.zs) := hf
          clear hx ht hc hf
          go_wp2_with (at_builtin; refine wpList_append_fits_any _ rfl _ _ 22 rfl w.heap.size 5 i0 1 Tryz.underlying22 hi hz1 w.heap.size (l1 + tot ps j) (l1 + tot ps k) _ rfl how p.ao p.len p.cap (cB p.zs) rfl ?e1 ?e2 ?e3 ?e4 ?e5 ?_)
          case e1 => rw [cB_length, rx.size]; omega
          case e2 => exact rx.none_zero
          case e3 => exact fun ad ha j u hu => rx.news ad ha j u hu
          case e4 => exact cB_oneCell _
          case e5 => omega
          intro w3 how3 hgr3
          have hb3 : Below w.heap.size w w3 := hb.grown hgr3 (by have := hb.size; omega) (by intro k hk; cases hk; exact Nat.le_refl _)
          rw [← cB_append, List.append_assoc, ← HF.out, Nat.add_assoc, ← HT.out] at how3
          clear hgr3 how hb
          go_wp2
          go_roundw
          case rel => exact ⟨j + 1, by omega, by go_num, by rw [HT.out, Nat.add_assoc], how3, hb3⟩
          case measure => simp [intOf]; omega
        · have hj' : j = k := by omega
          subst hj'
          go_wp2
          go_ret
          exact ⟨rfl, how, hb⟩

/-- Pieces that a call lays side by side in a new block. -/
theorem pieces_lit (w : World) (B : Nat) (ps : List Piece) (n : Nat) (e : TypeId) (hB : B = w.heap.size) (hn : ps.length = n) (hs : n ≤ 1000) (hr : ∀ i, i < n → Row w (ps.getD i noPiece).ao (ps.getD i noPiece).len (ps.getD i noPiece).cap (ps.getD i noPiece).zs) :
    Pieces (w.alloc (.cells (ps.map fun p => Value.slice p.ao p.len p.cap).toArray e)) (some ⟨B, 0, none⟩) n n ps where
  size := hn
  small := hs
  cell := .inr ⟨B, 0, rfl, fun i hi => by
    subst hB
    have hi' : i < ps.length := by omega
    rw [Nat.zero_add]
    have : (w.alloc (.cells (ps.map fun p => Value.slice p.ao p.len p.cap).toArray e)).cell? ⟨w.heap.size, i, none⟩ = (ps.map fun p => Value.slice p.ao p.len p.cap).toArray[i]? := by simp
    rw [this]
    simp [hi']⟩
  row := fun i hi => (hr i hi).below ((Below.refl _ _).alloc (Nat.le_refl _) _)

/-- A number, or the nearest that is kept. -/
def clip (n : Int) : Int := if 2147483647 < n then 2147483647 else if n < -2147483648 then -2147483648 else n

/-- The bytes of a number, the lower ones laid already. -/
def ints : Nat → Int → List Int → List Int
  | 0, _, out => out
  | f + 1, n, out => if n < -128 ∨ 127 < n then ints f (n / 256) (n / 256 % 256 :: out) else out

def putInt (n : Int) : List Int := ints 3 (clip n) [clip n % 256]

/-- f bytes more will do for n. -/
def Fits (f : Nat) (n : Int) : Prop := -(128 * 256 ^ f) ≤ n ∧ n < 128 * 256 ^ f

theorem clip_bd (n : Int) : -2147483648 ≤ clip n ∧ clip n ≤ 2147483647 := by unfold clip; split <;> (try split) <;> omega
theorem fits_clip (n : Int) : Fits 3 (clip n) := by have := clip_bd n; unfold Fits; constructor <;> (simp; omega)
theorem fits_zero (n : Int) (h : Fits 0 n) : ¬ (n < -128 ∨ 127 < n) := by unfold Fits at h; simp at h; omega
theorem fits_step (f : Nat) (n : Int) (h : Fits (f + 1) n) : Fits f (n / 256) := by
  unfold Fits at *
  rw [Int.pow_succ] at h
  generalize (256 : Int) ^ f = p at *
  omega
theorem ints_stop (f : Nat) (n : Int) (out : List Int) (h : ¬ (n < -128 ∨ 127 < n)) : ints f n out = out := by
  cases f with
  | zero => rfl
  | succ f => simp [ints, h]
theorem ints_byte (f : Nat) (n : Int) (out : List Int) (h : Byt out) : Byt (ints f n out) := by
  induction f generalizing n out with
  | zero => exact h
  | succ f ih =>
    unfold ints
    split
    · refine ih _ _ (fun z hz => ?_)
      rcases List.mem_cons.1 hz with rfl | hz
      · omega
      · exact h z hz
    · exact h
theorem ints_length (f : Nat) (n : Int) (out : List Int) : (ints f n out).length ≤ out.length + f := by
  induction f generalizing n out with
  | zero => exact Nat.le_refl _
  | succ f ih =>
    unfold ints
    split
    · have := ih (n / 256) (n / 256 % 256 :: out); simp at this; omega
    · omega
theorem byte_cons {x : Int} {zs : List Int} (h : 0 ≤ x ∧ x ≤ 255) (hz : Byt zs) : Byt (x :: zs) := by
  intro z h2
  rcases List.mem_cons.1 h2 with rfl | h2
  · exact h
  · exact hz z h2
theorem byte_one (x : Int) : Byt [x % 256] := by
  intro z hz; simp at hz; subst hz; omega
theorem ints_go (f : Nat) (n : Int) (out : List Int) (hf : Fits f n) (h : n < -128 ∨ 127 < n) : ∃ g, f = g + 1 ∧ Fits g (n / 256) ∧ ints g (n / 256) (n / 256 % 256 :: out) = ints f n out := by
  cases f with
  | zero => exact absurd h (fits_zero n hf)
  | succ g => exact ⟨g, rfl, fits_step g n hf, by simp [ints, h]⟩
theorem putInt_byte (n : Int) : Byt (putInt n) := ints_byte _ _ _ (byte_one _)
theorem putInt_length (n : Int) : (putInt n).length ≤ 4 := ints_length 3 _ _

theorem row_one (w : World) (b : Int) (h : 0 ≤ b ∧ b ≤ 255) : Row (w.alloc (.cells #[.int .u8 b] 5)) (some ⟨w.heap.size, 0, none⟩) 1 1 [b] where
  size := rfl
  le := Nat.le_refl _
  top := by unfold maxLen; omega
  nil := by intro h; cases h
  byte := by intro z hz; simp at hz; subst hz; exact h
  cell := .inr ⟨w.heap.size, 0, rfl, fun i hi => by
    obtain rfl : i = 0 := by omega
    simp⟩

set_option maxRecDepth 100000 in
set_option maxHeartbeats 400000 in
theorem clip_any (n : Int) (w : World) : Calls Tryz.prog 60 #[.int .i64 n] w fun e w' => e = .returned (.int .i64 (clip n)) ∧ w' = w := by
  by_cases h1 : 2147483647 < n
  · go_enter Tryz.func60, Tryz.ntmps60
    go_wp2
    go_ret
    exact ⟨ret_int (by simp [clip, h1]), rfl⟩
  · by_cases h2 : n < -2147483648
    · go_enter Tryz.func60, Tryz.ntmps60
      go_wp2
      go_ret
      exact ⟨ret_int (by simp [clip, h1, h2]), rfl⟩
    · go_enter Tryz.func60, Tryz.ntmps60
      go_wp2
      go_ret
      exact ⟨ret_int (by unfold clip; rw [if_neg (by omega), if_neg (by omega)]), rfl⟩

set_option maxRecDepth 100000 in
set_option maxHeartbeats 400000 in
theorem specInt_any (n : Int) (w : World) : Calls Tryz.prog 32 #[.int .i64 n] w fun e w' => ∃ v, e = .returned v ∧
    w'.ownsRow w.heap.size 5 1 v (putInt n).length (cB (putInt n)) ∧ Below w.heap.size w w' := by
  obtain ⟨i0, hi, hz0, hz1, hz2⟩ := info_parts Tryz.infoU8
  have hcb := clip_bd n
  have hfit := fits_clip n
  generalize hR : putInt n = R
  have HR : Hid (ints 3 (clip n) [clip n % 256] = R) := hR
  clear hR
  go_enter Tryz.func32, Tryz.ntmps32
  go_wp2_with fail
  refine (clip_any _ _).mono ?_
  rintro e w' ⟨rfl, rfl⟩
  go_wp2
  go_loopw [0, 3] (fun m v wr => ∃ (f : Nat) (x : Int) (zs : List Int), Fits f x ∧ -2147483648 ≤ x ∧ x ≤ 2147483647 ∧ m = .int .i64 x ∧ ints f x zs = R ∧ Byt zs ∧ 1 ≤ zs.length ∧ zs.length + f ≤ 4 ∧ wr.ownsRow w'.heap.size 5 1 v zs.length (cB zs) ∧ Below w'.heap.size w' wr) (fun m _ _ => (intOf m).natAbs)
  case atStart => exact ⟨3, clip n, _, hfit, hcb.1, hcb.2, rfl, HR.out, byte_one _, by simp, by simp, World.ownsRow_lit w' #[.int .u8 (clip n % 256)] 1 (Nat.le_refl _) (by unfold maxLen; omega) rfl, (Below.refl _ _).alloc (Nat.le_refl _) _⟩
  case round =>
    obtain ⟨f, x, zs, hf, hx1, hx2, rfl, hr, hby, hl1, hlen, how, hb⟩ := hrel
    obtain ⟨ao, cp, rfl, hrow⟩ := row_of_own how hby
    rcases hrow.cell with h0 | ⟨b, off, rfl, hc0⟩
    · omega
    have HRR : Hid (ints f x zs = R) := hr
    clear hr HR
    by_cases hc : x < -128 ∨ 127 < x
    · have hbw := hb.size
      rcases hc with hc | hc
      · obtain ⟨g, rfl, hf', hgo⟩ := ints_go f x zs hf (Or.inl hc)
        rw [HRR.out] at hgo
        have HG : Hid (ints g (x / 256) (x / 256 % 256 :: zs) = R) := hgo
        clear hgo HRR
        go_wp2_with (at_builtin; refine wpList_append_own _ rfl _ _ 22 rfl w'.heap.size 5 i0 (.int .u8 0) 1 1 Tryz.underlying22 hi hz0 hz1 hz2 rfl (by decide) _ 1 _ rfl (World.ownsRow_lit wr #[_] 1 (by omega) (by unfold maxLen; omega) rfl) ⟨b, off, none⟩ zs.length cp (cB zs) rfl ?c0a ?c1a ?c2a ?c3a ?c4a ?c5a ?_)
        case c0a => rw [cB_length]; omega
        case c1a => exact fun j u hu => (hrow.below ((Below.refl _ _).alloc (Nat.le_refl _) _)).news _ rfl j u hu
        case c2a => exact cB_oneCell zs
        case c3a => unfold maxLen; omega
        case c4a => omega
        case c5a => simp; omega
        intro v1 w1 how1 hgr1 _
        have hb1 : Below w'.heap.size w' w1 := (hb.alloc hbw _).grown hgr1 (by simp; omega) (by intro k hk; cases hk; exact hbw)
        have how2 : w1.ownsRow w'.heap.size 5 1 v1 (x / 256 % 256 :: zs).length (cB (x / 256 % 256 :: zs)) := by
          rw [List.length_cons, Nat.add_comm]; exact how1
        clear how1 hgr1 how hb hrow hc0
        go_wp2
        go_roundw
        case rel => exact ⟨g, x / 256, _, hf', by omega, by omega, rfl, HG.out, byte_cons (by omega) hby, by simp, by simp; omega, how2, hb1⟩
        case measure => simp [intOf]; omega
      · obtain ⟨g, rfl, hf', hgo⟩ := ints_go f x zs hf (Or.inr hc)
        rw [HRR.out] at hgo
        have HG : Hid (ints g (x / 256) (x / 256 % 256 :: zs) = R) := hgo
        clear hgo HRR
        go_wp2_with (at_builtin; refine wpList_append_own _ rfl _ _ 22 rfl w'.heap.size 5 i0 (.int .u8 0) 1 1 Tryz.underlying22 hi hz0 hz1 hz2 rfl (by decide) _ 1 _ rfl (World.ownsRow_lit wr #[_] 1 (by omega) (by unfold maxLen; omega) rfl) ⟨b, off, none⟩ zs.length cp (cB zs) rfl ?c0b ?c1b ?c2b ?c3b ?c4b ?c5b ?_)
        case c0b => rw [cB_length]; omega
        case c1b => exact fun j u hu => (hrow.below ((Below.refl _ _).alloc (Nat.le_refl _) _)).news _ rfl j u hu
        case c2b => exact cB_oneCell zs
        case c3b => unfold maxLen; omega
        case c4b => omega
        case c5b => simp; omega
        intro v1 w1 how1 hgr1 _
        have hb1 : Below w'.heap.size w' w1 := (hb.alloc hbw _).grown hgr1 (by simp; omega) (by intro k hk; cases hk; exact hbw)
        have how2 : w1.ownsRow w'.heap.size 5 1 v1 (x / 256 % 256 :: zs).length (cB (x / 256 % 256 :: zs)) := by
          rw [List.length_cons, Nat.add_comm]; exact how1
        clear how1 hgr1 how hb hrow hc0
        go_wp2
        go_roundw
        case rel => exact ⟨g, x / 256, _, hf', by omega, by omega, rfl, HG.out, byte_cons (by omega) hby, by simp, by simp; omega, how2, hb1⟩
        case measure => simp [intOf]; omega
    · have hz : zs = R := by rw [← HRR.out, ints_stop _ _ _ hc]
      subst hz
      clear HRR
      go_wp2
      go_ret
      exact ⟨_, rfl, how, hb⟩

set_option maxRecDepth 100000 in
set_option maxHeartbeats 400000 in
theorem implInt_any (n : Int) (w : World) : Calls Tryz.prog 56 #[.int .i64 n] w fun e w' => ∃ v, e = .returned v ∧
    w'.ownsRow w.heap.size 5 1 v (putInt n).length (cB (putInt n)) ∧ Below w.heap.size w w' := by
  have hcb := clip_bd n
  have hfit := fits_clip n
  generalize hR : putInt n = R
  unfold putInt at hR
  generalize hn : clip n = m at hcb hfit hR
  have HR : Hid (ints 3 m [m % 256] = R) := hR
  clear hR
  have hcase : (2147483647 < n ∧ m = 2147483647) ∨ (n < -2147483648 ∧ m = -2147483648) ∨ (-2147483648 ≤ n ∧ n ≤ 2147483647 ∧ n = m) := by
    subst hn; unfold clip; split
    · exact .inl ⟨by omega, rfl⟩
    · split
      · exact .inr (.inl ⟨by omega, rfl⟩)
      · exact .inr (.inr ⟨by omega, by omega, rfl⟩)
  clear hn
  rcases hcase with ⟨h1, rfl⟩ | ⟨h1, rfl⟩ | ⟨h1, h2, rfl⟩
  all_goals
    go_enter Tryz.func56, Tryz.ntmps56
    go_wp2
    go_loopw [0, 3] (fun m v wr => ∃ (f : Nat) (x : Int) (zs : List Int), Fits f x ∧ -2147483648 ≤ x ∧ x ≤ 2147483647 ∧ m = .int .i64 x ∧ ints f x zs = R ∧ Byt zs ∧ 1 ≤ zs.length ∧ zs.length + f ≤ 4 ∧ wr.ownsRow w.heap.size 5 1 v zs.length (cB zs) ∧ Below w.heap.size w wr) (fun m _ _ => (intOf m).natAbs)
    case atStart => exact ⟨3, _, _, hfit, by omega, by omega, rfl, HR.out, byte_one _, by simp, by simp, World.ownsRow_lit w #[_] 1 (Nat.le_refl _) (by unfold maxLen; omega) rfl, (Below.refl _ _).alloc (Nat.le_refl _) _⟩
    case round =>
      obtain ⟨f, x, zs, hf, hx1, hx2, rfl, hr, hby, hl1, hlen, how, hb⟩ := hrel
      obtain ⟨ao, cp, rfl, hrow⟩ := row_of_own how hby
      have HRR : Hid (ints f x zs = R) := hr
      clear hr HR
      by_cases hc : x < -128 ∨ 127 < x
      · have hbw := hb.size
        rcases hc with hc | hc
        · obtain ⟨g, rfl, hf', hgo⟩ := ints_go f x zs hf (Or.inl hc)
          rw [HRR.out] at hgo
          have HG : Hid (ints g (x / 256) (x / 256 % 256 :: zs) = R) := hgo
          clear hgo HRR
          go_wp2_with fail
          refine (pieces_any _ _ _ [x / 256 % 256] _ _ _ [⟨ao, zs.length, cp, zs⟩] _ ?_ ?_ ?_).mono ?_
          · exact (row_one wr _ (by omega)).below ((Below.refl _ _).alloc (Nat.le_refl _) _)
          · exact pieces_lit _ _ [⟨ao, zs.length, cp, zs⟩] 1 _ (by simp) rfl (by omega) (fun i hi => by obtain rfl : i = 0 := by omega
                                                                                                        exact hrow.below ((Below.refl _ _).alloc (Nat.le_refl _) _))
          · simp [tot]; omega
          rintro e w1 ⟨rfl, how1, hb1⟩
          have hbn : Below w.heap.size w w1 := ((hb.alloc hbw _).alloc (by simp; omega) _).trans (hb1.mono (by simp; omega))
          have how2 : w1.ownsRow w.heap.size 5 1 (.slice (some ⟨wr.heap.size + 1 + 1, 0, none⟩) (1 + zs.length) (1 + zs.length)) (x / 256 % 256 :: zs).length (cB (x / 256 % 256 :: zs)) := by
            have := own_lt how1 (base' := w.heap.size) (by simp; omega)
            simpa [tot, flat, Nat.add_comm] using this
          clear how1 hb1 how hb hrow
          go_wp2
          go_roundw
          case rel =>
            first | refine ⟨_, _, _, _, _, _, _, _, _, _, _, _, _, _, _, _, ?_, rfl⟩ | skip
            exact ⟨g, x / 256, _, hf', by omega, by omega, rfl, HG.out, byte_cons (by omega) hby, by simp, by simp; omega, how2, hbn⟩
          case measure => simp [intOf]; omega
        · obtain ⟨g, rfl, hf', hgo⟩ := ints_go f x zs hf (Or.inr hc)
          rw [HRR.out] at hgo
          have HG : Hid (ints g (x / 256) (x / 256 % 256 :: zs) = R) := hgo
          clear hgo HRR
          go_wp2_with fail
          refine (pieces_any _ _ _ [x / 256 % 256] _ _ _ [⟨ao, zs.length, cp, zs⟩] _ ?_ ?_ ?_).mono ?_
          · exact (row_one wr _ (by omega)).below ((Below.refl _ _).alloc (Nat.le_refl _) _)
          · exact pieces_lit _ _ [⟨ao, zs.length, cp, zs⟩] 1 _ (by simp) rfl (by omega) (fun i hi => by obtain rfl : i = 0 := by omega
                                                                                                        exact hrow.below ((Below.refl _ _).alloc (Nat.le_refl _) _))
          · simp [tot]; omega
          rintro e w1 ⟨rfl, how1, hb1⟩
          have hbn : Below w.heap.size w w1 := ((hb.alloc hbw _).alloc (by simp; omega) _).trans (hb1.mono (by simp; omega))
          have how2 : w1.ownsRow w.heap.size 5 1 (.slice (some ⟨wr.heap.size + 1 + 1, 0, none⟩) (1 + zs.length) (1 + zs.length)) (x / 256 % 256 :: zs).length (cB (x / 256 % 256 :: zs)) := by
            have := own_lt how1 (base' := w.heap.size) (by simp; omega)
            simpa [tot, flat, Nat.add_comm] using this
          clear how1 hb1 how hb hrow
          go_wp2
          go_roundw
          case rel =>
            first | refine ⟨_, _, _, _, _, _, _, _, _, _, _, _, _, _, _, _, ?_, rfl⟩ | skip
            exact ⟨g, x / 256, _, hf', by omega, by omega, rfl, HG.out, byte_cons (by omega) hby, by simp, by simp; omega, how2, hbn⟩
          case measure => simp [intOf]; omega
      · have hz : zs = R := by rw [← HRR.out, ints_stop _ _ _ hc]
        subst hz
        clear HRR
        go_wp2
        go_ret
        exact ⟨_, rfl, how, hb⟩

theorem specInt_made (n : Int) (P : List Int) (hP : putInt n = P) (w : World) : Calls Tryz.prog 32 #[.int .i64 n] w fun e w' => ∃ ao cap, e = .returned (.slice ao P.length cap) ∧
    w'.ownsRow w.heap.size 5 1 (.slice ao P.length cap) P.length (cB P) ∧ Row w' ao P.length cap P ∧ Below w.heap.size w w' := by
  subst hP
  refine (specInt_any n w).mono ?_
  rintro e w' ⟨v, rfl, ho, hb⟩
  obtain ⟨ao, cap, rfl, hr⟩ := row_of_own ho (putInt_byte n)
  exact ⟨ao, cap, rfl, ho, hr, hb⟩

theorem implInt_made (n : Int) (P : List Int) (hP : putInt n = P) (w : World) : Calls Tryz.prog 56 #[.int .i64 n] w fun e w' => ∃ ao cap, e = .returned (.slice ao P.length cap) ∧
    w'.ownsRow w.heap.size 5 1 (.slice ao P.length cap) P.length (cB P) ∧ Row w' ao P.length cap P ∧ Below w.heap.size w w' := by
  subst hP
  refine (implInt_any n w).mono ?_
  rintro e w' ⟨v, rfl, ho, hb⟩
  obtain ⟨ao, cap, rfl, hr⟩ := row_of_own ho (putInt_byte n)
  exact ⟨ao, cap, rfl, ho, hr, hb⟩

/-- A length as bytes. -/
def lenB (n : Nat) : List Int := if n < 128 then [(n : Int)] else [129, (n : Int)]
/-- A part put behind b; b alone of what is refused. -/
def putTlv (b : List Int) (tag : Int) (body : List Int) : List Int :=
  if tag < 0 ∨ 255 < tag ∨ 250 < body.length then b else b ++ ([tag] ++ lenB body.length ++ body)

theorem lenB_byte (n : Nat) (h : n ≤ 250) : Byt (lenB n) := by
  unfold lenB; split
  · exact byte_cons (by omega) (by intro z hz; cases hz)
  · exact byte_cons (by omega) (byte_cons (by omega) (by intro z hz; cases hz))
theorem lenB_length (n : Nat) : (lenB n).length ≤ 2 := by unfold lenB; split <;> simp
theorem putTlv_byte (b : List Int) (tag : Int) (body : List Int) (hb : Byt b) (hc : Byt body) : Byt (putTlv b tag body) := by
  unfold putTlv; split
  · exact hb
  · refine byte_append hb (byte_append (byte_append (byte_cons (by omega) (by intro z hz; cases hz)) (lenB_byte _ (by omega))) hc)
theorem putTlv_length (b : List Int) (tag : Int) (body : List Int) : (putTlv b tag body).length ≤ b.length + body.length + 3 := by
  unfold putTlv lenB; split
  · omega
  · split <;> (simp; omega)

theorem row_lit (w : World) (B : Nat) (zs : List Int) (n : Nat) (hB : B = w.heap.size) (hn : zs.length = n) (hs : n ≤ 1000) (hz : Byt zs) : Row (w.alloc (.cells (cB zs).toArray 5)) (some ⟨B, 0, none⟩) n n zs := by
  subst hB
  have := World.ownsRow_lit (base := 0) (e := 5) (size := 1) w (cB zs).toArray n (Nat.zero_le _) (by unfold maxLen; omega) (by simp [cB_length]; omega)
  exact row_own this hz

theorem Row.cong {w : World} {ao : Option Addr} {n c : Nat} {zs zs' : List Int} (h : Row w ao n c zs) (e : zs = zs') : Row w ao n c zs' := e ▸ h

theorem len_mod (x : Int) (n : Nat) (h : x = n) (hn : n ≤ 250) : x % 256 = n := by omega

set_option maxRecDepth 100000 in
set_option maxHeartbeats 400000 in
theorem lenB_any (x : Int) (n : Nat) (w : World) (hx : x = n) (h : n ≤ 250) : Calls Tryz.prog 55 #[.int .i64 x] w fun e w' => ∃ ao cap, e = .returned (.slice ao (lenB n).length cap) ∧ Row w' ao (lenB n).length cap (lenB n) ∧ Below w.heap.size w w' := by
  have HM : Hid (x % 256 = n) := len_mod x n hx h
  by_cases hn : n < 128
  · have e : lenB n = [(n : Int)] := by simp [lenB, hn]
    rw [e]
    clear e
    have hx1 : x < 128 := by omega
    clear hx hn
    go_enter Tryz.func55, Tryz.ntmps55
    go_wp2
    go_ret
    exact ⟨_, _, rfl, (row_lit w _ [x % 256] 1 rfl rfl (by omega) (byte_cons (by omega) (by intro z hz; cases hz))).cong (by rw [HM.out]), (Below.refl _ _).alloc (Nat.le_refl _) _⟩
  · have e : lenB n = [129, (n : Int)] := by simp [lenB, hn]
    rw [e]
    clear e
    have hx1 : ¬ x < 128 := by omega
    clear hx hn
    go_enter Tryz.func55, Tryz.ntmps55
    go_wp2
    go_ret
    exact ⟨_, _, rfl, (row_lit w _ [129, x % 256] 2 rfl rfl (by omega) (byte_cons (by omega) (byte_cons (by omega) (by intro z hz; cases hz)))).cong (by rw [HM.out]), (Below.refl _ _).alloc (Nat.le_refl _) _⟩

theorem pieces_none (w : World) : Pieces w none 0 0 [] := ⟨rfl, by omega, .inl rfl, fun i hi => by omega⟩

set_option maxRecDepth 100000 in
set_option maxHeartbeats 400000 in
theorem implTlv_any (a1 : Option Addr) (l1 c1 : Nat) (z1 : List Int) (tag : Int) (a2 : Option Addr) (l2 c2 : Nat) (z2 : List Int) (w : World) (h1 : Row w a1 l1 c1 z1) (h2 : Row w a2 l2 c2 z2) (hs : l1 + l2 ≤ 16000000) :
    Calls Tryz.prog 27 #[.slice a1 l1 c1, .int .i64 tag, .slice a2 l2 c2] w fun e w' => ∃ ao n cap, e = .returned (.slice ao n cap) ∧
      w'.ownsRow w.heap.size 5 1 (.slice ao n cap) n (cB (putTlv z1 tag z2)) ∧ Below w.heap.size w w' := by
  have s1 := h1.size
  have s2 := h2.size
  by_cases hr : tag < 0 ∨ 255 < tag ∨ 250 < l2
  · have e : putTlv z1 tag z2 = z1 := by unfold putTlv; rw [if_pos (by rw [s2]; exact hr)]
    rw [e]
    clear e
    have hr' : tag < 0 ∨ (¬ tag < 0 ∧ 255 < tag) ∨ (¬ tag < 0 ∧ ¬ 255 < tag ∧ 250 < l2) := by omega
    clear hr
    rcases hr' with hr | ⟨hr, hr1⟩ | ⟨hr, hr1, hr2⟩
    all_goals
      go_enter Tryz.func27, Tryz.ntmps27
      go_wp2_with fail
      refine (pieces_any _ _ _ z1 _ _ _ [] _ h1 (pieces_none _) (by simp [tot]; omega)).mono ?_
      rintro e w1 ⟨rfl, how1, hb1⟩
      go_wp2
      go_ret
      exact ⟨_, _, _, rfl, by simpa [tot, flat] using how1, hb1⟩
  · have e : putTlv z1 tag z2 = z1 ++ ([tag] ++ lenB l2 ++ z2) := by unfold putTlv; rw [if_neg (by rw [s2]; exact hr), s2]
    rw [e]
    clear e
    have t0 : ¬ tag < 0 := by omega
    have t1 : ¬ 255 < tag := by omega
    have t2 : ¬ 250 < l2 := by omega
    have HT : Hid (tag % 256 = tag) := show tag % 256 = tag by omega
    clear hr
    go_enter Tryz.func27, Tryz.ntmps27
    go_wp2_with fail
    have hl := lenB_length l2
    refine (lenB_any _ l2 _ rfl (by omega)).mono ?_
    rintro e w1 ⟨ao2, cp2, rfl, r2, hb1⟩
    have hz1 : w.heap.size + 1 ≤ w1.heap.size := by have := hb1.size; simpa using this
    have hb0 : Below w.heap.size w (w.alloc (.cells #[.int .u8 tag] 5)) := (Below.refl _ _).alloc (Nat.le_refl _) _
    have hbw : Below w.heap.size w w1 := hb0.trans (hb1.mono (by simp))
    have q0 := (row_one w tag (by omega)).below hb1
    go_wp2_with fail
    refine (pieces_any _ _ _ z1 _ _ _ [⟨some ⟨w.heap.size, 0, none⟩, 1, 1, [tag]⟩, ⟨ao2, (lenB l2).length, cp2, lenB l2⟩, ⟨a2, l2, c2, z2⟩] _ ?_ ?_ ?_).mono ?_
    · exact (h1.below hbw).below ((Below.refl _ _).alloc (Nat.le_refl _) _)
    · refine pieces_lit _ _ [⟨some ⟨w.heap.size, 0, none⟩, 1, 1, [tag]⟩, ⟨ao2, (lenB l2).length, cp2, lenB l2⟩, ⟨a2, l2, c2, z2⟩] 3 _ rfl rfl (by omega) ?_
      intro i hi
      match i, hi with
      | 0, _ => exact q0
      | 1, _ => exact r2
      | 2, _ => exact h2.below hbw
    · simp [tot]; omega
    rintro e w2 ⟨rfl, how2, hb2⟩
    have hbf : Below w.heap.size w w2 := (hbw.alloc (by omega) _).trans (hb2.mono (by simp; omega))
    go_wp2
    go_ret
    refine ⟨_, _, _, rfl, ?_, hbf⟩
    have := own_lt how2 (base' := w.heap.size) (by simp; omega)
    simpa [flat] using this

theorem byte_nil : Byt [] := by intro z hz; cases hz

set_option maxRecDepth 100000 in
set_option maxHeartbeats 400000 in
theorem specTlv_any (a1 : Option Addr) (l1 c1 : Nat) (z1 : List Int) (tag : Int) (a2 : Option Addr) (l2 c2 : Nat) (z2 : List Int) (w : World) (h1 : Row w a1 l1 c1 z1) (h2 : Row w a2 l2 c2 z2) (hs : l1 + l2 ≤ 16000000) :
    Calls Tryz.prog 31 #[.slice a1 l1 c1, .int .i64 tag, .slice a2 l2 c2] w fun e w' => ∃ ao n cap, e = .returned (.slice ao n cap) ∧
      w'.ownsRow w.heap.size 5 1 (.slice ao n cap) n (cB (putTlv z1 tag z2)) ∧ Below w.heap.size w w' := by
  have s1 := h1.size
  have s2 := h2.size
  by_cases hr : tag < 0 ∨ 255 < tag ∨ 250 < l2
  · have e : putTlv z1 tag z2 = z1 := by unfold putTlv; rw [if_pos (by rw [s2]; exact hr)]
    rw [e]
    clear e
    have hr' : tag < 0 ∨ (¬ tag < 0 ∧ 255 < tag) ∨ (¬ tag < 0 ∧ ¬ 255 < tag ∧ 250 < l2) := by omega
    clear hr
    rcases hr' with hr | ⟨hr, hr1⟩ | ⟨hr, hr1, hr2⟩
    all_goals
      go_enter Tryz.func31, Tryz.ntmps31
      go_wp2_with (at_builtin; refine wpList_append_row _ rfl _ _ 22 rfl w.heap.size Tryz.underlying22 Tryz.infoU8 _ 0 [] rfl (World.ownsRow_lit w #[] 0 (Nat.le_refl _) (Nat.zero_le _) rfl) (byte_nil) a1 l1 c1 z1 rfl (h1.below ((Below.refl _ _).alloc (Nat.le_refl _) _)) (by omega) (by simp) ?_)
      intro ao1 cp1 w1 how1 row1 hb1
      have hbw1 : Below w.heap.size w w1 := ((Below.refl _ _).alloc (Nat.le_refl _) _).trans hb1
      have hz1 := hbw1.size
      clear hb1
      go_wp2
      go_ret
      exact ⟨_, _, _, rfl, by simpa using how1, hbw1⟩
  · have t0 : ¬ tag < 0 := by omega
    have t1 : ¬ 255 < tag := by omega
    have t2 : ¬ 250 < l2 := by omega
    clear hr
    by_cases t3 : l2 < 128
    · have e : putTlv z1 tag z2 = z1 ++ ([tag] ++ [(l2 : Int)] ++ z2) := by unfold putTlv lenB; rw [if_neg (by omega), s2, if_pos t3]
      rw [e]
      clear e
      go_enter Tryz.func31, Tryz.ntmps31
      go_wp2_with (at_builtin; refine wpList_append_row _ rfl _ _ 22 rfl w.heap.size Tryz.underlying22 Tryz.infoU8 _ 0 [] rfl (World.ownsRow_lit w #[] 0 (Nat.le_refl _) (Nat.zero_le _) rfl) (byte_nil) a1 l1 c1 z1 rfl (h1.below ((Below.refl _ _).alloc (Nat.le_refl _) _)) (by omega) (by simp) ?_)
      intro ao1 cp1 w1 how1 row1 hb1
      have hbw1 : Below w.heap.size w w1 := ((Below.refl _ _).alloc (Nat.le_refl _) _).trans hb1
      have hz1 := hbw1.size
      clear hb1
      go_wp2_with (first | (at_builtin; refine wpList_append_row _ rfl _ _ 22 rfl w.heap.size Tryz.underlying22 Tryz.infoU8 _ _ _ rfl (own_below how1 ((Below.refl _ _).alloc (Nat.le_refl _) _)) row1.byte _ 1 1 [_] rfl (row_one w1 _ (by omega)) (by omega) (by simp; omega) ?_) | go_in)
      intro ao2 cp2 w2 how2 row2 hb2
      have hbw2 : Below w.heap.size w w2 := (hbw1.alloc hz1 _).trans hb2
      have hz2 := hbw2.size
      clear hb2 how1 row1
      go_wp2_with (first | (at_builtin; refine wpList_append_row _ rfl _ _ 22 rfl w.heap.size Tryz.underlying22 Tryz.infoU8 _ _ _ rfl (own_below how2 ((Below.refl _ _).alloc (Nat.le_refl _) _)) row2.byte _ 1 1 [_] rfl (row_one w2 _ (by omega)) (by omega) (by simp; omega) ?_) | go_in)
      intro ao3 cp3 w3 how3 row3 hb3
      have hbw3 : Below w.heap.size w w3 := (hbw2.alloc hz2 _).trans hb3
      have hz3 := hbw3.size
      clear hb3 how2 row2
      go_wp2_with (at_builtin; refine wpList_append_row _ rfl _ _ 22 rfl w.heap.size Tryz.underlying22 Tryz.infoU8 _ _ _ rfl how3 row3.byte a2 l2 c2 z2 rfl (h2.below hbw3) (by omega) hz3 ?_)
      intro ao4 cp4 w4 how4 row4 hb4
      have hbw4 : Below w.heap.size w w4 := hbw3.trans hb4
      go_wp2
      go_ret
      exact ⟨_, _, _, rfl, by simpa using how4, hbw4⟩
    · have e : putTlv z1 tag z2 = z1 ++ ([tag] ++ [129, (l2 : Int)] ++ z2) := by unfold putTlv lenB; rw [if_neg (by omega), s2, if_neg t3]
      rw [e]
      clear e
      go_enter Tryz.func31, Tryz.ntmps31
      go_wp2_with (at_builtin; refine wpList_append_row _ rfl _ _ 22 rfl w.heap.size Tryz.underlying22 Tryz.infoU8 _ 0 [] rfl (World.ownsRow_lit w #[] 0 (Nat.le_refl _) (Nat.zero_le _) rfl) (byte_nil) a1 l1 c1 z1 rfl (h1.below ((Below.refl _ _).alloc (Nat.le_refl _) _)) (by omega) (by simp) ?_)
      intro ao1 cp1 w1 how1 row1 hb1
      have hbw1 : Below w.heap.size w w1 := ((Below.refl _ _).alloc (Nat.le_refl _) _).trans hb1
      have hz1 := hbw1.size
      clear hb1
      go_wp2_with (first | (at_builtin; refine wpList_append_row _ rfl _ _ 22 rfl w.heap.size Tryz.underlying22 Tryz.infoU8 _ _ _ rfl (own_below how1 ((Below.refl _ _).alloc (Nat.le_refl _) _)) row1.byte _ 1 1 [_] rfl (row_one w1 _ (by omega)) (by omega) (by simp; omega) ?_) | go_in)
      intro ao2 cp2 w2 how2 row2 hb2
      have hbw2 : Below w.heap.size w w2 := (hbw1.alloc hz1 _).trans hb2
      have hz2 := hbw2.size
      clear hb2 how1 row1
      go_wp2_with (first | (at_builtin; refine wpList_append_row _ rfl _ _ 22 rfl w.heap.size Tryz.underlying22 Tryz.infoU8 _ _ _ rfl (own_below how2 ((Below.refl _ _).alloc (Nat.le_refl _) _)) row2.byte _ 1 1 [129] rfl (row_one w2 _ (by omega)) (by omega) (by simp; omega) ?_) | go_in)
      intro ao3 cp3 w3 how3 row3 hb3
      have hbw3 : Below w.heap.size w w3 := (hbw2.alloc hz2 _).trans hb3
      have hz3 := hbw3.size
      clear hb3 how2 row2
      go_wp2_with (first | (at_builtin; refine wpList_append_row _ rfl _ _ 22 rfl w.heap.size Tryz.underlying22 Tryz.infoU8 _ _ _ rfl (own_below how3 ((Below.refl _ _).alloc (Nat.le_refl _) _)) row3.byte _ 1 1 [_] rfl (row_one w3 _ (by omega)) (by omega) (by simp; omega) ?_) | go_in)
      intro ao4 cp4 w4 how4 row4 hb4
      have hbw4 : Below w.heap.size w w4 := (hbw3.alloc hz3 _).trans hb4
      have hz4 := hbw4.size
      clear hb4 how3 row3
      go_wp2_with (at_builtin; refine wpList_append_row _ rfl _ _ 22 rfl w.heap.size Tryz.underlying22 Tryz.infoU8 _ _ _ rfl how4 row4.byte a2 l2 c2 z2 rfl (h2.below hbw4) (by omega) hz4 ?_)
      intro ao5 cp5 w5 how5 row5 hb5
      have hbw5 : Below w.heap.size w w5 := hbw4.trans hb5
      go_wp2
      go_ret
      exact ⟨_, _, _, rfl, by simpa using how5, hbw5⟩

theorem made_of {w w' : World} {e : Ending} {P : List Int} (hP : Byt P) (h : ∃ ao n cap, e = .returned (.slice ao n cap) ∧ w'.ownsRow w.heap.size 5 1 (.slice ao n cap) n (cB P) ∧ Below w.heap.size w w') :
    ∃ ao cap, e = .returned (.slice ao P.length cap) ∧ w'.ownsRow w.heap.size 5 1 (.slice ao P.length cap) P.length (cB P) ∧ Row w' ao P.length cap P ∧ Below w.heap.size w w' := by
  obtain ⟨ao, n, cap, rfl, ho, hb⟩ := h
  have hn : P.length = n := by have := ho.1; simpa [cB] using this
  subst hn
  exact ⟨ao, cap, rfl, ho, row_own ho hP, hb⟩

theorem specTlv_made (a1 : Option Addr) (l1 c1 : Nat) (z1 : List Int) (tag : Int) (a2 : Option Addr) (l2 c2 : Nat) (z2 : List Int) (P : List Int) (hP : putTlv z1 tag z2 = P) (w : World) (h1 : Row w a1 l1 c1 z1) (h2 : Row w a2 l2 c2 z2) (hs : l1 + l2 ≤ 16000000) :
    Calls Tryz.prog 31 #[.slice a1 l1 c1, .int .i64 tag, .slice a2 l2 c2] w fun e w' => ∃ ao cap, e = .returned (.slice ao P.length cap) ∧
      w'.ownsRow w.heap.size 5 1 (.slice ao P.length cap) P.length (cB P) ∧ Row w' ao P.length cap P ∧ Below w.heap.size w w' := by
  subst hP
  exact (specTlv_any a1 l1 c1 z1 tag a2 l2 c2 z2 w h1 h2 hs).mono fun e w' h => made_of (putTlv_byte _ _ _ h1.byte h2.byte) h

theorem implTlv_made (a1 : Option Addr) (l1 c1 : Nat) (z1 : List Int) (tag : Int) (a2 : Option Addr) (l2 c2 : Nat) (z2 : List Int) (P : List Int) (hP : putTlv z1 tag z2 = P) (w : World) (h1 : Row w a1 l1 c1 z1) (h2 : Row w a2 l2 c2 z2) (hs : l1 + l2 ≤ 16000000) :
    Calls Tryz.prog 27 #[.slice a1 l1 c1, .int .i64 tag, .slice a2 l2 c2] w fun e w' => ∃ ao cap, e = .returned (.slice ao P.length cap) ∧
      w'.ownsRow w.heap.size 5 1 (.slice ao P.length cap) P.length (cB P) ∧ Row w' ao P.length cap P ∧ Below w.heap.size w w' := by
  subst hP
  exact (implTlv_any a1 l1 c1 z1 tag a2 l2 c2 z2 w h1 h2 hs).mono fun e w' h => made_of (putTlv_byte _ _ _ h1.byte h2.byte) h

theorem wrap_small (x : Int) (h : 0 ≤ x ∧ x ≤ 255) : IntKind.i64.wrap x = x := by
  rw [IntKind.wrap_i64]; omega

/-- The length at a place: the length, the place behind it, whether it is there and said in its one form. -/
def lenAt (zs : List Int) (p : Nat) : Int × Int × Bool :=
  if zs.length ≤ p then (0, 0, false)
  else if zs.getD p 0 < 128 then (zs.getD p 0, p + 1, true)
  else if ¬ zs.getD p 0 = 129 then (0, 0, false)
  else if zs.length ≤ p + 1 then (0, 0, false)
  else (zs.getD (p + 1) 0, p + 2, decide (128 ≤ zs.getD (p + 1) 0) && decide (zs.getD (p + 1) 0 ≤ 250))

theorem ret_three {a b a' b' : Int} {c c' : Bool} (ha : a = a') (hb : b = b') (hc : c = c') : Ending.returned (.tuple #[.int .i64 a, .int .i64 b, .bool c]) = .returned (.tuple #[.int .i64 a', .int .i64 b', .bool c']) := by rw [ha, hb, hc]

set_option maxRecDepth 100000 in
set_option maxHeartbeats 400000 in
theorem lenAt_any (a1 : Option Addr) (l1 c1 : Nat) (z1 : List Int) (x : Int) (p : Nat) (w : World) (h1 : Row w a1 l1 c1 z1) (hs : l1 ≤ 4000000) (hx : x = p) (hp : p ≤ 4000000) :
    Calls Tryz.prog 125 #[.slice a1 l1 c1, .int .i64 x] w fun e w' => e = .returned (.tuple #[.int .i64 (lenAt z1 p).1, .int .i64 (lenAt z1 p).2.1, .bool (lenAt z1 p).2.2]) ∧ w' = w := by
  subst hx
  have s1 := h1.size
  by_cases k1 : l1 ≤ p
  · have e : lenAt z1 p = (0, 0, false) := by unfold lenAt; rw [if_pos (by omega)]
    rw [e]; clear e
    go_enter Tryz.func125, Tryz.ntmps125
    go_wp2
    go_ret3
    exact ⟨rfl, rfl⟩
  obtain ⟨b, off, rfl, hc⟩ := h1.at (by omega)
  have cx := hc p (by omega)
  have bx := getD_byte h1.byte p
  by_cases k2 : z1.getD p 0 < 128
  · have e : lenAt z1 p = (z1.getD p 0, (p : Int) + 1, true) := by unfold lenAt; rw [if_neg (by omega), if_pos k2]
    rw [e]; clear e hc h1
    generalize z1.getD p 0 = x at *
    go_enter Tryz.func125, Tryz.ntmps125
    go_wp2
    go_ret3
    exact ⟨rfl, rfl⟩
  by_cases k3 : z1.getD p 0 = 129
  · by_cases k4 : l1 ≤ p + 1
    · have e : lenAt z1 p = (0, 0, false) := by unfold lenAt; rw [if_neg (by omega), if_neg k2, if_neg (fun h => h k3), if_pos (by omega)]
      rw [e]
      rw [k3] at cx
      clear e hc h1 k2 k3 bx
      go_enter Tryz.func125, Tryz.ntmps125
      go_wp2
      go_ret3
      exact ⟨rfl, rfl⟩
    · have e : lenAt z1 p = (z1.getD (p + 1) 0, (p : Int) + 2, decide (128 ≤ z1.getD (p + 1) 0) && decide (z1.getD (p + 1) 0 ≤ 250)) := by unfold lenAt; rw [if_neg (by omega), if_neg k2, if_neg (fun h => h k3), if_neg (by omega)]
      have cy := hc (p + 1) (by omega)
      have b2 := getD_byte h1.byte (p + 1)
      rw [e]
      rw [k3] at cx
      clear e hc h1 k2 k3 bx
      generalize z1.getD (p + 1) 0 = y at *
      by_cases k5 : 128 ≤ y
      · go_enter Tryz.func125, Tryz.ntmps125
        go_wp2
        go_ret3
        exact ⟨ret_three rfl rfl (by simp [k5]), rfl⟩
      · go_enter Tryz.func125, Tryz.ntmps125
        go_wp2
        go_ret3
        exact ⟨ret_three rfl rfl (by simp; omega), rfl⟩
  · have e : lenAt z1 p = (0, 0, false) := by unfold lenAt; rw [if_neg (by omega), if_neg k2, if_pos k3]
    rw [e]; clear e hc h1
    have hne : (z1.getD p 0 != 129) = true := by simpa using k3
    generalize z1.getD p 0 = x at *
    clear k3
    go_enter Tryz.func125, Tryz.ntmps125
    go_wp2
    go_ret3
    exact ⟨rfl, rfl⟩

theorem lenAt_ok {zs : List Int} (hz : Byt zs) {p : Nat} (h : (lenAt zs p).2.2 = true) : ∃ n f : Nat, lenAt zs p = ((n : Int), (f : Int), true) ∧ n ≤ 250 ∧ f ≤ zs.length ∧ p < f ∧ f ≤ p + 2 := by
  unfold lenAt at *
  have b1 := getD_byte hz p
  have b2 := getD_byte hz (p + 1)
  split at h
  · cases h
  split at h
  · rename_i h1 h2
    rw [if_neg h1, if_pos h2]
    exact ⟨(zs.getD p 0).toNat, p + 1, by rw [Int.toNat_of_nonneg b1.1]; rfl, by omega, by omega, by omega, by omega⟩
  split at h
  · cases h
  split at h
  · cases h
  rename_i h1 h2 h3 h4
  rw [if_neg h1, if_neg h2, if_neg h3, if_neg h4]
  simp only [Bool.and_eq_true, decide_eq_true_eq] at h
  refine ⟨(zs.getD (p + 1) 0).toNat, p + 2, ?_, by omega, by omega, by omega, by omega⟩
  rw [Int.toNat_of_nonneg b2.1]
  simp only [Prod.mk.injEq, true_and]
  exact ⟨rfl, by rw [decide_eq_true h.1, decide_eq_true h.2]; rfl⟩

/-- What is read at a place: its kind, its bytes, the place behind it, whether it is there whole. -/
def getTlv (zs : List Int) (t : Int) : Int × List Int × Int × Bool :=
  if t < 0 ∨ (zs.length : Int) ≤ t then (0, [], 0, false)
  else if (lenAt zs (t.toNat + 1)).2.2 = true ∧ (lenAt zs (t.toNat + 1)).1 ≤ zs.length - (lenAt zs (t.toNat + 1)).2.1 then
    (zs.getD t.toNat 0, (zs.drop (lenAt zs (t.toNat + 1)).2.1.toNat).take (lenAt zs (t.toNat + 1)).1.toNat, (lenAt zs (t.toNat + 1)).2.1 + (lenAt zs (t.toNat + 1)).1, true)
  else (0, [], 0, false)

/-- A cut of a row. -/
theorem Row.cut {w : World} {b off len cap : Nat} {zs : List Int} (h : Row w (some ⟨b, off, none⟩) len cap zs) (hc : ∀ i, i < len → w.cell? ⟨b, off + i, none⟩ = some (.int .u8 (zs.getD i 0))) (f n : Nat) (hf : f + n ≤ len) (ao : Option Addr) (c : Nat) (hcap : c = cap - f) (ha : 0 < n → ao = some ⟨b, off + f, none⟩) (hnn : ao = none → c = 0) :
    Row w ao n c ((zs.drop f).take n) where
  size := by have := h.size; simp; omega
  le := by have := h.le; omega
  top := by have := h.top; omega
  nil := hnn
  byte := fun z hz => h.byte z (List.mem_of_mem_drop (List.mem_of_mem_take hz))
  cell := by
    by_cases h0 : n = 0
    · exact .inl h0
    · refine .inr ⟨b, off + f, ha (by omega), fun i hi => ?_⟩
      rw [Nat.add_assoc, hc (f + i) (by omega)]
      simp [List.getD_eq_getElem?_getD, hi]

set_option maxRecDepth 100000 in
set_option maxHeartbeats 400000 in
theorem implGet_any (a1 : Option Addr) (l1 c1 : Nat) (z1 : List Int) (t : Int) (w : World) (h1 : Row w a1 l1 c1 z1) (hs : l1 ≤ 3000000) :
    Calls Tryz.prog 112 #[.slice a1 l1 c1, .int .i64 t] w fun e w' => ∃ ao n cap, e = .returned (.tuple #[.int .i64 (getTlv z1 t).1, .slice ao n cap, .int .i64 (getTlv z1 t).2.2.1, .bool (getTlv z1 t).2.2.2]) ∧
      w'.ownsRow w.heap.size 5 1 (.slice ao n cap) n (cB (getTlv z1 t).2.1) ∧ Below w.heap.size w w' := by
  have s1 := h1.size
  have hm := h1.top
  by_cases k1 : t < 0
  · have e : getTlv z1 t = (0, [], 0, false) := by unfold getTlv; rw [if_pos (.inl k1)]
    rw [e]; clear e
    go_enter Tryz.func112, Tryz.ntmps112
    go_wp2
    exact bodyPost_ret (v := .tuple #[.int .i64 0, .slice none 0 0, .int .i64 0, .bool false]) (by simp [results, Tryz.results112, go_sem]) rfl ⟨_, _, _, rfl, World.ownsRow_nil _ _ _ _, Below.refl _ _⟩
  by_cases k2 : (l1 : Int) ≤ t
  · have e : getTlv z1 t = (0, [], 0, false) := by unfold getTlv; rw [if_pos (.inr (by omega))]
    rw [e]; clear e
    go_enter Tryz.func112, Tryz.ntmps112
    go_wp2
    exact bodyPost_ret (v := .tuple #[.int .i64 0, .slice none 0 0, .int .i64 0, .bool false]) (by simp [results, Tryz.results112, go_sem]) rfl ⟨_, _, _, rfl, World.ownsRow_nil _ _ _ _, Below.refl _ _⟩
  obtain ⟨p, rfl⟩ : ∃ p : Nat, t = p := ⟨t.toNat, by omega⟩
  by_cases k3 : (lenAt z1 (p + 1)).2.2 = true ∧ (lenAt z1 (p + 1)).1 ≤ z1.length - (lenAt z1 (p + 1)).2.1
  · obtain ⟨n, f, hl, hn, hf, hf1, hf2⟩ := lenAt_ok h1.byte k3.1
    have e : getTlv z1 p = (z1.getD p 0, (z1.drop f).take n, (f : Int) + n, true) := by unfold getTlv; rw [if_neg (by omega)]; simp only [Int.toNat_natCast]; rw [if_pos k3, hl]; simp
    have k5 : ¬ (l1 : Int) - f < n := by have := k3.2; rw [hl] at this; simp at this; omega
    have K := lenAt_any a1 l1 c1 z1 (p + 1) (p + 1) w h1 (by omega) (by simp) (by omega)
    rw [hl] at K
    rw [e]
    have HK := hide K
    obtain ⟨b, off, rfl, hc⟩ := h1.at (by omega)
    have cx := hc p (by omega)
    have bx := getD_byte h1.byte p
    have HC := hide hc
    clear K k3 hl e hc
    generalize z1.getD p 0 = x at *
    have g0 : (0 : Int) ≤ f := by omega
    have g1 : (f : Int) ≤ f + n := by omega
    have hle := h1.le
    have g2 : (f : Int) + n ≤ c1 := by omega
    have g3 : (p : Int) < l1 := by omega
    have g4 : ((f : Int) + n).toNat - f = n := by omega
    obtain ⟨ad, had, hcut⟩ : ∃ ad, ad = (if c1 = f then off else off + f) ∧ Row w (some ⟨b, ad, none⟩) n (c1 - f) ((z1.drop f).take n) := ⟨_, rfl, h1.cut HC.out f n (by omega) _ _ rfl (by intro hn0; rw [if_neg (by omega)]) (by intro h; cases h)⟩
    have HX := hide cx
    clear HC h1
    by_cases hcf : c1 = f
    · subst hcf
      rw [if_pos rfl] at had
      subst had
      obtain rfl : n = 0 := by omega
      rw [Nat.sub_self] at hcut
      have HR := hide hcut
      clear hcut
      go_enter Tryz.func112, Tryz.ntmps112
      go_wp2_with fail
      refine HK.out.mono ?_
      rintro e w1 ⟨rfl, rfl⟩
      go_wp2_with fail
      go_region_with (go_at_call 28; refine (pieces_any _ _ _ ((z1.drop c1).take 0) _ _ _ [] _ (HR.out.below (Below.drew (Below.refl _ _))) (pieces_none _) (by simp [tot] <;> omega)).mono ?_; rintro e w2 ⟨rfl, how2, hb2⟩; have cx2 := (hb2.cell (block_lt (w := w1.drew) (by exact HX.out))).trans HX.out)
      all_goals
        go_wp2
        refine bodyPost_ret (v := .tuple #[.int .i64 x, .slice (some ⟨w1.heap.size, 0, none⟩) (0 + tot [] 0) (0 + tot [] 0), .int .i64 c1, .bool true]) (by simp [results, Tryz.results112, go_sem, wrap_small x bx]) rfl ⟨_, _, _, rfl, ?_, ?_⟩
        · simpa [flat] using how2
        · exact ((Below.refl _ _).drew).trans hb2
    · rw [if_neg hcf] at had
      subst had
      have HR := hide hcut
      clear hcut
      go_enter Tryz.func112, Tryz.ntmps112
      go_wp2_with fail
      refine HK.out.mono ?_
      rintro e w1 ⟨rfl, rfl⟩
      go_wp2_with fail
      go_region_with (go_at_call 28; refine (pieces_any _ _ _ ((z1.drop f).take n) _ _ _ [] _ (HR.out.below (Below.drew (Below.refl _ _))) (pieces_none _) (by simp [tot] <;> omega)).mono ?_; rintro e w2 ⟨rfl, how2, hb2⟩; have cx2 := (hb2.cell (block_lt (w := w1.drew) (by exact HX.out))).trans HX.out)
      all_goals
        go_wp2
        refine bodyPost_ret (v := .tuple #[.int .i64 x, .slice (some ⟨w1.heap.size, 0, none⟩) (n + tot [] 0) (n + tot [] 0), .int .i64 ((f : Int) + n), .bool true]) (by simp [results, Tryz.results112, go_sem, wrap_small x bx]) rfl ⟨_, _, _, rfl, ?_, ?_⟩
        · simpa [flat] using how2
        · exact ((Below.refl _ _).drew).trans hb2
  · have e : getTlv z1 p = (0, [], 0, false) := by unfold getTlv; rw [if_neg (by omega)]; simp only [Int.toNat_natCast]; rw [if_neg k3]
    rw [e]; clear e
    by_cases k4 : (lenAt z1 (p + 1)).2.2 = true
    · obtain ⟨n, f, hl, hn, hf, hf1, hf2⟩ := lenAt_ok h1.byte k4
      have k5 : (l1 : Int) - f < n := by rw [hl] at k3; simp at k3; omega
      have K := lenAt_any a1 l1 c1 z1 (p + 1) (p + 1) w h1 (by omega) (by simp) (by omega)
      rw [hl] at K
      have HK := hide K
      clear K k3 k4 hl
      go_enter Tryz.func112, Tryz.ntmps112
      go_wp2_with fail
      refine HK.out.mono ?_
      rintro e w1 ⟨rfl, rfl⟩
      go_wp2
      exact bodyPost_ret (v := .tuple #[.int .i64 0, .slice none 0 0, .int .i64 0, .bool false]) (by simp [results, Tryz.results112, go_sem]) rfl ⟨_, _, _, rfl, World.ownsRow_nil _ _ _ _, Below.refl _ _⟩
    · have K := lenAt_any a1 l1 c1 z1 (p + 1) (p + 1) w h1 (by omega) (by simp) (by omega)
      have k5 : (lenAt z1 (p + 1)).2.2 = false := by simpa using k4
      rw [k5] at K
      generalize (lenAt z1 (p + 1)).1 = x1 at K
      generalize (lenAt z1 (p + 1)).2.1 = x2 at K
      have HK := hide K
      clear K k3 k4 k5
      go_enter Tryz.func112, Tryz.ntmps112
      go_wp2_with fail
      refine HK.out.mono ?_
      rintro e w1 ⟨rfl, rfl⟩
      go_wp2
      exact bodyPost_ret (v := .tuple #[.int .i64 0, .slice none 0 0, .int .i64 0, .bool false]) (by simp [results, Tryz.results112, go_sem]) rfl ⟨_, _, _, rfl, World.ownsRow_nil _ _ _ _, Below.refl _ _⟩

theorem getTlv_no (z : List Int) (p : Nat) (h : ¬ ((lenAt z (p + 1)).2.2 = true ∧ (lenAt z (p + 1)).1 ≤ z.length - (lenAt z (p + 1)).2.1)) : getTlv z p = (0, [], 0, false) := by
  unfold getTlv
  simp only [Int.toNat_natCast]
  rw [if_neg h]
  split <;> rfl

theorem getTlv_yes (z : List Int) (p n f : Nat) (hp : p < z.length) (hl : lenAt z (p + 1) = ((n : Int), (f : Int), true)) (h : (n : Int) ≤ z.length - f) : getTlv z p = (z.getD p 0, (z.drop f).take n, (f : Int) + n, true) := by
  unfold getTlv
  rw [if_neg (by omega)]
  simp only [Int.toNat_natCast]
  rw [hl, if_pos ⟨rfl, h⟩]
  simp

theorem lenAt_out (z : List Int) (p : Nat) (h : z.length ≤ p) : lenAt z p = (0, 0, false) := by unfold lenAt; rw [if_pos h]
theorem lenAt_short (z : List Int) (p : Nat) (x : Int) (h : p < z.length) (hx : z.getD p 0 = x) (h1 : x < 128) : lenAt z p = (x, (p : Int) + 1, true) := by
  unfold lenAt; rw [if_neg (by omega), hx, if_pos h1]
theorem lenAt_other (z : List Int) (p : Nat) (x : Int) (h : p < z.length) (hx : z.getD p 0 = x) (h1 : ¬ x < 128) (h2 : ¬ x = 129) : lenAt z p = (0, 0, false) := by
  unfold lenAt; rw [if_neg (by omega), hx, if_neg h1, if_pos h2]
theorem lenAt_cut (z : List Int) (p : Nat) (h : p < z.length) (hx : z.getD p 0 = 129) (h1 : z.length ≤ p + 1) : lenAt z p = (0, 0, false) := by
  unfold lenAt; rw [if_neg (by omega), hx, if_neg (by omega), if_neg (by omega), if_pos h1]
theorem lenAt_long (z : List Int) (p : Nat) (y : Int) (h : p + 1 < z.length) (hx : z.getD p 0 = 129) (hy : z.getD (p + 1) 0 = y) : lenAt z p = (y, (p : Int) + 2, decide (128 ≤ y) && decide (y ≤ 250)) := by
  unfold lenAt; rw [if_neg (by omega), hx, if_neg (by omega), if_neg (by omega), if_neg (by omega), hy]

/-- What the contract says of the specification's GetTlv. -/
def SpecGet (a1 : Option Addr) (l1 c1 : Nat) (z1 : List Int) (t : Int) (w : World) : Prop :=
    Calls Tryz.prog 40 #[.slice a1 l1 c1, .int .i64 t] w fun e w' => ∃ ao n cap, e = .returned (.tuple #[.int .i64 (getTlv z1 t).1, .slice ao n cap, .int .i64 (getTlv z1 t).2.2.1, .bool (getTlv z1 t).2.2.2]) ∧
      w'.ownsRow w.heap.size 5 1 (.slice ao n cap) n (cB (getTlv z1 t).2.1) ∧ Below w.heap.size w w'

set_option maxRecDepth 100000 in
set_option maxHeartbeats 400000 in
theorem specGet_out (a1 : Option Addr) (l1 c1 : Nat) (z1 : List Int) (t : Int) (w : World) (h1 : Row w a1 l1 c1 z1) (hs : l1 ≤ 3000000) (ht : t < 0 ∨ (l1 : Int) ≤ t + 1) : SpecGet a1 l1 c1 z1 t w := by
  have s1 := h1.size
  unfold SpecGet
  have e : getTlv z1 t = (0, [], 0, false) := by
    by_cases k : t < 0 ∨ (z1.length : Int) ≤ t
    · unfold getTlv; rw [if_pos k]
    · obtain ⟨p, rfl⟩ : ∃ p : Nat, t = p := ⟨t.toNat, by omega⟩
      exact getTlv_no z1 p (by rw [lenAt_out _ _ (by omega)]; simp)
  rw [e]; clear e h1
  by_cases k1 : t < 0
  · go_enter Tryz.func40, Tryz.ntmps40
    go_wp2
    exact bodyPost_ret (v := .tuple #[.int .i64 0, .slice (some ⟨w.heap.size, 0, none⟩) 0 0, .int .i64 0, .bool false]) (by simp [results, Tryz.results40, go_sem]) rfl ⟨_, _, _, rfl, World.ownsRow_lit w #[] 0 (Nat.le_refl _) (Nat.zero_le _) rfl, (Below.refl _ _).alloc (Nat.le_refl _) _⟩
  by_cases k2 : (l1 : Int) ≤ t
  · go_enter Tryz.func40, Tryz.ntmps40
    go_wp2
    exact bodyPost_ret (v := .tuple #[.int .i64 0, .slice (some ⟨w.heap.size, 0, none⟩) 0 0, .int .i64 0, .bool false]) (by simp [results, Tryz.results40, go_sem]) rfl ⟨_, _, _, rfl, World.ownsRow_lit w #[] 0 (Nat.le_refl _) (Nat.zero_le _) rfl, (Below.refl _ _).alloc (Nat.le_refl _) _⟩
  have k3 : t + 1 = l1 := by omega
  have k4 : (l1 : Int) ≤ t + 1 := by omega
  have k5 : t < l1 := by omega
  clear k3 ht
  go_enter Tryz.func40, Tryz.ntmps40
  go_wp2
  exact bodyPost_ret (v := .tuple #[.int .i64 0, .slice (some ⟨w.heap.size, 0, none⟩) 0 0, .int .i64 0, .bool false]) (by simp [results, Tryz.results40, go_sem]) rfl ⟨_, _, _, rfl, World.ownsRow_lit w #[] 0 (Nat.le_refl _) (Nat.zero_le _) rfl, (Below.refl _ _).alloc (Nat.le_refl _) _⟩

set_option maxRecDepth 100000 in
set_option maxHeartbeats 800000 in
theorem specGet_bad (b off l1 c1 p : Nat) (z1 : List Int) (w : World) (h1 : Row w (some ⟨b, off, none⟩) l1 c1 z1) (hc : ∀ i, i < l1 → w.cell? ⟨b, off + i, none⟩ = some (.int .u8 (z1.getD i 0))) (hs : l1 ≤ 3000000) (hp : p + 1 < l1)
    (hno : ¬ ((lenAt z1 (p + 1)).2.2 = true ∧ (lenAt z1 (p + 1)).1 ≤ z1.length - (lenAt z1 (p + 1)).2.1)) : SpecGet (some ⟨b, off, none⟩) l1 c1 z1 p w := by
  have s1 := h1.size
  unfold SpecGet
  rw [getTlv_no z1 p hno]
  have cx := hc (p + 1) (by omega)
  have bx := getD_byte h1.byte (p + 1)
  generalize hx : z1.getD (p + 1) 0 = x at cx bx
  by_cases k1 : x < 128
  · rw [lenAt_short z1 (p + 1) x (by omega) hx k1] at hno
    have k2 : ¬ x ≤ (l1 : Int) - (p + 2) := by intro h; exact hno ⟨rfl, by simp; omega⟩
    clear hno hc h1 hx
    go_enter Tryz.func40, Tryz.ntmps40
    go_wp2
    exact bodyPost_ret (v := .tuple #[.int .i64 0, .slice (some ⟨w.heap.size, 0, none⟩) 0 0, .int .i64 0, .bool false]) (by simp [results, Tryz.results40, go_sem]) rfl ⟨_, _, _, rfl, World.ownsRow_lit w #[] 0 (Nat.le_refl _) (Nat.zero_le _) rfl, (Below.refl _ _).alloc (Nat.le_refl _) _⟩
  by_cases k2 : x = 129
  · subst k2
    by_cases k3 : l1 ≤ p + 2
    · clear hno hc h1 hx
      go_enter Tryz.func40, Tryz.ntmps40
      go_wp2
      exact bodyPost_ret (v := .tuple #[.int .i64 0, .slice (some ⟨w.heap.size, 0, none⟩) 0 0, .int .i64 0, .bool false]) (by simp [results, Tryz.results40, go_sem]) rfl ⟨_, _, _, rfl, World.ownsRow_lit w #[] 0 (Nat.le_refl _) (Nat.zero_le _) rfl, (Below.refl _ _).alloc (Nat.le_refl _) _⟩
    have cy := hc (p + 2) (by omega)
    have b2 := getD_byte h1.byte (p + 2)
    generalize hy : z1.getD (p + 2) 0 = y at cy b2
    rw [lenAt_long z1 (p + 1) y (by omega) hx hy] at hno
    by_cases k4 : y < 128
    · clear hno hc h1 hx hy
      go_enter Tryz.func40, Tryz.ntmps40
      go_wp2
      exact bodyPost_ret (v := .tuple #[.int .i64 0, .slice (some ⟨w.heap.size, 0, none⟩) 0 0, .int .i64 0, .bool false]) (by simp [results, Tryz.results40, go_sem]) rfl ⟨_, _, _, rfl, World.ownsRow_lit w #[] 0 (Nat.le_refl _) (Nat.zero_le _) rfl, (Below.refl _ _).alloc (Nat.le_refl _) _⟩
    by_cases k5 : 250 < y
    · clear hno hc h1 hx hy
      go_enter Tryz.func40, Tryz.ntmps40
      go_wp2
      exact bodyPost_ret (v := .tuple #[.int .i64 0, .slice (some ⟨w.heap.size, 0, none⟩) 0 0, .int .i64 0, .bool false]) (by simp [results, Tryz.results40, go_sem]) rfl ⟨_, _, _, rfl, World.ownsRow_lit w #[] 0 (Nat.le_refl _) (Nat.zero_le _) rfl, (Below.refl _ _).alloc (Nat.le_refl _) _⟩
    have k6 : ¬ y ≤ (l1 : Int) - (p + 3) := by intro h; exact hno ⟨by simp; omega, by simp; omega⟩
    clear hno hc h1 hx hy
    go_enter Tryz.func40, Tryz.ntmps40
    go_wp2
    exact bodyPost_ret (v := .tuple #[.int .i64 0, .slice (some ⟨w.heap.size, 0, none⟩) 0 0, .int .i64 0, .bool false]) (by simp [results, Tryz.results40, go_sem]) rfl ⟨_, _, _, rfl, World.ownsRow_lit w #[] 0 (Nat.le_refl _) (Nat.zero_le _) rfl, (Below.refl _ _).alloc (Nat.le_refl _) _⟩
  · have hne : (x != 129) = true := by simpa using k2
    clear hno hc h1 hx k2
    go_enter Tryz.func40, Tryz.ntmps40
    go_wp2
    exact bodyPost_ret (v := .tuple #[.int .i64 0, .slice (some ⟨w.heap.size, 0, none⟩) 0 0, .int .i64 0, .bool false]) (by simp [results, Tryz.results40, go_sem]) rfl ⟨_, _, _, rfl, World.ownsRow_lit w #[] 0 (Nat.le_refl _) (Nat.zero_le _) rfl, (Below.refl _ _).alloc (Nat.le_refl _) _⟩

theorem wrap_in (x : Int) (h : -9223372036854775808 ≤ x ∧ x ≤ 9223372036854775807) : IntKind.i64.wrap x = x := by
  rw [IntKind.wrap_i64]; omega

set_option maxRecDepth 100000 in
set_option maxHeartbeats 800000 in
theorem specGet_short (b off l1 c1 p n : Nat) (z1 : List Int) (w : World) (h1 : Row w (some ⟨b, off, none⟩) l1 c1 z1) (hc : ∀ i, i < l1 → w.cell? ⟨b, off + i, none⟩ = some (.int .u8 (z1.getD i 0))) (hs : l1 ≤ 3000000) (hp : p + 1 < l1)
    (hx : z1.getD (p + 1) 0 = n) (hn : n < 128) (hfit : n + (p + 2) ≤ l1) : SpecGet (some ⟨b, off, none⟩) l1 c1 z1 p w := by
  have s1 := h1.size
  have e : getTlv z1 p = (z1.getD p 0, (z1.drop (p + 2)).take n, ((p + 2 : Nat) : Int) + n, true) := getTlv_yes z1 p n (p + 2) (by omega) (by rw [lenAt_short z1 (p + 1) n (by omega) hx (by omega)]; rfl) (by omega)
  unfold SpecGet
  rw [e]; clear e
  have cx := hc (p + 1) (by omega)
  rw [hx] at cx
  have c0 := hc p (by omega)
  have b0 := getD_byte h1.byte p
  have hle := h1.le
  obtain ⟨ad, had, hcut⟩ : ∃ ad, ad = (if c1 = p + 2 then off else off + (p + 2)) ∧ Row w (some ⟨b, ad, none⟩) n (c1 - (p + 2)) ((z1.drop (p + 2)).take n) := ⟨_, rfl, h1.cut hc (p + 2) n (by omega) _ _ rfl (by intro hn0; rw [if_neg (by omega)]) (by intro h; cases h)⟩
  generalize z1.getD p 0 = y at *
  have HB : b < w.heap.size := block_lt c0
  clear hc h1 hx
  have g2 : (p : Int) + 2 + n ≤ c1 := by omega
  have g0 : (0 : Int) ≤ (p : Int) + 2 + n := by omega
  have g1 : (p : Int) + 2 ≤ max ((p : Int) + 2 + n) 0 := by omega
  have g3 : (0 : Int) ≤ (p : Int) + 2 := by omega
  have g4 : (p : Int) + 2 ≤ (p : Int) + 2 + n := by omega
  have hw := wrap_in ((p : Int) + 2 + n) (by omega)
  have hq1 : ((p : Int) + 2).toNat = p + 2 := by omega
  have hq2 : ((p : Int) + 2 + n).toNat = p + 2 + n := by omega
  have hq3 : p + 2 + n - (p + 2) = n := by omega
  by_cases hcf : c1 = p + 2
  · subst hcf
    rw [if_pos rfl] at had
    subst had
    obtain rfl : n = 0 := by omega
    rw [Nat.sub_self] at hcut
    clear g0 g1 g2 g4 hw hq2 hq3
    have hw := wrap_in ((p : Int) + 2) (by omega)
    have g1 : (p : Int) + 2 ≤ max ((p : Int) + 2) 0 := by omega
    have HR := hide hcut
    clear hcut
    go_enter Tryz.func40, Tryz.ntmps40
    go_wp2
    go_region_law (refine step_append_row rfl _ _ 22 rfl w.heap.size Tryz.underlying22 Tryz.infoU8 _ 0 [] rfl (World.ownsRow_lit w #[] 0 (Nat.le_refl _) (Nat.zero_le _) rfl).drew byte_nil _ _ _ ((z1.drop (p + 2)).take 0) rfl (HR.out.below ((Below.refl _ _).alloc (Nat.le_refl _) _).drew) (by omega) (by simp) ?_; intro ao2 cp2 w2 how2 row2 hb2; have cx2 := (hb2.cell (p := ⟨b, ad + p, none⟩) HB))
    all_goals
      go_wp2
      refine bodyPost_ret (v := .tuple #[.int .i64 y, .slice ao2 (0 + 0) cp2, .int .i64 ((p + 2 : Nat) : Int), .bool true]) (by simp [results, Tryz.results40, go_sem, wrap_small y b0]) rfl ⟨_, _, _, rfl, by simpa using how2, ?_⟩
      exact (((Below.refl _ _).alloc (Nat.le_refl _) _).drew).trans hb2
  · rw [if_neg hcf] at had
    subst had
    have HR := hide hcut
    clear hcut
    go_enter Tryz.func40, Tryz.ntmps40
    go_wp2
    go_region_law (refine step_append_row rfl _ _ 22 rfl w.heap.size Tryz.underlying22 Tryz.infoU8 _ 0 [] rfl (World.ownsRow_lit w #[] 0 (Nat.le_refl _) (Nat.zero_le _) rfl).drew byte_nil _ _ _ ((z1.drop (p + 2)).take n) rfl (HR.out.below ((Below.refl _ _).alloc (Nat.le_refl _) _).drew) (by omega) (by simp) ?_; intro ao2 cp2 w2 how2 row2 hb2; have cx2 := (hb2.cell (p := ⟨b, off + p, none⟩) HB))
    all_goals
      go_wp2
      refine bodyPost_ret (v := .tuple #[.int .i64 y, .slice ao2 (0 + n) cp2, .int .i64 ((p : Int) + 2 + n), .bool true]) (by simp [results, Tryz.results40, go_sem, wrap_small y b0]) rfl ⟨_, _, _, rfl, by simpa using how2, ?_⟩
      exact (((Below.refl _ _).alloc (Nat.le_refl _) _).drew).trans hb2

set_option maxRecDepth 100000 in
set_option maxHeartbeats 800000 in
theorem specGet_long (b off l1 c1 p n : Nat) (z1 : List Int) (w : World) (h1 : Row w (some ⟨b, off, none⟩) l1 c1 z1) (hc : ∀ i, i < l1 → w.cell? ⟨b, off + i, none⟩ = some (.int .u8 (z1.getD i 0))) (hs : l1 ≤ 3000000) (hp : p + 2 < l1)
    (hx : z1.getD (p + 1) 0 = 129) (hy : z1.getD (p + 2) 0 = n) (hn0 : 128 ≤ n) (hn : n ≤ 250) (hfit : n + (p + 3) ≤ l1) : SpecGet (some ⟨b, off, none⟩) l1 c1 z1 p w := by
  have s1 := h1.size
  have e : getTlv z1 p = (z1.getD p 0, (z1.drop (p + 3)).take n, ((p + 3 : Nat) : Int) + n, true) := getTlv_yes z1 p n (p + 3) (by omega) (by rw [lenAt_long z1 (p + 1) n (by omega) hx hy, decide_eq_true (by omega), decide_eq_true (by omega)]; rfl) (by omega)
  unfold SpecGet
  rw [e]; clear e
  have cx := hc (p + 1) (by omega)
  rw [hx] at cx
  have cy := hc (p + 2) (by omega)
  rw [hy] at cy
  have c0 := hc p (by omega)
  have b0 := getD_byte h1.byte p
  have hle := h1.le
  obtain ⟨ad, had, hcut⟩ : ∃ ad, ad = (if c1 = p + 3 then off else off + (p + 3)) ∧ Row w (some ⟨b, ad, none⟩) n (c1 - (p + 3)) ((z1.drop (p + 3)).take n) := ⟨_, rfl, h1.cut hc (p + 3) n (by omega) _ _ rfl (by intro hn0; rw [if_neg (by omega)]) (by intro h; cases h)⟩
  generalize z1.getD p 0 = y at *
  have HB : b < w.heap.size := block_lt c0
  clear hc h1 hx hy
  have g2 : (p : Int) + 2 + 1 + n ≤ c1 := by omega
  have g0 : (0 : Int) ≤ (p : Int) + 2 + 1 + n := by omega
  have g1 : (p : Int) + 2 + 1 ≤ max ((p : Int) + 2 + 1 + n) 0 := by omega
  have g3 : (0 : Int) ≤ (p : Int) + 2 + 1 := by omega
  have g4 : (p : Int) + 2 + 1 ≤ (p : Int) + 2 + 1 + n := by omega
  have hw := wrap_in ((p : Int) + 2 + 1 + n) (by omega)
  have hq1 : ((p : Int) + 2 + 1).toNat = p + 3 := by omega
  have hq2 : ((p : Int) + 2 + 1 + n).toNat = p + 3 + n := by omega
  have hq3 : p + 3 + n - (p + 3) = n := by omega
  have hcf : ¬ c1 = p + 3 := by omega
  rw [if_neg hcf] at had
  subst had
  have HR := hide hcut
  clear hcut
  go_enter Tryz.func40, Tryz.ntmps40
  go_wp2
  go_region_law (refine step_append_row rfl _ _ 22 rfl w.heap.size Tryz.underlying22 Tryz.infoU8 _ 0 [] rfl (World.ownsRow_lit w #[] 0 (Nat.le_refl _) (Nat.zero_le _) rfl).drew byte_nil _ _ _ ((z1.drop (p + 3)).take n) rfl (HR.out.below ((Below.refl _ _).alloc (Nat.le_refl _) _).drew) (by omega) (by simp) ?_; intro ao2 cp2 w2 how2 row2 hb2; have cx2 := (hb2.cell (p := ⟨b, off + p, none⟩) HB))
  all_goals
    go_wp2
    refine bodyPost_ret (v := .tuple #[.int .i64 y, .slice ao2 (0 + n) cp2, .int .i64 ((p : Int) + 2 + 1 + n), .bool true]) (by simp [results, Tryz.results40, go_sem, wrap_small y b0]) rfl ⟨_, _, _, rfl, by simpa using how2, ?_⟩
    exact (((Below.refl _ _).alloc (Nat.le_refl _) _).drew).trans hb2

theorem specGet_any (a1 : Option Addr) (l1 c1 : Nat) (z1 : List Int) (t : Int) (w : World) (h1 : Row w a1 l1 c1 z1) (hs : l1 ≤ 3000000) : SpecGet a1 l1 c1 z1 t w := by
  by_cases k : t < 0 ∨ (l1 : Int) ≤ t + 1
  · exact specGet_out a1 l1 c1 z1 t w h1 hs k
  · have s1 := h1.size
    obtain ⟨p, rfl⟩ : ∃ p : Nat, t = p := ⟨t.toNat, by omega⟩
    obtain ⟨b, off, rfl, hc⟩ := h1.at (by omega)
    by_cases hno : (lenAt z1 (p + 1)).2.2 = true ∧ (lenAt z1 (p + 1)).1 ≤ z1.length - (lenAt z1 (p + 1)).2.1
    · have bx := getD_byte h1.byte (p + 1)
      have b2 := getD_byte h1.byte (p + 2)
      by_cases k1 : z1.getD (p + 1) 0 < 128
      · rw [lenAt_short z1 (p + 1) _ (by omega) rfl k1] at hno
        have := hno.2
        simp only at this
        exact specGet_short b off l1 c1 p (z1.getD (p + 1) 0).toNat z1 w h1 hc hs (by omega) (by omega) (by omega) (by omega)
      · by_cases k2 : z1.getD (p + 1) 0 = 129
        · by_cases k3 : p + 2 < l1
          · rw [lenAt_long z1 (p + 1) (z1.getD (p + 2) 0) (by omega) k2 rfl] at hno
            have h1' := hno.1
            have h2' := hno.2
            simp only [Bool.and_eq_true, decide_eq_true_eq] at h1'
            simp only at h2'
            exact specGet_long b off l1 c1 p (z1.getD (p + 2) 0).toNat z1 w h1 hc hs (by omega) k2 (by omega) (by omega) (by omega) (by omega)
          · rw [lenAt_cut z1 (p + 1) (by omega) k2 (by omega)] at hno
            exact absurd hno.1 (by simp)
        · rw [lenAt_other z1 (p + 1) _ (by omega) rfl k1 k2] at hno
          exact absurd hno.1 (by simp)
    · exact specGet_bad b off l1 c1 p z1 w h1 hc hs (by omega) hno

theorem getTlv_byte (z : List Int) (t : Int) (hz : Byt z) : Byt (getTlv z t).2.1 := by
  unfold getTlv
  split
  · exact byte_nil
  · split
    · exact fun x hx => hz x (List.mem_of_mem_drop (List.mem_of_mem_take hx))
    · exact byte_nil
theorem getTlv_length (z : List Int) (t : Int) : (getTlv z t).2.1.length ≤ z.length := by
  unfold getTlv
  split
  · simp
  · split
    · simp; omega
    · simp

theorem madeT_of {w w' : World} {e : Ending} {r1 r3 : Int} {r4 : Bool} {P : List Int} (hP : Byt P) (h : ∃ ao n cap, e = .returned (.tuple #[.int .i64 r1, .slice ao n cap, .int .i64 r3, .bool r4]) ∧ w'.ownsRow w.heap.size 5 1 (.slice ao n cap) n (cB P) ∧ Below w.heap.size w w') :
    ∃ ao cap, e = .returned (.tuple #[.int .i64 r1, .slice ao P.length cap, .int .i64 r3, .bool r4]) ∧ w'.ownsRow w.heap.size 5 1 (.slice ao P.length cap) P.length (cB P) ∧ Row w' ao P.length cap P ∧ Below w.heap.size w w' := by
  obtain ⟨ao, n, cap, rfl, ho, hb⟩ := h
  have hn : P.length = n := by have := ho.1; simpa [cB] using this
  subst hn
  exact ⟨ao, cap, rfl, ho, row_own ho hP, hb⟩

theorem specGet_made (a1 : Option Addr) (l1 c1 : Nat) (z1 : List Int) (t : Int) (r1 r3 : Int) (r4 : Bool) (P : List Int) (hG : getTlv z1 t = (r1, P, r3, r4)) (w : World) (h1 : Row w a1 l1 c1 z1) (hs : l1 ≤ 3000000) :
    Calls Tryz.prog 40 #[.slice a1 l1 c1, .int .i64 t] w fun e w' => ∃ ao cap, e = .returned (.tuple #[.int .i64 r1, .slice ao P.length cap, .int .i64 r3, .bool r4]) ∧
      w'.ownsRow w.heap.size 5 1 (.slice ao P.length cap) P.length (cB P) ∧ Row w' ao P.length cap P ∧ Below w.heap.size w w' := by
  have hP : Byt P := by have := getTlv_byte z1 t h1.byte; rw [hG] at this; exact this
  have K := specGet_any a1 l1 c1 z1 t w h1 hs
  unfold SpecGet at K
  rw [hG] at K
  exact K.mono fun e w' h => madeT_of hP h

theorem implGet_made (a1 : Option Addr) (l1 c1 : Nat) (z1 : List Int) (t : Int) (r1 r3 : Int) (r4 : Bool) (P : List Int) (hG : getTlv z1 t = (r1, P, r3, r4)) (w : World) (h1 : Row w a1 l1 c1 z1) (hs : l1 ≤ 3000000) :
    Calls Tryz.prog 112 #[.slice a1 l1 c1, .int .i64 t] w fun e w' => ∃ ao cap, e = .returned (.tuple #[.int .i64 r1, .slice ao P.length cap, .int .i64 r3, .bool r4]) ∧
      w'.ownsRow w.heap.size 5 1 (.slice ao P.length cap) P.length (cB P) ∧ Row w' ao P.length cap P ∧ Below w.heap.size w w' := by
  have hP : Byt P := by have := getTlv_byte z1 t h1.byte; rw [hG] at this; exact this
  have K := implGet_any a1 l1 c1 z1 t w h1 hs
  rw [hG] at K
  exact K.mono fun e w' h => madeT_of hP h

/-- A byte with its sign. -/
def sgn (b : Int) : Int := if 127 < b then b - 256 else b
/-- The number of the first k + 1 bytes. -/
def val (zs : List Int) : Nat → Int
  | 0 => sgn (zs.getD 0 0)
  | k + 1 => val zs k * 256 + zs.getD (k + 1) 0

theorem wrap8_neg (x : Int) (h : 0 ≤ x ∧ x ≤ 255) (k : 127 < x) : wrap64 (IntKind.i8.wrap x) = x - 256 := by
  have e : IntKind.i8.wrap x = x - 256 := by
    simp [IntKind.wrap, IntKind.bits, IntKind.signed]; omega
  rw [e]; exact Go.IntWalk.wrap64_in _ (by omega)

theorem signed_any (x : Int) (w : World) (h : 0 ≤ x ∧ x ≤ 255) : Calls Tryz.prog 113 #[.int .u8 x] w fun e w' => e = .returned (.int .i64 (sgn x)) ∧ w' = w := by
  by_cases k : 127 < x
  · go_enter Tryz.func113, Tryz.ntmps113
    go_wp2
    go_ret
    exact ⟨ret_int (by rw [wrap8_neg x h k]; simp [sgn, k]), rfl⟩
  · go_enter Tryz.func113, Tryz.ntmps113
    go_wp2
    go_ret
    exact ⟨ret_int (by unfold sgn; rw [if_neg (by omega)]), rfl⟩

theorem or_byte (n x : Int) (hn : -36028797018963968 ≤ n ∧ n ≤ 36028797018963967) (hx : 0 ≤ x ∧ x ≤ 255) : bits .or .i64 (n * 256) x = n * 256 + x := by
  have e1 : (BitVec.ofInt 64 (n * 256)).toNat = 2 ^ 8 * (n % 72057594037927936).toNat := by
    rw [BitVec.toNat_ofInt]
    have : ((n * 256) % ((2 ^ 64 : Nat) : Int)) = 256 * (n % 72057594037927936) := by
      have : ((2 ^ 64 : Nat) : Int) = 18446744073709551616 := by decide
      rw [this]; omega
    rw [this]; omega
  have e2 : (BitVec.ofInt 64 x).toNat = x.toNat := by
    rw [BitVec.toNat_ofInt]
    have : ((2 ^ 64 : Nat) : Int) = 18446744073709551616 := by decide
    rw [this]; omega
  have e3 : ((BitVec.ofInt 64 (n * 256)) ||| (BitVec.ofInt 64 x)).toNat = 2 ^ 8 * (n % 72057594037927936).toNat + x.toNat := by
    rw [BitVec.toNat_or, e1, e2, Nat.two_pow_add_eq_or_of_lt (by omega)]
  show IntKind.i64.wrap (((BitVec.ofInt 64 (n * 256)) ||| (BitVec.ofInt 64 x)).toNat : Int) = _
  rw [e3, IntKind.wrap_i64]
  simp only [Nat.reducePow]
  omega

theorem val_fits {zs : List Int} (hz : Byt zs) (k : Nat) : Fits k (val zs k) := by
  induction k with
  | zero =>
    have := hz.at 0
    unfold Fits val sgn
    simp only [Int.pow_zero]
    split <;> omega
  | succ k ih =>
    have := hz.at (k + 1)
    unfold Fits at *
    unfold val
    rw [Int.pow_succ]
    generalize (256 : Int) ^ k = p at *
    omega

theorem val_bd {zs : List Int} (hz : Byt zs) (k : Nat) (hk : k ≤ 3) : -2147483648 ≤ val zs k ∧ val zs k ≤ 2147483647 := by
  have h := val_fits hz k
  unfold Fits at h
  have hk' : k = 0 ∨ k = 1 ∨ k = 2 ∨ k = 3 := by omega
  rcases hk' with rfl | rfl | rfl | rfl <;> simp at h <;> omega

/-- What GetInt answers. -/
def getInt (zs : List Int) : Int × Bool :=
  if zs.length = 0 ∨ 4 < zs.length then (0, false)
  else if (putInt (val zs (zs.length - 1))).length = zs.length then (val zs (zs.length - 1), true)
  else (0, false)

theorem ret_two {a a' : Int} {c c' : Bool} (ha : a = a') (hc : c = c') : Ending.returned (.tuple #[.int .i64 a, .bool c]) = .returned (.tuple #[.int .i64 a', .bool c']) := by rw [ha, hc]

set_option maxRecDepth 100000 in
set_option maxHeartbeats 400000 in
theorem specGetInt_any (a1 : Option Addr) (l1 c1 : Nat) (z1 : List Int) (w : World) (h1 : Row w a1 l1 c1 z1) (hs : l1 ≤ 16777216) :
    Calls Tryz.prog 72 #[.slice a1 l1 c1] w fun e w' => e = .returned (.tuple #[.int .i64 (getInt z1).1, .bool (getInt z1).2]) ∧ Below w.heap.size w w' := by
  have s1 := h1.size
  by_cases k0 : l1 = 0
  · have e : getInt z1 = (0, false) := by unfold getInt; rw [if_pos (.inl (by omega))]
    rw [e]; clear e
    subst k0
    go_enter Tryz.func72, Tryz.ntmps72
    go_wp2
    go_ret2
    exact ⟨rfl, Below.refl _ _⟩
  by_cases k1 : 4 < l1
  · have e : getInt z1 = (0, false) := by unfold getInt; rw [if_pos (.inr (by omega))]
    rw [e]; clear e
    have i1 : (1 : Int) ≤ l1 := by omega
    have i2 : ¬ (l1 : Int) ≤ 4 := by omega
    go_enter Tryz.func72, Tryz.ntmps72
    go_wp2
    go_ret2
    exact ⟨rfl, Below.refl _ _⟩
  have hby := h1.byte
  obtain ⟨b, off, rfl, hc⟩ := h1.at (by omega)
  have HC := hide hc
  have i1 : (1 : Int) ≤ l1 := by omega
  have i2 : (l1 : Int) ≤ 4 := by omega
  have c0 := hc 0 (by omega)
  rw [Nat.add_zero] at c0
  have b0 := hby.at 0
  have v0 : val z1 0 = sgn (z1.getD 0 0) := rfl
  unfold sgn at v0
  generalize z1.getD 0 0 = x0 at *
  have V0 := hide v0
  clear v0 hc h1
  by_cases hx : 127 < x0
  all_goals
    go_enter Tryz.func72, Tryz.ntmps72
    go_wp2
    go_loop [4, 5] (fun m i => ∃ k : Nat, k + 1 ≤ l1 ∧ i = .int .i64 ((k + 1 : Nat) : Int) ∧ m = .int .i64 (val z1 k)) (fun _ i => 5 - (intOf i).toNat)
    case atStart => exact ⟨0, by omega, rfl, by rw [V0.out]; simp; omega⟩
    case round =>
      obtain ⟨k, hk, rfl, rfl⟩ := hrel
      have hv := val_bd hby k (by omega)
      by_cases hlt : k + 1 < l1
      · have cx := HC.out (k + 1) hlt
        have bx := hby.at (k + 1)
        have e : val z1 (k + 1) = val z1 k * 256 + z1.getD (k + 1) 0 := rfl
        have ho := or_byte (val z1 k) (z1.getD (k + 1) 0) (by omega) bx
        rw [← e] at ho
        have i3 : ((k + 1 : Nat) : Int) < l1 := by omega
        have HO := hide ho
        clear ho e
        generalize z1.getD (k + 1) 0 = y at *
        generalize val z1 k = v at *
        go_wp2
        go_round
        case rel => exact ⟨k + 1, by omega, by go_num, by rw [HO.out]⟩
        case measure => simp [intOf]; omega
      · have hk' : k = z1.length - 1 := by omega
        have e : getInt z1 = (if (putInt (val z1 k)).length = l1 then (val z1 k, true) else (0, false)) := by unfold getInt; rw [if_neg (by omega), ← hk', s1]
        generalize val z1 k = v at *
        have hpl := putInt_length v
        obtain ⟨P, hP⟩ : ∃ P, putInt v = P := ⟨_, rfl⟩
        rw [hP] at hpl e
        have HP := hide hP
        have HE := hide e
        clear hP e
        have i3 : ¬ ((k + 1 : Nat) : Int) < l1 := by omega
        go_wp2_with fail
        refine (specInt_made v P HP.out _).mono ?_
        rintro e w1 ⟨ao1, cp1, rfl, -, -, hb1⟩
        by_cases hq : P.length = l1
        · have hne : ((P.length : Int) != (l1 : Int)) = false := by simp; omega
          have HQ := hide hq
          clear hq
          go_wp2
          go_ret2
          exact ⟨ret_two (by rw [HE.out, if_pos HQ.out]) (by rw [HE.out, if_pos HQ.out]), hb1⟩
        · have hne : ((P.length : Int) != (l1 : Int)) = true := by simp; omega
          go_wp2
          go_ret2
          exact ⟨ret_two (by rw [HE.out, if_neg hq]) (by rw [HE.out, if_neg hq]), hb1⟩

theorem putInt_len (v : Int) (h : -2147483648 ≤ v ∧ v ≤ 2147483647) : (putInt v).length = if -128 ≤ v ∧ v ≤ 127 then 1 else if -32768 ≤ v ∧ v ≤ 32767 then 2 else if -8388608 ≤ v ∧ v ≤ 8388607 then 3 else 4 := by
  have hc : clip v = v := by unfold clip; rw [if_neg (by omega), if_neg (by omega)]
  unfold putInt
  rw [hc]
  by_cases k1 : v < -128 ∨ 127 < v
  · rw [if_neg (by omega)]
    by_cases k2 : v / 256 < -128 ∨ 127 < v / 256
    · rw [if_neg (by omega)]
      by_cases k3 : v / 256 / 256 < -128 ∨ 127 < v / 256 / 256
      · rw [if_neg (by omega)]; simp [ints, k1, k2, k3]
      · rw [if_pos (by omega)]; simp [ints, k1, k2, k3]
    · rw [if_pos (by omega)]; simp [ints, k1, k2]
  · rw [if_pos (by omega)]; simp [ints, k1]

/-- Whether the first byte only repeats the second one's sign. -/
def Needless (zs : List Int) : Prop := 1 < zs.length ∧ sgn (zs.getD 0 0) = sgn (zs.getD 1 0) / 128

theorem needless_iff (zs : List Int) (hz : Byt zs) (h0 : zs.length ≠ 0) (h4 : ¬ 4 < zs.length) : (putInt (val zs (zs.length - 1))).length = zs.length ↔ ¬ Needless zs := by
  have b0 := hz.at 0; have b1 := hz.at 1; have b2 := hz.at 2; have b3 := hz.at 3
  rw [putInt_len _ (val_bd hz _ (by omega))]
  unfold Needless
  generalize hl : zs.length = l at *
  have hk : l = 1 ∨ l = 2 ∨ l = 3 ∨ l = 4 := by omega
  rcases hk with rfl | rfl | rfl | rfl
  all_goals
    simp only [val, Nat.reduceSub, Nat.reduceAdd]
    generalize zs.getD 0 0 = x0 at *
    generalize zs.getD 1 0 = x1 at *
    generalize zs.getD 2 0 = x2 at *
    generalize zs.getD 3 0 = x3 at *
    unfold sgn
    repeat' split
    all_goals omega

set_option maxRecDepth 100000 in
set_option maxHeartbeats 400000 in
theorem implGetInt_any (a1 : Option Addr) (l1 c1 : Nat) (z1 : List Int) (w : World) (h1 : Row w a1 l1 c1 z1) (hs : l1 ≤ 16777216) :
    Calls Tryz.prog 89 #[.slice a1 l1 c1] w fun e w' => e = .returned (.tuple #[.int .i64 (getInt z1).1, .bool (getInt z1).2]) ∧ w' = w := by
  have s1 := h1.size
  by_cases k0 : l1 = 0
  · have e : getInt z1 = (0, false) := by unfold getInt; rw [if_pos (.inl (by omega))]
    rw [e]; clear e
    subst k0
    go_enter Tryz.func89, Tryz.ntmps89
    go_wp2
    go_ret2
    exact ⟨rfl, rfl⟩
  by_cases k1 : 4 < l1
  · have e : getInt z1 = (0, false) := by unfold getInt; rw [if_pos (.inr (by omega))]
    rw [e]; clear e
    have i1 : ((l1 : Int) == 0) = false := by simp; omega
    have i2 : (4 : Int) < l1 := by omega
    go_enter Tryz.func89, Tryz.ntmps89
    go_wp2
    go_ret2
    exact ⟨rfl, rfl⟩
  have hby := h1.byte
  have hle := h1.le
  have hiff := needless_iff z1 hby (by omega) (by omega)
  rw [s1] at hiff
  have eN : Needless z1 → getInt z1 = (0, false) := fun hn => by unfold getInt; rw [if_neg (by omega), s1, if_neg (fun h => hiff.1 h hn)]
  have eY : ¬ Needless z1 → getInt z1 = (val z1 (l1 - 1), true) := fun hn => by unfold getInt; rw [if_neg (by omega), s1, if_pos (hiff.2 hn)]
  have EN := hide eN
  have EY := hide eY
  clear eN eY hiff
  obtain ⟨b, off, rfl, hc⟩ := h1.at (by omega)
  have HC := hide hc
  have i1 : ((l1 : Int) == 0) = false := by simp; omega
  have i2 : ¬ (4 : Int) < l1 := by omega
  have c0 := hc 0 (by omega)
  rw [Nat.add_zero] at c0
  have b0 := hby.at 0
  have b1 := hby.at 1
  have v0 : val z1 0 = sgn (z1.getD 0 0) := rfl
  have V0 := hide v0
  clear v0 hc h1
  by_cases k2 : 1 < l1
  · have c1' := HC.out 1 k2
    have i3 : (1 : Int) < l1 := by omega
    have i4 : (1 : Int) ≤ l1 := by omega
    have hcc : ¬ c1 = 1 := by omega
    by_cases hn : sgn (z1.getD 0 0) = sgn (z1.getD 1 0) / 128
    · have HN := hide (EN.out ⟨by omega, hn⟩)
      have hb : (sgn (z1.getD 0 0) == sgn (z1.getD 1 0) / 128) = true := by simpa using hn
      clear EN EY hn V0
      generalize z1.getD 0 0 = x0 at *
      generalize z1.getD 1 0 = x1 at *
      go_enter Tryz.func89, Tryz.ntmps89
      go_wp2_with (go_at_call 113; refine (signed_any _ _ (by omega)).mono ?_; rintro e w' ⟨rfl, rfl⟩)
      go_ret2
      exact ⟨ret_two (by rw [HN.out]) (by rw [HN.out]), rfl⟩
    · have HN := hide (EY.out (fun h => hn h.2))
      have hb : (sgn (z1.getD 0 0) == sgn (z1.getD 1 0) / 128) = false := by simpa using hn
      clear EN EY hn
      generalize z1.getD 0 0 = x0 at *
      generalize z1.getD 1 0 = x1 at *
      go_enter Tryz.func89, Tryz.ntmps89
      go_wp2_with (go_at_call 113; refine (signed_any _ _ (by omega)).mono ?_; rintro e w' ⟨rfl, rfl⟩)
      go_loop [4, 34] (fun m i => ∃ k : Nat, k ≤ l1 - 1 ∧ i = .int .i64 k ∧ m = .int .i64 (val z1 k)) (fun _ i => 5 - (intOf i).toNat)
      case atStart => exact ⟨0, by omega, rfl, by rw [V0.out]⟩
      case round =>
        obtain ⟨k, hk, rfl, rfl⟩ := hrel
        have hv := val_bd hby k (by omega)
        by_cases hlt : k < l1 - 1
        · have cx := HC.out (k + 1) (by omega)
          rw [show off + (k + 1) = off + 1 + k from by omega] at cx
          have bx := hby.at (k + 1)
          have e : val z1 (k + 1) = val z1 k * 256 + z1.getD (k + 1) 0 := rfl
          have ho := or_byte (val z1 k) (z1.getD (k + 1) 0) (by omega) bx
          rw [← e] at ho
          have HO := hide ho
          clear ho e
          generalize z1.getD (k + 1) 0 = y at *
          generalize val z1 k = v at *
          go_wp2
          go_round
          case rel => exact ⟨k + 1, by omega, by go_num, by rw [HO.out]⟩
          case measure => simp [intOf]; omega
        · have hk' : k = l1 - 1 := by omega
          subst hk'
          go_wp2
          go_ret2
          exact ⟨ret_two (by rw [HN.out]) (by rw [HN.out]), rfl⟩
  · obtain rfl : l1 = 1 := by omega
    have HN := hide (EY.out (fun h => by have := h.1; omega))
    clear EN EY
    generalize z1.getD 0 0 = x0 at *
    by_cases hcc : c1 = 1
    all_goals
      go_enter Tryz.func89, Tryz.ntmps89
      go_wp2_with (go_at_call 113; refine (signed_any _ _ (by omega)).mono ?_; rintro e w' ⟨rfl, rfl⟩)
      go_loop [4, 34] (fun m i => i = .int .i64 0 ∧ m = .int .i64 (val z1 0)) (fun _ _ => 0)
      case atStart => exact ⟨rfl, by rw [V0.out]⟩
      case round =>
        obtain ⟨rfl, rfl⟩ := hrel
        go_wp2
        go_ret2
        exact ⟨ret_two (by rw [HN.out]) (by rw [HN.out]), rfl⟩

theorem sgn_mod (v : Int) (h : -128 ≤ v ∧ v ≤ 127) : sgn (v % 256) = v := by unfold sgn; split <;> omega

/-- A number comes back of its bytes. -/
theorem int_back (n : Int) : getInt (putInt n) = (clip n, true) := by
  have hc := clip_bd n
  have e : putInt n = ints 3 (clip n) [clip n % 256] := rfl
  rw [e]
  generalize clip n = v at *
  have hv : val (ints 3 v [v % 256]) ((ints 3 v [v % 256]).length - 1) = v ∧ 1 ≤ (ints 3 v [v % 256]).length ∧ (ints 3 v [v % 256]).length ≤ 4 := by
    by_cases k1 : v < -128 ∨ 127 < v
    · by_cases k2 : v / 256 < -128 ∨ 127 < v / 256
      · by_cases k3 : v / 256 / 256 < -128 ∨ 127 < v / 256 / 256
        · simp [ints, k1, k2, k3, val]
          rw [sgn_mod _ (by omega)]; omega
        · simp [ints, k1, k2, k3, val]
          rw [sgn_mod _ (by omega)]; omega
      · simp [ints, k1, k2, val]
        rw [sgn_mod _ (by omega)]; omega
    · simp [ints, k1, val]
      exact sgn_mod _ (by omega)
  obtain ⟨h1, h2, h3⟩ := hv
  have hp : putInt v = ints 3 v [v % 256] := by
    have : clip v = v := by unfold clip; rw [if_neg (by omega), if_neg (by omega)]
    unfold putInt; rw [this]
  unfold getInt
  rw [if_neg (by omega), h1, hp, if_pos rfl]

/-- What is read has these bytes. -/
theorem int_read (z : List Int) (hz : Byt z) (y : Int) (h : getInt z = (y, true)) : putInt y = z := by
  unfold getInt at h
  by_cases h0 : z.length = 0 ∨ 4 < z.length
  · rw [if_pos h0] at h; simp at h
  rw [if_neg h0] at h
  by_cases h1 : (putInt (val z (z.length - 1))).length = z.length
  · rw [if_pos h1] at h
    simp only [Prod.mk.injEq, and_true] at h
    subst h
    have hb := val_bd hz (z.length - 1) (by omega)
    rw [putInt_len _ hb] at h1
    have hc : ∀ v : Int, -2147483648 ≤ v ∧ v ≤ 2147483647 → putInt v = ints 3 v [v % 256] := fun v hv => by
      have : clip v = v := by unfold clip; rw [if_neg (by omega), if_neg (by omega)]
      unfold putInt; rw [this]
    rw [hc _ hb]
    have b0 := hz.at 0; have b1 := hz.at 1; have b2 := hz.at 2; have b3 := hz.at 3
    match z, hz, h0, h1, hb, b0, b1, b2, b3 with
    | [], _, h0, _, _, _, _, _, _ => simp at h0
    | [x0], _, _, h1, _, b0, _, _, _ =>
      simp [val] at *
      generalize hs : sgn x0 = s0 at *
      have : (s0 = x0 ∧ x0 ≤ 127) ∨ (s0 = x0 - 256 ∧ 127 < x0) := by rw [← hs]; unfold sgn; split <;> omega
      have k1 : ¬ (s0 < -128 ∨ 127 < s0) := by omega
      simp [ints, k1]; omega
    | [x0, x1], _, _, h1, _, b0, b1, _, _ =>
      simp [val] at *
      generalize hs : sgn x0 = s0 at *
      have : (s0 = x0 ∧ x0 ≤ 127) ∨ (s0 = x0 - 256 ∧ 127 < x0) := by rw [← hs]; unfold sgn; split <;> omega
      have k0 : ¬ (-128 ≤ s0 * 256 + x1 ∧ s0 * 256 + x1 ≤ 127) := by intro h; rw [if_pos h] at h1; omega
      have k1 : s0 * 256 + x1 < -128 ∨ 127 < s0 * 256 + x1 := by omega
      have k2 : ¬ ((s0 * 256 + x1) / 256 < -128 ∨ 127 < (s0 * 256 + x1) / 256) := by omega
      simp [ints, k1, k2]; omega
    | [x0, x1, x2], _, _, h1, _, b0, b1, b2, _ =>
      simp [val] at *
      generalize hs : sgn x0 = s0 at *
      have : (s0 = x0 ∧ x0 ≤ 127) ∨ (s0 = x0 - 256 ∧ 127 < x0) := by rw [← hs]; unfold sgn; split <;> omega
      generalize hv : (s0 * 256 + x1) * 256 + x2 = v at *
      have k0 : ¬ (-32768 ≤ v ∧ v ≤ 32767) := by intro h; by_cases h' : -128 ≤ v ∧ v ≤ 127 <;> simp [h, h'] at h1
      have k1 : v < -128 ∨ 127 < v := by omega
      have k2 : v / 256 < -128 ∨ 127 < v / 256 := by omega
      have k3 : ¬ (v / 256 / 256 < -128 ∨ 127 < v / 256 / 256) := by omega
      simp [ints, k1, k2, k3]; omega
    | [x0, x1, x2, x3], _, _, h1, _, b0, b1, b2, b3 =>
      simp [val] at *
      generalize hs : sgn x0 = s0 at *
      have : (s0 = x0 ∧ x0 ≤ 127) ∨ (s0 = x0 - 256 ∧ 127 < x0) := by rw [← hs]; unfold sgn; split <;> omega
      generalize hv : ((s0 * 256 + x1) * 256 + x2) * 256 + x3 = v at *
      have k0 : ¬ (-8388608 ≤ v ∧ v ≤ 8388607) := by intro h; by_cases h' : -128 ≤ v ∧ v ≤ 127 <;> by_cases h'' : -32768 ≤ v ∧ v ≤ 32767 <;> simp [h, h', h''] at h1
      have k1 : v < -128 ∨ 127 < v := by omega
      have k2 : v / 256 < -128 ∨ 127 < v / 256 := by omega
      have k3 : v / 256 / 256 < -128 ∨ 127 < v / 256 / 256 := by omega
      simp [ints, k1, k2, k3]; omega
    | x0 :: x1 :: x2 :: x3 :: x4 :: r, _, h0, _, _, _, _, _, _ => simp at h0
  · rw [if_neg h1] at h; simp at h

theorem getD_left (a b : List Int) (i : Nat) (h : i < a.length) : (a ++ b).getD i 0 = a.getD i 0 := by
  simp [List.getD_eq_getElem?_getD, List.getElem?_append_left h]
theorem getD_take (z : List Int) (k i : Nat) (h : i < k) : (z.take k).getD i 0 = z.getD i 0 := by
  simp [List.getD_eq_getElem?_getD, h]

theorem putTlv_ok (b : List Int) (tag : Int) (body : List Int) (ht : ¬ (tag < 0 ∨ 255 < tag ∨ 250 < body.length)) : putTlv b tag body = b ++ ([tag] ++ lenB body.length ++ body) := by
  unfold putTlv; rw [if_neg ht]

/-- What is put comes back. -/
theorem tlv_back (b : List Int) (tag : Int) (body : List Int) (ht : ¬ (tag < 0 ∨ 255 < tag ∨ 250 < body.length)) :
    getTlv (putTlv b tag body) b.length = (tag, body, ((putTlv b tag body).length : Int), true) := by
  rw [putTlv_ok b tag body ht]
  by_cases hn : body.length < 128
  · have el : lenB body.length = [(body.length : Int)] := by simp [lenB, hn]
    rw [el]
    have e0 : (b ++ ([tag] ++ [(body.length : Int)] ++ body)).getD b.length 0 = tag := by simp
    have e1 : (b ++ ([tag] ++ [(body.length : Int)] ++ body)).getD (b.length + 1) 0 = body.length := by simp
    have hl : (b ++ ([tag] ++ [(body.length : Int)] ++ body)).length = b.length + (body.length + 2) := by simp
    have e2 : ((b ++ ([tag] ++ [(body.length : Int)] ++ body)).drop (b.length + 2)).take body.length = body := by
      have : (b ++ ([tag] ++ [(body.length : Int)] ++ body)) = (b ++ [tag, (body.length : Int)]) ++ body := by simp
      rw [this, List.drop_left' (by simp)]; simp
    generalize hq : b ++ ([tag] ++ [(body.length : Int)] ++ body) = q at *
    rw [getTlv_yes q b.length body.length (b.length + 2) (by omega) (by rw [lenAt_short q (b.length + 1) body.length (by omega) e1 (by omega)]; rfl) (by omega), e0, e2, hl]
    simp; omega
  · have el : lenB body.length = [129, (body.length : Int)] := by simp [lenB, hn]
    rw [el]
    have e0 : (b ++ ([tag] ++ [129, (body.length : Int)] ++ body)).getD b.length 0 = tag := by simp
    have e1 : (b ++ ([tag] ++ [129, (body.length : Int)] ++ body)).getD (b.length + 1) 0 = 129 := by simp
    have e3 : (b ++ ([tag] ++ [129, (body.length : Int)] ++ body)).getD (b.length + 2) 0 = body.length := by simp
    have hl : (b ++ ([tag] ++ [129, (body.length : Int)] ++ body)).length = b.length + (body.length + 3) := by simp
    have e2 : ((b ++ ([tag] ++ [129, (body.length : Int)] ++ body)).drop (b.length + 3)).take body.length = body := by
      have : (b ++ ([tag] ++ [129, (body.length : Int)] ++ body)) = (b ++ [tag, 129, (body.length : Int)]) ++ body := by simp
      rw [this, List.drop_left' (by simp)]; simp
    generalize hq : b ++ ([tag] ++ [129, (body.length : Int)] ++ body) = q at *
    rw [getTlv_yes q b.length body.length (b.length + 3) (by omega) (by rw [lenAt_long q (b.length + 1) body.length (by omega) e1 e3, decide_eq_true (by omega), decide_eq_true (by omega)]; rfl) (by omega), e0, e2, hl]
    simp; omega

/-- Cut it does not. -/
theorem tlv_cut (b : List Int) (tag : Int) (body : List Int) (ht : ¬ (tag < 0 ∨ 255 < tag ∨ 250 < body.length)) :
    getTlv ((putTlv b tag body).take ((putTlv b tag body).length - 1)) b.length = (0, [], 0, false) := by
  rw [putTlv_ok b tag body ht]
  by_cases hn : body.length < 128
  · have el : lenB body.length = [(body.length : Int)] := by simp [lenB, hn]
    rw [el]
    have e1 : (b ++ ([tag] ++ [(body.length : Int)] ++ body)).getD (b.length + 1) 0 = body.length := by simp
    have hl : (b ++ ([tag] ++ [(body.length : Int)] ++ body)).length = b.length + (body.length + 2) := by simp
    generalize hq : b ++ ([tag] ++ [(body.length : Int)] ++ body) = q at *
    have hl2 : (q.take (q.length - 1)).length = b.length + (body.length + 1) := by simp; omega
    refine getTlv_no _ _ ?_
    by_cases h0 : body.length = 0
    · rw [lenAt_out _ _ (by omega)]; simp
    · have e3 : (q.take (q.length - 1)).getD (b.length + 1) 0 = body.length := by rw [getD_take _ _ _ (by omega)]; exact e1
      rw [lenAt_short _ _ _ (by omega) e3 (by omega), hl2]
      simp; omega
  · have el : lenB body.length = [129, (body.length : Int)] := by simp [lenB, hn]
    rw [el]
    have e1 : (b ++ ([tag] ++ [129, (body.length : Int)] ++ body)).getD (b.length + 1) 0 = 129 := by simp
    have e3 : (b ++ ([tag] ++ [129, (body.length : Int)] ++ body)).getD (b.length + 2) 0 = body.length := by simp
    have hl : (b ++ ([tag] ++ [129, (body.length : Int)] ++ body)).length = b.length + (body.length + 3) := by simp
    generalize hq : b ++ ([tag] ++ [129, (body.length : Int)] ++ body) = q at *
    have hl2 : (q.take (q.length - 1)).length = b.length + (body.length + 2) := by simp; omega
    refine getTlv_no _ _ ?_
    have f1 : (q.take (q.length - 1)).getD (b.length + 1) 0 = 129 := by rw [getD_take _ _ _ (by omega)]; exact e1
    have f3 : (q.take (q.length - 1)).getD (b.length + 2) 0 = body.length := by rw [getD_take _ _ _ (by omega)]; exact e3
    rw [lenAt_long _ _ _ (by omega) f1 f3, hl2]
    simp; omega

theorem drop_cons (z : List Int) (p : Nat) (h : p < z.length) : z.drop p = z.getD p 0 :: z.drop (p + 1) := by
  rw [List.drop_eq_getElem_cons h]; simp [h]

/-- What is read has these bytes. -/
theorem tlv_read (z : List Int) (hz : Byt z) (t k next : Int) (x : List Int) (h : getTlv z t = (k, x, next, true)) :
    ∃ p q : Nat, t = p ∧ next = q ∧ p ≤ q ∧ q ≤ z.length ∧ putTlv [] k x = (z.drop p).take (q - p) := by
  by_cases h0 : t < 0 ∨ (z.length : Int) ≤ t
  · unfold getTlv at h; rw [if_pos h0] at h; simp at h
  obtain ⟨p, rfl⟩ : ∃ p : Nat, t = p := ⟨t.toNat, by omega⟩
  by_cases hy : (lenAt z (p + 1)).2.2 = true ∧ (lenAt z (p + 1)).1 ≤ z.length - (lenAt z (p + 1)).2.1
  · obtain ⟨n, f, hl, hn, hf, hf1, hf2⟩ := lenAt_ok hz hy.1
    have hfit : (n : Int) ≤ z.length - f := by have := hy.2; rw [hl] at this; exact this
    rw [getTlv_yes z p n f (by omega) hl hfit] at h
    simp only [Prod.mk.injEq, and_true] at h
    obtain ⟨rfl, rfl, rfl⟩ := h
    have b0 := hz.at p
    have hxl : ((z.drop f).take n).length = n := by simp; omega
    refine ⟨p, f + n, rfl, by omega, by omega, by omega, ?_⟩
    rw [putTlv_ok [] _ _ (by rw [hxl]; omega), hxl, List.nil_append]
    by_cases k1 : z.getD (p + 1) 0 < 128
    · rw [lenAt_short z (p + 1) _ (by omega) rfl k1] at hl
      simp only [Prod.mk.injEq, and_true] at hl
      obtain rfl : f = p + 2 := by omega
      have el : lenB n = [(n : Int)] := by unfold lenB; rw [if_pos (by omega)]
      rw [el, drop_cons z p (by omega), drop_cons z (p + 1) (by omega), show p + 2 + n - p = n + 1 + 1 from by omega, List.take_succ_cons, List.take_succ_cons, hl.1]
      rfl
    · by_cases k2 : z.getD (p + 1) 0 = 129
      · by_cases k3 : p + 2 < z.length
        · rw [lenAt_long z (p + 1) (z.getD (p + 2) 0) (by omega) k2 rfl] at hl
          simp only [Prod.mk.injEq, Bool.and_eq_true, decide_eq_true_eq] at hl
          obtain rfl : f = p + 3 := by omega
          have el : lenB n = [129, (n : Int)] := by unfold lenB; rw [if_neg (by omega)]
          rw [el, drop_cons z p (by omega), drop_cons z (p + 1) (by omega), drop_cons z (p + 1 + 1) (by omega), show p + 3 + n - p = n + 1 + 1 + 1 from by omega, List.take_succ_cons, List.take_succ_cons, List.take_succ_cons, k2, show p + 1 + 1 = p + 2 from rfl, hl.1]
          rfl
        · rw [lenAt_cut z (p + 1) (by omega) k2 (by omega)] at hl
          simp at hl
      · by_cases k3 : p + 1 < z.length
        · rw [lenAt_other z (p + 1) _ k3 rfl k1 k2] at hl
          simp at hl
        · rw [lenAt_out z (p + 1) (by omega)] at hl
          simp at hl
  · rw [getTlv_no z p hy] at h
    simp at h

set_option maxRecDepth 100000 in
set_option maxHeartbeats 400000 in
theorem same_any (a1 : Option Addr) (l1 c1 : Nat) (z1 : List Int) (a2 : Option Addr) (l2 c2 : Nat) (z2 : List Int) (w : World) (h1 : Row w a1 l1 c1 z1) (h2 : Row w a2 l2 c2 z2) :
    Calls Tryz.prog 9 #[.slice a1 l1 c1, .slice a2 l2 c2] w fun e w' => e = .returned (.bool (decide (z1 = z2))) ∧ ∃ n, w' = w.drewN n := by
  have m1 := h1.top; have m2 := h2.top; have s1 := h1.size; have s2 := h2.size; have e1 := h1.le; have e2 := h2.le
  unfold maxLen at m1 m2
  by_cases hl : l1 = l2
  · subst hl
    by_cases h0 : l1 = 0
    · subst h0
      have hz : z1 = z2 := by rw [List.eq_nil_of_length_eq_zero s1, List.eq_nil_of_length_eq_zero s2]
      go_enter Tryz.func9, Tryz.ntmps9
      go_wp2
      go_loop [5] (fun i => i = .int .i64 0) (fun _ => 0)
      case atStart => rfl
      case round =>
        subst hrel
        go_wp2
        go_ret
        exact ⟨by simp, 0, rfl⟩
    · rcases h1.cell with h | ⟨b1, o1, rfl, g1⟩
      · exact absurd h h0
      rcases h2.cell with h | ⟨b2, o2, rfl, g2⟩
      · exact absurd h h0
      clear h1 h2
      have G1 : Hid (∀ i, i < l1 → w.cell? ⟨b1, o1 + i, none⟩ = some (.int .u8 (z1.getD i 0))) := g1
      have G2 : Hid (∀ i, i < l1 → w.cell? ⟨b2, o2 + i, none⟩ = some (.int .u8 (z2.getD i 0))) := g2
      clear g1 g2
      go_enter Tryz.func9, Tryz.ntmps9
      go_wp2
      go_loopw [5] (fun i wr => ∃ k : Nat, k ≤ l1 ∧ i = .int .i64 k ∧ z1.take k = z2.take k ∧ ∃ n, wr = w.drewN n) (fun i _ => l1 - (intOf i).toNat)
      case atStart => exact ⟨0, Nat.zero_le _, rfl, rfl, 0, rfl⟩
      case round =>
        obtain ⟨k, hk, rfl, ht, n, rfl⟩ := hrel
        have HT : Hid (z1.take k = z2.take k) := ht
        clear ht
        by_cases hlt : k < l1
        · have c1 := G1.out k hlt
          have c2 := G2.out k hlt
          generalize hx : z1.getD k 0 = x at c1
          generalize hy : z2.getD k 0 = y at c2
          have HX : Hid (z1.getD k 0 = x) := hx
          have HY : Hid (z2.getD k 0 = y) := hy
          clear hx hy
          by_cases hq : x = y
          · subst hq
            go_wp2
            go_quiet (fail)
            go_wp2
            go_roundw
            case rel => exact ⟨k + 1, by omega, by go_num, by rw [take_succ_getD _ _ (by omega), take_succ_getD _ _ (by omega), HT.out, HX.out, HY.out], _, rfl⟩
            case measure => simp [intOf]; omega
          · have hne : (x != y) = true := by simp [hq]
            go_wp2
            go_quiet (fail)
            go_wp2
            go_ret
            exact ⟨ret_bool (decide_eq_false (ne_at k (by rw [HX.out, HY.out]; exact hq))).symm, _, World.drewN_drewN _ _ _⟩
        · go_wp2
          go_ret
          have hk' : k = l1 := by omega
          exact ⟨ret_bool (decide_eq_true (eq_of_takes (by omega) (by rw [s1, ← hk']; exact HT.out))).symm, _, rfl⟩
  · have hne : ((l1 : Int) != (l2 : Int)) = true := by simp; omega
    have hz : ¬ z1 = z2 := by intro e; rw [e] at s1; omega
    go_enter Tryz.func9, Tryz.ntmps9
    go_wp2
    go_ret
    exact ⟨ret_bool (decide_eq_false hz).symm, 0, rfl⟩

theorem same_same (a1 : Option Addr) (l1 c1 : Nat) (a2 : Option Addr) (l2 c2 : Nat) (zs : List Int) (w : World) (h1 : Row w a1 l1 c1 zs) (h2 : Row w a2 l2 c2 zs) :
    Calls Tryz.prog 9 #[.slice a1 l1 c1, .slice a2 l2 c2] w fun e w' => e = .returned (.bool true) ∧ ∃ n, w' = w.drewN n := by
  refine (same_any a1 l1 c1 zs a2 l2 c2 zs w h1 h2).mono ?_
  rintro e w' ⟨rfl, n, rfl⟩
  exact ⟨by simp, n, rfl⟩

theorem big_no (a0 : Option Addr) (l0 c0 : Nat) (w : World) (h : ¬ 1048576 < l0) : Calls Tryz.prog 6 #[.slice a0 l0 c0] w fun e w' => e = .returned (.bool false) ∧ w' = w := by
  have i1 : ¬ (1048576 : Int) < l0 := by omega
  go_enter Tryz.func6, Tryz.ntmps6
  go_wp2
  go_ret
  exact ⟨rfl, rfl⟩

theorem Row.take {w : World} {ao : Option Addr} {n c : Nat} {zs : List Int} (h : Row w ao n c zs) (k : Nat) (hk : k ≤ n) : Row w ao k c (zs.take k) where
  size := by have := h.size; simp; omega
  le := by have := h.le; omega
  top := h.top
  nil := h.nil
  byte := fun z hz => h.byte z (List.mem_of_mem_take hz)
  cell := by
    rcases h.cell with h0 | ⟨b, off, ha, hc⟩
    · exact .inl (by omega)
    · exact .inr ⟨b, off, ha, fun i hi => by rw [hc i (by omega)]; simp [List.getD_eq_getElem?_getD, hi]⟩

end Go.Proofs.YtjkmagpppfnlpaaGreatDoor
