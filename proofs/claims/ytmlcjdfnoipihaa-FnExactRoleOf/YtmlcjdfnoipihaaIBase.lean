/-
  What a slice of ints is to the walks of this seat: its elements as a list of numbers, and how that reading stays while a call makes new memory.
-/
import Derived.Test.YtmlcjdfnoipihaaBase
namespace Go.Proofs.Ytmlcjdfnoipihaa
open Go.RowKit

/-- Numbers as the cells of a slice of ints. -/
def cI (zs : List Int) : List Value := zs.map (Value.int .i64)

/-- Each number is an int. -/
def I64s (zs : List Int) : Prop := ∀ z ∈ zs, -9223372036854775808 ≤ z ∧ z ≤ 9223372036854775807

theorem cI_length (zs : List Int) : (cI zs).length = zs.length := by simp [cI]
theorem cI_append (a b : List Int) : cI (a ++ b) = cI a ++ cI b := by simp [cI]
theorem cI_get (zs : List Int) (j : Nat) (h : j < zs.length) : (cI zs)[j]? = some (.int .i64 (zs.getD j 0)) := by
  simp [cI, List.getElem?_map, List.getElem?_eq_getElem h]

/-- A slice of ints that can be read: zs are its elements. -/
structure IRow (w : World) (ao : Option Addr) (len cap : Nat) (zs : List Int) : Prop where
  size : zs.length = len
  le : len ≤ cap
  top : cap ≤ maxLen
  nil : ao = none → cap = 0
  byte : I64s zs
  cell : len = 0 ∨ ∃ b off, ao = some ⟨b, off, none⟩ ∧ ∀ i, i < len → w.cell? ⟨b, off + i, none⟩ = some (.int .i64 (zs.getD i 0))

theorem IRow.below {w w' : World} {ao : Option Addr} {len cap : Nat} {zs : List Int} (h : IRow w ao len cap zs) (hb : Below w.heap.size w w') : IRow w' ao len cap zs where
  size := h.size
  le := h.le
  top := h.top
  nil := h.nil
  byte := h.byte
  cell := by
    rcases h.cell with h0 | ⟨b, off, ha, hc⟩
    · exact .inl h0
    · exact .inr ⟨b, off, ha, fun i hi => by rw [hb.cell (block_lt (hc i hi))]; exact hc i hi⟩

/-- A row that the call owns can be read. -/
theorem irow_of_own {w : World} {base : Nat} {v : Value} {n : Nat} {zs : List Int} (h : w.ownsRow base 3 1 v n (cI zs)) (hz : I64s zs) :
    ∃ ao cap, v = .slice ao n cap ∧ IRow w ao n cap zs := by
  have hl : zs.length = n := by have := h.1; simpa [cI] using this
  rcases h.2 with ⟨rfl, rfl⟩ | ⟨g, cap, cur, rfl, hg, hh, h1, h2, h3, h4⟩
  · exact ⟨none, 0, rfl, hl, Nat.le_refl _, Nat.zero_le _, fun _ => rfl, hz, .inl rfl⟩
  · refine ⟨_, cap, rfl, hl, h1, h2, (by intro h; cases h), hz, .inr ⟨g, 0, rfl, fun i hi => ?_⟩⟩
    have := h.cellAt i (by omega)
    rw [Nat.zero_add, this, cI_get zs i (by omega)]

theorem Try.infoI64 : (Try.prog.info? 3).map (fun i => (i.zero, i.size, i.bytes)) = some (some (.int .i64 0), 1, 8) := by kernel_rfl

theorem IRow.news {w : World} {ao : Option Addr} {len cap : Nat} {zs : List Int} (h : IRow w ao len cap zs) (ad : Addr) (ha : ao = some ad) (j : Nat) (u : Value) (hu : (cI zs)[j]? = some u) : w.cell? (ad.add j) = some u := by
  have hj : j < zs.length := by
    by_cases hlt : j < zs.length
    · exact hlt
    · rw [List.getElem?_eq_none (by rw [cI_length]; omega)] at hu
      cases hu
  rw [cI_get _ _ hj] at hu
  rcases h.cell with h0 | ⟨b, off, hb, hc⟩
  · have := h.size; omega
  · rw [ha] at hb
    cases hb
    rw [← hu]
    rw [add_none]; exact hc j (by have := h.size; omega)

theorem IRow.none_zero {w : World} {ao : Option Addr} {len cap : Nat} {zs : List Int} (h : IRow w ao len cap zs) (ha : ao = none) : len = 0 ∧ cap = 0 := by
  have := h.nil ha; have := h.le; omega

theorem cI_oneCell (zs : List Int) (u : Value) (h : u ∈ cI zs) : u.oneCell' = true := ints_oneCell .i64 zs u h

theorem i64s_append {a b : List Int} (ha : I64s a) (hb : I64s b) : I64s (a ++ b) := by
  intro z hz
  rcases List.mem_append.1 hz with h | h
  · exact ha z h
  · exact hb z h

/-- 'append' of whatever ints can be read to ints that the call owns. -/
theorem wpList_append_irow {P : Program} (w : World) {ops : Array Oper} {rest : List Oper} {o : Oper} {a : Act} {Q : Exit → Act → World → Prop} (hgd : o.guard = none)
    (s x : Operand) (t : TypeId) (ho : o.op = Op.call { callee := Callee.builtin Builtin.append, args := #[s, x], argTypes := #[t, t] }) (base : Nat)
    (ht : P.underlying t = some (TypeDesc.slice 3)) (hinfo : (P.info? 3).map (fun i => (i.zero, i.size, i.bytes)) = some (some (.int .i64 0), 1, 8))
    (v : Value) (n : Nat) (xs : List Int) (hs : a.eval s = v) (hown : w.ownsRow base 3 1 v n (cI xs)) (hxs : I64s xs) (ao : Option Addr) (m c : Nat) (zs : List Int)
    (hx : a.eval x = .slice ao m c) (hrow : IRow w ao m c zs) (hsm : (n + m) * 8 ≤ 140737488355328) (hbase : base ≤ w.heap.size)
    (h : ∀ ao' cap' w', w'.ownsRow base 3 1 (.slice ao' (n + m) cap') (n + m) (cI (xs ++ zs)) → IRow w' ao' (n + m) cap' (xs ++ zs) → Below base w w' → wpList P ops Q rest (a.put o.dst (.slice ao' (n + m) cap')) w') :
    wpList P ops Q (o :: rest) a w := by
  obtain ⟨i0, hi, hz0, hz1, hz2⟩ := info_parts hinfo
  have hby := i64s_append hxs hrow.byte
  rcases ao with _ | ad
  · obtain ⟨rfl, rfl⟩ := hrow.none_zero rfl
    have hz : zs = [] := List.eq_nil_of_length_eq_zero hrow.size
    subst hz
    refine wpList_append_own_none hgd s x t ho base 3 i0 1 ht hi v n (cI xs) hs hown hx ?_
    obtain ⟨ao', cap', rfl, hr⟩ := irow_of_own hown hxs
    have := h ao' cap' w (by simpa using hown) (by simpa using hr) (Below.refl _ _)
    simpa using this
  · refine wpList_append_own w hgd s x t ho base 3 i0 (.int .i64 0) 1 8 ht hi hz0 hz1 hz2 rfl (by decide) v n (cI xs) hs hown ad m c (cI zs) hx (by rw [cI_length, hrow.size]; omega) (fun j u hu => hrow.news ad rfl j u hu) (cI_oneCell zs) (by unfold maxLen; omega) (by omega) hbase ?_
    intro v' w' how hgr _
    rw [← cI_append] at how
    have hlt := hown.lt
    obtain ⟨ao', cap', rfl, hr⟩ := irow_of_own how hby
    exact h ao' cap' w' how hr ((Below.refl _ _).grown hgr hbase (by intro k hk; exact (hlt k hk).1))

/-- The same as one step of a region that draws its order. -/
theorem step_append_irow {P : Program} {ops : Array Oper} {o : Oper} {a : Act} {w : World} {K : Act → World → Prop} {Q : Exit → Act → World → Prop} {E : Prop} (hgd : o.guard = none)
    (s x : Operand) (t : TypeId) (ho : o.op = Op.call { callee := Callee.builtin Builtin.append, args := #[s, x], argTypes := #[t, t] }) (base : Nat)
    (ht : P.underlying t = some (TypeDesc.slice 3)) (hinfo : (P.info? 3).map (fun i => (i.zero, i.size, i.bytes)) = some (some (.int .i64 0), 1, 8))
    (v : Value) (n : Nat) (xs : List Int) (hs : a.eval s = v) (hown : w.ownsRow base 3 1 v n (cI xs)) (hxs : I64s xs) (ao : Option Addr) (m c : Nat) (zs : List Int)
    (hx : a.eval x = .slice ao m c) (hrow : IRow w ao m c zs) (hsm : (n + m) * 8 ≤ 140737488355328) (hbase : base ≤ w.heap.size)
    (h : ∀ ao' cap' w', w'.ownsRow base 3 1 (.slice ao' (n + m) cap') (n + m) (cI (xs ++ zs)) → IRow w' ao' (n + m) cap' (xs ++ zs) → Below base w w' → K (a.put o.dst (.slice ao' (n + m) cap')) w') :
    if Region.wanted o (yielded ops a.tmps) = true then Oper.wp P o a w K Q else E := by
  have hw : Region.wanted o (yielded ops a.tmps) = true := by simp [Region.wanted, hgd]
  rw [if_pos hw]
  obtain ⟨i0, hi, hz0, hz1, hz2⟩ := info_parts hinfo
  have hby := i64s_append hxs hrow.byte
  rcases ao with _ | ad
  · obtain ⟨rfl, rfl⟩ := hrow.none_zero rfl
    have hz : zs = [] := List.eq_nil_of_length_eq_zero hrow.size
    subst hz
    obtain ⟨ao', cap', rfl, hr⟩ := irow_of_own hown hxs
    have hrun := run_append_owned_none (P := P) w base t o.type 3 i0 1 ht hi (.slice ao' n cap') n (cI xs) hown
    have hk : K (a.put o.dst (.slice ao' n cap')) w := by simpa using h ao' cap' w (by simpa using hown) (by simpa using hr) (Below.refl _ _)
    unfold Oper.wp
    simp [execOp, ho, resolve, invoke, builtin, hs, hx, hrun, Result.andThen]
    exact hk
  · refine wp_append_own w s x t ho base 3 i0 (.int .i64 0) 1 8 ht hi hz0 hz1 hz2 rfl (by decide) v n (cI xs) hs hown ad m c (cI zs) hx (by rw [cI_length, hrow.size]; omega) (fun j u hu => hrow.news ad rfl j u hu) (cI_oneCell zs) (by unfold maxLen; omega) (by omega) hbase ?_
    intro v' w' how hgr _
    rw [← cI_append] at how
    have hlt := hown.lt
    obtain ⟨ao', cap', rfl, hr⟩ := irow_of_own how hby
    exact h ao' cap' w' how hr ((Below.refl _ _).grown hgr hbase (by intro k hk; exact (hlt k hk).1))

theorem getD_i64 {zs : List Int} (h : I64s zs) (j : Nat) : -9223372036854775808 ≤ zs.getD j 0 ∧ zs.getD j 0 ≤ 9223372036854775807 := by
  by_cases hj : j < zs.length
  · rw [List.getD_eq_getElem?_getD, List.getElem?_eq_getElem hj]; exact h _ (List.getElem_mem hj)
  · rw [List.getD_eq_getElem?_getD, List.getElem?_eq_none (by omega)]; simp

theorem IRow.at {w : World} {ao : Option Addr} {len cap : Nat} {zs : List Int} (h : IRow w ao len cap zs) (hp : 0 < len) : ∃ b off, ao = some ⟨b, off, none⟩ ∧ ∀ i, i < len → w.cell? ⟨b, off + i, none⟩ = some (.int .i64 (zs.getD i 0)) := by
  rcases h.cell with h0 | h0
  · omega
  · exact h0

theorem I64s.at {zs : List Int} (h : I64s zs) (j : Nat) : -9223372036854775808 ≤ zs.getD j 0 ∧ zs.getD j 0 ≤ 9223372036854775807 := getD_i64 h j

theorem irow_nil (w : World) : IRow w none 0 0 [] := ⟨rfl, Nat.le_refl _, Nat.zero_le _, fun _ => rfl, (by intro z hz; cases hz), .inl rfl⟩

/-- An argument, as it is opened. -/
theorem irow_open {w : World} {x : Addr} {len cap : Nat} {zs : List Int} (hl : len ≤ cap) (hm : cap ≤ maxLen) (hz : zs.length = cap) (hcell : ∀ i, i < zs.length → w.cell? (x.add i) = some (.int .i64 (zs.getD i 0))) (hwz : ∀ n ∈ zs, (Lit.int .i64 n).wf = true) : IRow w (some x) len cap (zs.take len) where
  size := by simp; omega
  le := hl
  top := hm
  nil := by intro h; cases h
  byte := by
    intro z h
    have := hwz z (List.mem_of_mem_take h)
    simp [Lit.wf, IntKind.min, IntKind.max, IntKind.bits, IntKind.signed] at this
    omega
  cell := by
    by_cases h0 : len = 0
    · exact .inl h0
    · have hc0 := hcell 0 (by omega)
      obtain ⟨b, off, spot⟩ := x
      have hspot : spot = none := by simpa [Addr.add] using World.cell?_spot hc0
      subst hspot
      refine .inr ⟨b, off, rfl, fun i hi => ?_⟩
      have := hcell i (by omega)
      have e : (⟨b, off, none⟩ : Addr).add i = ⟨b, off + i, none⟩ := by by_cases h : i = 0 <;> simp [Addr.add, h]
      rw [e] at this
      rw [this]
      simp [List.getD_eq_getElem?_getD, hi]

theorem Try.infoStr : (Try.prog.info? 9).map (fun i => (i.zero, i.size, i.bytes)) = some (some (.string ⟨#[]⟩), 1, 16) := by kernel_rfl

theorem own_shape {w : World} {base : Nat} {e : TypeId} {v : Value} {n : Nat} {xs : List Value} (h : w.ownsRow base e 1 v n xs) : ∃ ao cap, v = .slice ao n cap := by
  rcases h.2 with ⟨rfl, rfl⟩ | ⟨g, cap, cur, rfl, _⟩
  · exact ⟨_, _, rfl⟩
  · exact ⟨_, _, rfl⟩

theorem irow_one (w : World) (x : Int) (h : -9223372036854775808 ≤ x ∧ x ≤ 9223372036854775807) : IRow (w.alloc (.cells #[.int .i64 x] 3)) (some ⟨w.heap.size, 0, none⟩) 1 1 [x] where
  size := rfl
  le := Nat.le_refl _
  top := by unfold maxLen; omega
  nil := by intro h; cases h
  byte := by intro z hz; simp at hz; subst hz; exact h
  cell := .inr ⟨w.heap.size, 0, rfl, fun i hi => by
    obtain rfl : i = 0 := by omega
    simp⟩

end Go.Proofs.Ytmlcjdfnoipihaa
