/-
  What is drawn for requests: a request; bytes of one, bent; binds twice.
-/
import Derived.Test.YtamglfhnhjgdjaaGreatDoorDrawPdu4
import Derived.Test.YtamglfhnhjgdjaaGreatDoorQH
import Derived.Test.YtamglfhnhjgdjaaGreatDoorQI
import Derived.Laws.AppendOwnNone
import Derived.Deep.RegionHeldLaw
namespace Go.Proofs.YtamglfhnhjgdjaaGreatDoor
open Go.RowKit

def DrawnOne (w w' : World) (e : Ending) : Prop :=
  ∃ (k id a b : Int) (ys : List BI) (lo : Option Addr) (cap : Nat), e = .returned (.agg #[.int .i64 k, .int .i64 id, .int .i64 a, .int .i64 b, .slice lo ys.length cap]) ∧ BRow w' lo ys.length cap ys ∧ Below w.heap.size w w'

theorem putP_len (k id a b : Int) (bs : List BD) : (putP k id a b bs).length ≤ 1000 := by
  unfold putP
  split
  · rename_i h
    have := putTlv_length [] k (bodyP id a b bs)
    simp at this
    omega
  · simp

theorem brow_of {w : World} {base : Nat} {ao : Option Addr} {n cap : Nat} {l : List BI} (row : w.ownsRow base 80 5 (.slice ao n cap) n (cBs l)) (hin : ∀ x ∈ l, x.In w) : BRow w ao n cap l := by
  have hl : l.length = n := by have := row.1; rw [cBs_length] at this; omega
  rcases row.2 with ⟨e, h0⟩ | ⟨g, cap', cur, e, _, _, h1, h2, _⟩
  · cases e
    exact ⟨hl, Nat.le_refl _, Nat.zero_le _, fun _ => rfl, hin, .inl rfl⟩
  · cases e
    refine ⟨hl, h1, h2, (by intro h; cases h), hin, .inr ⟨g, 0, rfl, fun i x hi => ?_⟩⟩
    obtain ⟨hil, hx⟩ := List.getElem?_eq_some_iff.1 hi
    have el : l = l.take i ++ x :: l.drop (i + 1) := by rw [← hx, ← List.drop_eq_getElem_cons hil, List.take_append_drop]
    have at_ : ∀ j, j < 5 → w.cell? ⟨g, i * 5 + j, none⟩ = x.cs[j]? := by
      intro j hj
      rw [row.cellAt _ (by omega)]
      have := cBs_at (l.take i) x (l.drop (i + 1)) j hj
      rw [← el, List.length_take, Nat.min_eq_left (by omega)] at this
      exact this
    have a0 := at_ 0 (by omega); have a1 := at_ 1 (by omega); have a2 := at_ 2 (by omega); have a3 := at_ 3 (by omega); have a4 := at_ 4 (by omega)
    unfold BI.At
    rw [Nat.zero_add]
    exact ⟨a0, a1, a2, a3, a4⟩

theorem cBs_oneCell (l : List BI) : ∀ u ∈ cBs l, u.oneCell' = true := by
  intro u hu
  obtain ⟨y, _, hu⟩ := List.mem_flatMap.1 hu
  exact cs_oneCell y u hu

/-- 'append' of owned binds to an empty row, as one step of a region that draws its order. -/
theorem step_copy_binds {P : Program} {ops : Array Oper} {o : Oper} {a : Act} {w : World} {K : Act → World → Prop} {Q : Exit → Act → World → Prop} {E : Prop} (hgd : o.guard = none)
    (s x : Operand) (t : TypeId) (ho : o.op = Op.call { callee := Callee.builtin Builtin.append, args := #[s, x], argTypes := #[t, t] }) (base : Nat)
    (ht : P.underlying t = some (TypeDesc.slice 80)) (hinfo : (P.info? 80).map (fun i => (i.zero, i.size, i.bytes)) = some (some (.agg #[.slice none 0 0, .int .i64 0, .int .i64 0, .string ⟨#[]⟩, .slice none 0 0]), 5, 80))
    (B : Nat) (hs : a.eval s = .slice (some ⟨B, 0, none⟩) 0 0) (hown : w.ownsRow base 80 5 (.slice (some ⟨B, 0, none⟩) 0 0) 0 (cBs [])) (lo : Option Addr) (cap : Nat) (ys : List BI) (hx : a.eval x = .slice lo ys.length cap) (base' : Nat) (hb : BOwns w base' lo ys.length cap ys) (hB : ∀ b ∈ allB lo ys, b ≠ B) (hn : ys.length ≤ 1000) (hbase : base ≤ w.heap.size)
    (h : ∀ lo' cap' w', BRow w' lo' ys.length cap' ys → BOwns w' base' lo ys.length cap ys → w.grownBy w' (some B) → K (a.put o.dst (.slice lo' ys.length cap')) w') :
    if Region.wanted o (yielded ops a.tmps) = true then Oper.wp P o a w K Q else E := by
  have hw : Region.wanted o (yielded ops a.tmps) = true := by simp [Region.wanted, hgd]
  rw [if_pos hw]
  obtain ⟨i0, hi, hz0, hz1, hz2⟩ := info_parts hinfo
  cases lo with
  | none =>
    have R := hb.brow
    have hc0 : cap = 0 := R.nil rfl
    have hl0 : ys.length = 0 := by have := R.le; omega
    obtain rfl : ys = [] := List.length_eq_zero_iff.1 hl0
    subst hc0
    have hrun := run_append_owned_none (P := P) (w := w) base t o.type _ i0 5 ht hi _ _ _ hown
    have hx' : a.eval x = .slice none 0 0 := hx
    unfold Oper.wp
    simp [execOp, ho, resolve, invoke, builtin, hs, hx', hrun, Result.andThen, Oper.upon]
    exact h _ _ _ (brow_of hown (by intro y hy; cases hy)) hb (World.grownBy.refl _ _)
  | some ad =>
    rcases hb.row.2 with ⟨e, _⟩ | ⟨g, cap', cur, e, _, _, h1, h2, _⟩
    · cases e
    cases e
    refine wp_append_own w s x t ho base 80 i0 (.agg #[.slice none 0 0, .int .i64 0, .int .i64 0, .string ⟨#[]⟩, .slice none 0 0]) 5 80 ht hi hz0 hz1 hz2 rfl (by decide) _ 0 (cBs []) hs hown ⟨g, 0, none⟩ ys.length cap (cBs ys) hx (cBs_length ys) (fun j u hj => ?_) (cBs_oneCell ys) (by unfold maxLen; omega) (by omega) hbase ?_
    · have hjl := (List.getElem?_eq_some_iff.1 hj).1
      rw [cBs_length] at hjl
      rw [add_none, Nat.zero_add, hb.row.cellAt _ (by omega)]
      exact hj
    · intro v' w' how hgr _
      obtain ⟨lo', cap', rfl⟩ := own_slice how
      have hgr' : w.grownBy w' (some B) := hgr
      have O : Only [B] w w' := ⟨hgr'.os, hgr'.tape, hgr'.output, hgr'.size, fun k hk hn => hgr'.block k hk (fun e => by cases e; simp at hn)⟩
      have hb' := hb.only O (fun b hb1 hb2 => hB b hb1 (List.mem_singleton.1 hb2))
      have how' : w'.ownsRow base 80 5 (.slice lo' ys.length cap') ys.length (cBs ys) := by simpa [cBs] using how
      have := h lo' cap' w' (brow_of how' (fun x hx => (hb'.item x hx).in)) hb' hgr'
      simpa using this

def DrawnBB (w w' : World) (e : Ending) : Prop :=
  ∃ (lo : Option Addr) (n cap : Nat) (l : List BI) (lo' : Option Addr) (n' cap' : Nat) (l' : List BI), e = .returned (.tuple #[.slice lo n cap, .slice lo' n' cap']) ∧ BRow w' lo n cap l ∧ BRow w' lo' n' cap' l' ∧ Below w.heap.size w w'

end Go.Proofs.YtamglfhnhjgdjaaGreatDoor
