/-
  The law file's own helpers on binds and requests by their contracts: their size, a copy, whether two are the same.
-/
import Derived.Test.YtgfkpgdkkmgjkaaGreatDoorBindOwn
import Derived.Test.YtgfkpgdkkmgjkaaGreatDoorBunD
import Derived.Deep.RegionHeld3
namespace Go.Proofs.YtgfkpgdkkmgjkaaGreatDoor
open Go.RowKit

theorem cells5 {w : World} {C : Nat} {t : TypeId} {c0 c1 c2 c3 c4 : Value} (h : w.heap[C]? = some (.cells #[c0, c1, c2, c3, c4] t)) :
    (w.cell? ⟨C, 0, none⟩ = some c0 ∧ w.cell? ⟨C, 1, none⟩ = some c1 ∧ w.cell? ⟨C, 2, none⟩ = some c2 ∧ w.cell? ⟨C, 3, none⟩ = some c3 ∧ w.cell? ⟨C, 4, none⟩ = some c4) ∧
    (w.frozen? ⟨C, 0, none⟩ = false ∧ w.frozen? ⟨C, 1, none⟩ = false ∧ w.frozen? ⟨C, 2, none⟩ = false ∧ w.frozen? ⟨C, 3, none⟩ = false ∧ w.frozen? ⟨C, 4, none⟩ = false) := by
  refine ⟨⟨?_, ?_, ?_, ?_, ?_⟩, ?_, ?_, ?_, ?_, ?_⟩ <;> simp [World.cell?, World.frozen?, h]

theorem BI.In.le {w : World} {x : BI} (h : x.In w) : x.on ≤ maxLen ∧ x.zn ≤ maxLen := ⟨Nat.le_trans h.o.le h.o.top, Nat.le_trans h.z.le h.z.top⟩

def BI.wt (x : BI) : Nat := x.on + x.S.size + x.zn
def bulk (l : List BI) : Nat := (l.map BI.wt).sum
theorem bulk_append (a b : List BI) : bulk (a ++ b) = bulk a + bulk b := by simp [bulk]
theorem bulk_cons (x : BI) (l : List BI) : bulk (x :: l) = x.wt + bulk l := by simp [bulk]
theorem bulk_mem {l : List BI} {x : BI} (h : x ∈ l) : x.wt ≤ bulk l := by
  obtain ⟨a, b, rfl⟩ := List.append_of_mem h
  rw [bulk_append, bulk_cons]; omega
theorem take_one {α : Type} {l : List α} {i : Nat} {x : α} (h : l[i]? = some x) : l.take (i + 1) = l.take i ++ [x] := by
  obtain ⟨hl, rfl⟩ := List.getElem?_eq_some_iff.1 h
  rw [List.take_succ_eq_append_getElem hl]
theorem bulk_take (l : List BI) (i : Nat) : bulk (l.take i) ≤ bulk l := by
  conv => rhs; rw [← List.take_append_drop i l, bulk_append]
  omega
theorem bulk_next {l : List BI} {i : Nat} {x : BI} (h : l[i]? = some x) : bulk (l.take (i + 1)) = bulk (l.take i) + x.wt := by
  rw [take_one h, bulk_append]; simp [bulk]

/-- A bind that was just made: its lists are the call's own, in blocks of their own. -/
structure BNew (w : World) (base : Nat) (x : BI) : Prop where
  own : BOwn w base x
  nd : x.blks.Nodup

theorem set_block5 {w : World} {b j : Nat} {cur : Array Value} {t : TypeId} (h : w.heap[b]? = some (.cells cur t)) (u : Value) : (w.setCell ⟨b, j, none⟩ u).heap[b]? = some (.cells (cur.setIfInBounds j u) t) := heap_setCell_same w b j cur t u h

theorem kept_set {w : World} {i b j : Nat} {o : Obj} {u : Value} (h : w.heap[i]? = some o) (hne : i ≠ b) : (w.setCell ⟨b, j, none⟩ u).heap[i]? = some o := by rw [Below.heap_setCell _ _ _ _ hne]; exact h

theorem blks_new {w1 w2 : World} {base : Nat} {x : BI} {s : Nat} {o z : List Value} (ho : w1.ownsRow base 3 1 (.slice x.oa x.on x.oc) x.on o) (hz : w2.ownsRow s 3 1 (.slice x.za x.zn x.zc) x.zn z) (hs : w1.heap.size ≤ s) : x.blks.Nodup := by
  have one : ∀ ao : Option Addr, (blkL ao).Nodup := by intro ao; cases ao <;> simp [blkL]
  unfold BI.blks
  rw [List.nodup_append]
  refine ⟨one _, one _, ?_⟩
  intro a ha b hb e
  subst e
  have h1 := (ho.lt a (mem_blkL.2 ha)).2
  have h2 := (hz.lt a (mem_blkL.2 hb)).1
  omega

end Go.Proofs.YtgfkpgdkkmgjkaaGreatDoor
