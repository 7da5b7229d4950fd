/-
  gatherOid by its contract: over whatever iterator hands out the numbers xs, each with whether it is right: the numbers, where all are right and make a name; else nothing and false.
-/
import Derived.Test.YtamglfhnhjgdjaaOidOk
import Derived.RangeFuncBound
import Derived.RangeFuncCalls
import Derived.RangeFuncLeaves
import Derived.RangeFuncBox
import Derived.Shelf.Abstract
import Derived.WalkKit
import Derived.OwnWalkIn
import Derived.TacticsInMore
import Derived.LoopNIn
import Derived.LoopIn
import Derived.Maps.AppendAt
namespace Go.Proofs.Ytamglfhnhjgdjaa
open Go.RowKit Go.Shelf

attribute [local go_sem] Oper.semAt_some

/-- A number that is handed out, and whether it is right. -/
abbrev encs (x : Int × Bool) : Array Value := #[.int .i64 x.1, .bool x.2]

def nums (xs : List (Int × Bool)) : List Int := xs.map (·.1)
/-- One that is not right has come, or too many. -/
def Bad (pre : List (Int × Bool)) : Prop := (∃ x ∈ pre, x.2 = false) ∨ 10 < pre.length

theorem nums_snoc (pre : List (Int × Bool)) (x : Int × Bool) : nums (pre ++ [x]) = nums pre ++ [x.1] := by simp [nums]
theorem nums_length (pre : List (Int × Bool)) : (nums pre).length = pre.length := by simp [nums]

/-- The three boxes that gatherOid lays: its two answers, and what it gathers. -/
structure Boxes (w W : World) (pre : List (Int × Bool)) (v : Value) : Prop where
  r0 : Boxed W w.heap.size 43 (.slice none 0 0)
  r1 : Boxed W (w.heap.size + 1) 4 (.bool false)
  o : Boxed W (w.heap.size + 2) 43 v
  row : W.ownsRow w.heap.size 3 1 v pre.length (cI (nums pre))

theorem boxes_own (w : World) : Own (fun (pre : List (Int × Bool)) W => ∃ v, Boxes w W pre v) := by
  intro pre A B row hs hg hr
  obtain ⟨v, h⟩ := hs
  have ne : ∀ (k : Nat) (t : TypeId) (u : Value), Boxed A k t u → some k ≠ row := by
    intro k t u hb e
    obtain ⟨o, ho, hc⟩ := hr k e.symm
    rw [show A.heap[k]? = _ from hb] at ho
    cases ho
    simp [Obj.isCells] at hc
  refine ⟨v, h.r0.kept hg (ne _ _ _ h.r0), h.r1.kept hg (ne _ _ _ h.r1), h.o.kept hg (ne _ _ _ h.o), ?_⟩
  refine h.row.kept hg ?_
  cases hv : v.ownBlock with
  | none => exact .inl rfl
  | some k =>
    refine .inr ?_
    intro e
    obtain ⟨o, ho, hc⟩ := hr k e.symm
    rcases h.row.2 with ⟨rfl, _⟩ | ⟨g, cap, cur, rfl, _, hh, _⟩
    · cases hv
    · simp [Value.ownBlock] at hv
      subst hv
      rw [hh] at ho
      cases ho
      simp [Obj.isCells] at hc

theorem boxed_other {W : World} {B B' : Nat} {t : TypeId} {v : Value} (h : Boxed W B t v) (hne : B ≠ B') (u : Value) : Boxed (W.setCell ⟨B', 0, none⟩ u) B t v := h.kept (grownBy_setCell' W B' u) (fun e => hne (by cases e; rfl))

/-- Where gatherOid begins its loop. -/
def gw (w : World) : World := ((w.alloc (.cells #[.slice none 0 0] 43)).alloc (.cells #[.bool false] 4)).alloc (.cells #[.slice none 0 0] 43)

theorem gw_size (w : World) : (gw w).heap.size = w.heap.size + 3 := by simp [gw]

theorem boxes_start (w : World) : Boxes w (gw w) [] (.slice none 0 0) where
  r0 := ((Boxed.new w _ _).alloc _).alloc _
  r1 := by
    have := (Boxed.new (w.alloc (.cells #[.slice none 0 0] 43)) 4 (.bool false)).alloc (.cells #[.slice none 0 0] 43)
    rw [World.size_alloc] at this
    exact this
  o := by
    have := Boxed.new ((w.alloc (.cells #[.slice none 0 0] 43)).alloc (.cells #[.bool false] 4)) 43 (.slice none 0 0)
    rw [World.size_alloc, World.size_alloc] at this
    exact this
  row := World.ownsRow_nil _ _ _ _

theorem gw_below (w : World) : Below w.heap.size w (gw w) := (((Below.refl _ w).alloc (Nat.le_refl _) _).alloc (by simp) _).alloc (by simp; omega) _

theorem cell_put {W : World} {B : Nat} {t : TypeId} {v : Value} {D : Nat} (h : Boxed W B t v) (hK : W.heap[D]? = some (.deferred (some []))) : (W.putObj D (.deferred none)).cell? ⟨B, 0, none⟩ = some v :=
  cell_kept h.cell (grownBy_putObj' _ D (.deferred none)) (fun r e => by cases e; exact ⟨_, hK, rfl⟩)

end Go.Proofs.Ytamglfhnhjgdjaa
