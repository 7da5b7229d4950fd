/-
  putPieces by its contract: it answers new memory that holds the bytes of its first argument and then those of each piece, in order.
-/
import Derived.Test.YtmlcjdfnoipihaaHelp
namespace Go.Proofs.Ytmlcjdfnoipihaa
open Go.RowKit

/-- A piece: where it lies, its length, its capacity, its bytes. -/
structure Piece where
  ao : Option Addr
  len : Nat
  cap : Nat
  zs : List Int

def noPiece : Piece := ⟨none, 0, 0, []⟩

/-- How many bytes the first k pieces have. -/
def tot (ps : List Piece) (k : Nat) : Nat := ((ps.take k).map Piece.len).sum
/-- The bytes of the first k pieces. -/
def flat (ps : List Piece) (k : Nat) : List Int := ((ps.take k).map Piece.zs).flatten

theorem take_snoc (ps : List Piece) (k : Nat) (h : k < ps.length) : ps.take (k + 1) = ps.take k ++ [ps.getD k noPiece] := by
  rw [List.take_succ_eq_append_getElem h]; simp [h]
theorem tot_succ (ps : List Piece) (k : Nat) (h : k < ps.length) : tot ps (k + 1) = tot ps k + (ps.getD k noPiece).len := by
  unfold tot; rw [take_snoc ps k h]; simp
theorem flat_succ (ps : List Piece) (k : Nat) (h : k < ps.length) : flat ps (k + 1) = flat ps k ++ (ps.getD k noPiece).zs := by
  unfold flat; rw [take_snoc ps k h]; simp
theorem tot_le (ps : List Piece) (k : Nat) : tot ps k ≤ tot ps ps.length := by
  unfold tot
  rw [List.take_length]
  have := List.take_append_drop k ps
  conv => rhs; rw [← this, List.map_append, List.sum_append]
  omega

/-- A list of pieces that lie in memory. -/
structure Pieces (w : World) (po : Option Addr) (m c : Nat) (ps : List Piece) : Prop where
  size : ps.length = m
  small : m ≤ 1000
  cell : m = 0 ∨ ∃ b off, po = some ⟨b, off, none⟩ ∧ ∀ i, i < m → w.cell? ⟨b, off + i, none⟩ = some (.slice (ps.getD i noPiece).ao (ps.getD i noPiece).len (ps.getD i noPiece).cap)
  row : ∀ i, i < m → Row w (ps.getD i noPiece).ao (ps.getD i noPiece).len (ps.getD i noPiece).cap (ps.getD i noPiece).zs

/-- Pieces that a call lays side by side in a new block. -/
theorem pieces_lit (w : World) (B : Nat) (ps : List Piece) (n : Nat) (e : TypeId) (hB : B = w.heap.size) (hn : ps.length = n) (hs : n ≤ 1000) (hr : ∀ i, i < n → Row w (ps.getD i noPiece).ao (ps.getD i noPiece).len (ps.getD i noPiece).cap (ps.getD i noPiece).zs) :
    Pieces (w.alloc (.cells (ps.map fun p => Value.slice p.ao p.len p.cap).toArray e)) (some ⟨B, 0, none⟩) n n ps where
  size := hn
  small := hs
  cell := .inr ⟨B, 0, rfl, fun i hi => by
    subst hB
    have hi' : i < ps.length := by omega
    rw [Nat.zero_add]
    have : (w.alloc (.cells (ps.map fun p => Value.slice p.ao p.len p.cap).toArray e)).cell? ⟨w.heap.size, i, none⟩ = (ps.map fun p => Value.slice p.ao p.len p.cap).toArray[i]? := by simp
    rw [this]
    simp [hi']⟩
  row := fun i hi => (hr i hi).below ((Below.refl _ _).alloc (Nat.le_refl _) _)

end Go.Proofs.Ytmlcjdfnoipihaa
