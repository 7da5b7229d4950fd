/-
  A table while its rows are put one by one: its box, and the two rows that it holds.
-/
import Derived.Test.YtafonmfgeecopaaVtabSet
namespace Go.Proofs.Ytafonmfgeecopaa
open Go.RowKit

theorem box_ne {w : World} {base k : Nat} {e : TypeId} {v : Value} {n : Nat} {xs : List Value} (h : w.ownsRow base e k v n xs) {X : Nat} {cs : Array Value} {T : TypeId} (hX : w.heap[X]? = some (.cells cs T)) (hne : (e : Nat) ≠ T) : ∀ b, v.ownBlock = some b → b ≠ X := by
  obtain ⟨-, h | ⟨g, cap, cur, rfl, -, hh, -⟩⟩ := h
  · rw [h.1]; intro b hb; cases hb
  · intro b hb e
    have : g = b := by simpa [Value.ownBlock] using hb
    subst this e
    rw [hh] at hX
    cases hX
    exact hne rfl

/-- The state while rows are put: the box at X holds the rows so far and the ports' own networks. -/
structure RowSt (B : Nat) (w : World) (X : Nat) (ar : Option Addr) (nr cr : Nat) (o : Option Addr) (p q : Nat) (own : List Int) (zs : List VR) : Prop where
  box : w.heap[X]? = some (.cells #[.slice ar nr cr, .slice o p q] 27)
  rows : w.ownsRow B 29 3 (.slice ar nr cr) nr (vrowF.all zs)
  own : w.ownsRow B 3 1 (.slice o p q) p (cI own)

theorem RowSt.below {B : Nat} {w w' : World} {X : Nat} {ar : Option Addr} {nr cr : Nat} {o : Option Addr} {p q : Nat} {own : List Int} {zs : List VR} (h : RowSt B w X ar nr cr o p q own zs) (hb : Below w.heap.size w w') : RowSt B w' X ar nr cr o p q own zs :=
  ⟨kept_block h.box hb, gown_below h.rows hb, gown_below h.own hb⟩

theorem RowSt.cell {B : Nat} {w : World} {X : Nat} {ar : Option Addr} {nr cr : Nat} {o : Option Addr} {p q : Nat} {own : List Int} {zs : List VR} (h : RowSt B w X ar nr cr o p q own zs) : (w.cell? ⟨X, 0, none⟩ = some (.slice ar nr cr) ∧ w.cell? ⟨X, 1, none⟩ = some (.slice o p q)) ∧ w.frozen? ⟨X, 0, none⟩ = false ∧ w.frozen? ⟨X, 1, none⟩ = false := cells2 h.box

/-- Behind 'append', ahead of the store: the box is there, and the new rows can be stored. -/
theorem RowSt.push {B : Nat} {w w' : World} {X : Nat} {ar : Option Addr} {nr cr : Nat} {o : Option Addr} {p q : Nat} {own : List Int} {zs zs' : List VR} (h : RowSt B w X ar nr cr o p q own zs) {a' : Option Addr} {n' c' : Nat} (how : w'.ownsRow B 29 3 (.slice a' n' c') n' (vrowF.all zs')) (hg : w.grownBy w' (Value.slice ar nr cr).ownBlock) :
    (w'.cell? ⟨X, 0, none⟩ = some (.slice ar nr cr) ∧ w'.frozen? ⟨X, 0, none⟩ = false) ∧ RowSt B (w'.setCell ⟨X, 0, none⟩ (.slice a' n' c')) X a' n' c' o p q own zs' := by
  have hbx := kept_grown h.box hg (fun k hk => box_ne h.rows h.box (by decide) k hk)
  have hown := gown_type h.own h.rows (by decide) hg
  have hc := cells2 hbx
  refine ⟨⟨hc.1.1, hc.2.1⟩, ?_, gown_other how (grown_set (rb := X) 0 _) (box_ne how hbx (by decide)), gown_other hown (grown_set (rb := X) 0 _) (box_ne hown hbx (by decide))⟩
  rw [set_block5 hbx]
  rfl

theorem putRow_keep {x r : VR} {t : List VR} {d : Bool} {zs : List VR} (h : (!d && decide (r.i ≤ x.i)) = false) (hne : (x.i != r.i) = true) : zs ++ [x] ++ putRowF t r (d || decide (r.i ≤ x.i)) = zs ++ putRowF (x :: t) r d := by
  rw [show putRowF (x :: t) r d = (if !d && decide (r.i ≤ x.i) then [r] else []) ++ (if x.i != r.i then [x] else []) ++ putRowF t r (d || decide (r.i ≤ x.i)) by simp [putRowF]]
  rw [h, hne]
  simp
theorem putRow_skip {x r : VR} {t : List VR} {d : Bool} {zs : List VR} (h : (!d && decide (r.i ≤ x.i)) = false) (hne : (x.i != r.i) = false) : zs ++ putRowF t r (d || decide (r.i ≤ x.i)) = zs ++ putRowF (x :: t) r d := by
  rw [show putRowF (x :: t) r d = (if !d && decide (r.i ≤ x.i) then [r] else []) ++ (if x.i != r.i then [x] else []) ++ putRowF t r (d || decide (r.i ≤ x.i)) by simp [putRowF]]
  rw [h, hne]
  simp
theorem putRow_both {x r : VR} {t : List VR} {d : Bool} {zs : List VR} (h : (!d && decide (r.i ≤ x.i)) = true) (hne : (x.i != r.i) = true) : (zs ++ [r]) ++ [x] ++ putRowF t r (d || decide (r.i ≤ x.i)) = zs ++ putRowF (x :: t) r d := by
  rw [show putRowF (x :: t) r d = (if !d && decide (r.i ≤ x.i) then [r] else []) ++ (if x.i != r.i then [x] else []) ++ putRowF t r (d || decide (r.i ≤ x.i)) by simp [putRowF]]
  rw [h, hne]
  simp
theorem putRow_here {x r : VR} {t : List VR} {d : Bool} {zs : List VR} (h : (!d && decide (r.i ≤ x.i)) = true) (hne : (x.i != r.i) = false) : (zs ++ [r]) ++ putRowF t r (d || decide (r.i ≤ x.i)) = zs ++ putRowF (x :: t) r d := by
  rw [show putRowF (x :: t) r d = (if !d && decide (r.i ≤ x.i) then [r] else []) ++ (if x.i != r.i then [x] else []) ++ putRowF t r (d || decide (r.i ≤ x.i)) by simp [putRowF]]
  rw [h, hne]
  simp

end Go.Proofs.Ytafonmfgeecopaa
