/-
  Ports: what they are, how they lie in memory (eight cells each), which vector is the best, what is said, what a port is for.
-/
import Derived.Test.YtmlcjdfnoipihaaFlatOwn
import Derived.Test.YtmlcjdfnoipihaaVecSpec
namespace Go.Proofs.Ytmlcjdfnoipihaa
open Go.RowKit

structure PT where
  up : Bool
  k : Int
  has : Bool
  v : VD

def vdV (v : VD) : Value := .agg #[.int .i64 v.r, .int .i64 v.c, .int .i64 v.h, .int .i64 v.b, .int .i64 v.p]
def ptV (x : PT) : Value := .agg #[.bool x.up, .int .i64 x.k, .bool x.has, .int .i64 x.v.r, .int .i64 x.v.c, .int .i64 x.v.h, .int .i64 x.v.b, .int .i64 x.v.p]

def ptF : Flat PT where
  k := 8
  cs := fun x => [.bool x.up, .int .i64 x.k, .bool x.has, .int .i64 x.v.r, .int .i64 x.v.c, .int .i64 x.v.h, .int .i64 x.v.b, .int .i64 x.v.p]
  len := fun _ => rfl
  pos := by decide
  one := fun _ v hv => by
    simp only [List.mem_cons, List.not_mem_nil, or_false] at hv
    rcases hv with rfl | rfl | rfl | rfl | rfl | rfl | rfl | rfl <;> rfl

theorem pt_at {w : World} {ao : Option Addr} {len cap : Nat} {l : List PT} (h : GRow ptF w ao len cap l) (i : Nat) (hi : i < len) : ∃ (x : PT) (b off : Nat), l[i]? = some x ∧ ao = some ⟨b, off, none⟩ ∧
    w.cell? ⟨b, off + i * 8, none⟩ = some (.bool x.up) ∧ w.cell? ⟨b, off + i * 8 + 1, none⟩ = some (.int .i64 x.k) ∧ w.cell? ⟨b, off + i * 8 + 2, none⟩ = some (.bool x.has) ∧
    w.cell? ⟨b, off + i * 8 + 3, none⟩ = some (.int .i64 x.v.r) ∧ w.cell? ⟨b, off + i * 8 + 4, none⟩ = some (.int .i64 x.v.c) ∧ w.cell? ⟨b, off + i * 8 + 5, none⟩ = some (.int .i64 x.v.h) ∧ w.cell? ⟨b, off + i * 8 + 6, none⟩ = some (.int .i64 x.v.b) ∧ w.cell? ⟨b, off + i * 8 + 7, none⟩ = some (.int .i64 x.v.p) := by
  obtain ⟨x, b, off, hx, ha, hc⟩ := h.at i hi
  exact ⟨x, b, off, hx, ha, hc 0 _ rfl, hc 1 _ rfl, hc 2 _ rfl, hc 3 _ rfl, hc 4 _ rfl, hc 5 _ rfl, hc 6 _ rfl, hc 7 _ rfl⟩

/-- Is the port right? -/
def zeroVc (v : VD) : Bool := v.r == 0 && (v.c == 0 && (v.h == 0 && (v.b == 0 && v.p == 0)))
def okVd (v : VD) : Bool := okVc v.r v.c v.h v.b v.p
def ptOk (x : PT) : Bool := (decide (1 ≤ x.k) && decide (x.k ≤ 1000)) && ((x.up || !x.has) && (if x.has then okVd x.v else zeroVc x.v))

/-- A vector a step further. -/
def stepV (v : VD) (k : Int) : VD := ⟨v.r, v.c + k, v.h + 1, v.b, v.p⟩
def stepsV (v : VD) (k : Int) : Bool := stepOk v.r v.c v.h v.b v.p k
def lessV (u v : VD) : Bool := lessVc u.r u.c u.b u.p v.r v.c v.b v.p

/-- What a port offers: there, and of a lesser root. -/
def offers (id : Int) (x : PT) : Bool := x.up && (x.has && (stepsV x.v x.k && decide (x.v.r < id)))

/-- The best of the first ports: its vector and its place. -/
def bestStep (id : Int) (s : Option (VD × Nat)) (i : Nat) (x : PT) : Option (VD × Nat) :=
  if offers id x = true then
    match s with
    | none => some (stepV x.v x.k, i)
    | some (f, j) => if lessV (stepV x.v x.k) f = true then some (stepV x.v x.k, i) else some (f, j)
  else s
def bestTo (id : Int) (l : List PT) : Nat → Option (VD × Nat)
  | 0 => none
  | k + 1 => match l[k]? with
    | some x => bestStep id (bestTo id l k) k x
    | none => bestTo id l k
def bestOf (id : Int) (l : List PT) : Option (VD × Nat) := bestTo id l l.length

def bestV (id : Int) : Option (VD × Nat) → VD
  | none => ⟨id, 0, 0, id, 0⟩
  | some (f, _) => ⟨f.r, f.c, f.h, id, 0⟩
def bestP : Option (VD × Nat) → Int
  | none => -1
  | some (_, j) => (j : Int)
def fromV : Option (VD × Nat) → VD
  | none => ⟨0, 0, 0, 0, 0⟩
  | some (f, _) => f

theorem bestTo_next {id : Int} {l : List PT} {k : Nat} {x : PT} (h : l[k]? = some x) : bestTo id l (k + 1) = bestStep id (bestTo id l k) k x := by
  rw [bestTo, h]

theorem bestStep_no {id : Int} {s : Option (VD × Nat)} {i : Nat} {x : PT} (h : offers id x = false) : bestStep id s i x = s := by
  unfold bestStep
  rw [if_neg (by simp [h])]

/-- The place of the best lies below. -/
theorem bestTo_lt {id : Int} {l : List PT} : ∀ {k : Nat} {f : VD} {j : Nat}, bestTo id l k = some (f, j) → j < k
  | 0, f, j, h => by simp [bestTo] at h
  | k + 1, f, j, h => by
    rw [bestTo] at h
    cases hx : l[k]? with
    | none =>
      rw [hx] at h
      have := bestTo_lt (k := k) h
      omega
    | some x =>
      rw [hx] at h
      simp only [bestStep] at h
      split at h
      · cases hs : bestTo id l k with
        | none =>
          rw [hs] at h
          simp at h
          omega
        | some s =>
          obtain ⟨g, i⟩ := s
          rw [hs] at h
          simp only at h
          have := bestTo_lt hs
          split at h <;> simp at h <;> omega
      · have := bestTo_lt h
        omega

def sayV (id : Int) (l : List PT) (port : Int) : VD := ⟨(bestV id (bestOf id l)).r, (bestV id (bestOf id l)).c, (bestV id (bestOf id l)).h, id, port⟩

/-- What a port is for. -/
def roleAt (id : Int) (l : List PT) (i : Nat) (x : PT) : Int :=
  if x.up = false then 4
  else if bestP (bestOf id l) = (i : Int) then 1
  else if (!x.has || lessV (sayV id l i) x.v) = true then 2
  else 3
def roleOf (id : Int) (l : List PT) (port : Int) : Int :=
  if (decide (0 ≤ port) && decide (port ≤ (l.length : Int) - 1)) = true then
    match l[port.toNat]? with
    | some x => roleAt id l port.toNat x
    | none => 4
  else 4

def sendsTo (id : Int) (l : List PT) : Nat → Int
  | 0 => 0
  | k + 1 => if roleOf id l (k : Int) ≤ 2 then bits .or .i64 (sendsTo id l k) (2 ^ k) else sendsTo id l k
def sendsOf (id : Int) (l : List PT) : Int := sendsTo id l (min l.length 6)

end Go.Proofs.Ytmlcjdfnoipihaa
