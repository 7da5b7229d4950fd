/-
  Networks: rows and the ports' own networks, as the specification's functions go.
-/
import Derived.Test.YtmlcjdfnoipihaaMem
namespace Go.Proofs.Ytmlcjdfnoipihaa
open Go.RowKit

/-- A row: its number, its members, those that are shown bare. -/
structure VR where
  i : Int
  m : Int
  b : Int

/-- A table: its rows, the ports' own networks. -/
structure VT where
  rows : List VR
  own : List Int

def rowIdx (l : List VR) (id : Int) : Option Nat := l.findIdx? (fun r => r.i == id)
def rowAt (l : List VR) (id : Int) : Int := match rowIdx l id with
  | some k => k
  | none => -1

def in3 (x lo hi : Int) : Bool := decide (lo ≤ x) && decide (x ≤ hi)
def allOf (p : Nat) : Int := 2 ^ p - 1

def vrowOk (all : Int) (r : VR) : Bool := in3 r.i 1 99 && in3 r.m 0 all && in3 r.b 0 all && (bits .and .i64 r.b r.m == r.b)

def vrises : List VR → Bool
  | [] => true
  | [_] => true
  | e :: f :: r => decide (e.i < f.i) && vrises (f :: r)

def vtabOk (v : VT) (ports : Int) : Bool :=
  in3 ports 1 6 && ((v.own.length : Int) == ports) && decide (v.rows.length ≤ 6) && v.rows.all (vrowOk (allOf ports.toNat)) && vrises v.rows && v.own.all (fun p => (rowIdx v.rows p).isSome)

def bitOf (n port : Int) : Bool := in3 port 0 7 && (bits .and .i64 (n / 2 ^ port.toNat) 1 == 1)

def egressOf (v : VT) (id : Int) : Int := match v.rows.find? (fun r => r.i == id) with
  | some r => r.m
  | none => 0

def shownTag (v : VT) (id port : Int) : Int := match v.rows.find? (fun r => r.i == id) with
  | some r => if bitOf r.b port then 0 else id
  | none => 0

def putRowF (l : List VR) (r : VR) : Bool → List VR
  | d => match l with
    | [] => if d then [] else [r]
    | x :: t => (if !d && decide (r.i ≤ x.i) then [r] else []) ++ (if x.i != r.i then [x] else []) ++ putRowF t r (d || decide (r.i ≤ x.i))

/-- What stands at the place that was found, and that none stands ahead. -/
theorem rowIdx_found {l : List VR} {id : Int} {k : Nat} {x : VR} (hno : ∀ j y, j < k → l[j]? = some y → (y.i == id) = false) (hx : l[k]? = some x) (he : (x.i == id) = true) : rowIdx l id = some k := by
  obtain ⟨hk, rfl⟩ := List.getElem?_eq_some_iff.1 hx
  refine List.findIdx?_eq_some_iff_getElem.2 ⟨hk, he, fun j hj => ?_⟩
  have := hno j l[j] hj (List.getElem?_eq_getElem (by omega))
  simp [this]

theorem rowIdx_none {l : List VR} {id : Int} (hno : ∀ (j : Nat) (y : VR), l[j]? = some y → (y.i == id) = false) : rowIdx l id = none := by
  refine List.findIdx?_eq_none_iff.2 fun x hx => ?_
  obtain ⟨j, hj⟩ := List.mem_iff_getElem?.1 hx
  exact hno j x hj

theorem rowIdx_some {l : List VR} {id : Int} {k : Nat} (h : rowIdx l id = some k) : ∃ x, l[k]? = some x ∧ (x.i == id) = true ∧ l.find? (fun r => r.i == id) = some x := by
  obtain ⟨hk, he, hno⟩ := List.findIdx?_eq_some_iff_getElem.1 h
  refine ⟨l[k], List.getElem?_eq_getElem hk, he, ?_⟩
  refine List.find?_eq_some_iff_getElem.2 ⟨he, k, hk, rfl, fun j hj => ?_⟩
  have := hno j hj
  simpa using this

theorem rowIdx_find {l : List VR} {id : Int} (h : rowIdx l id = none) : l.find? (fun r => r.i == id) = none := by
  refine List.find?_eq_none.2 fun x hx => ?_
  have := List.findIdx?_eq_none_iff.1 h x hx
  simp [this]

theorem vno_next {l : List VR} {id : Int} {k : Nat} {x : VR} (hno : ∀ j y, j < k → l[j]? = some y → (y.i == id) = false) (hx : l[k]? = some x) (he : (x.i == id) = false) : ∀ j y, j < k + 1 → l[j]? = some y → (y.i == id) = false := by
  intro j y hj hy
  by_cases e : j = k
  · subst e
    rw [hx] at hy
    cases hy
    exact he
  · exact hno j y (by omega) hy

theorem rowAt_found {l : List VR} {id : Int} {k : Nat} {x : VR} (hno : ∀ j y, j < k → l[j]? = some y → (y.i == id) = false) (hx : l[k]? = some x) (he : (x.i == id) = true) : rowAt l id = k := by
  unfold rowAt
  rw [rowIdx_found hno hx he]
theorem rowAt_none {l : List VR} {id : Int} (hno : ∀ (j : Nat) (y : VR), l[j]? = some y → (y.i == id) = false) : rowAt l id = -1 := by
  unfold rowAt
  rw [rowIdx_none hno]

end Go.Proofs.Ytmlcjdfnoipihaa
