/-
  What a slice of binds is to the walks: each bind's five cells, its two lists of numbers; how that reading stays; an argument as it is opened.
-/
import Derived.Test.YtamglfhnhjgdjaaPduMath
import Derived.Lib.SmallJoins
namespace Go.Proofs.Ytamglfhnhjgdjaa
open Go.RowKit

/-- A bind as it lies in memory: its name, its value, its value's name. -/
structure BI where
  oa : Option Addr
  on : Nat
  oc : Nat
  o : List Int
  K : Int
  N : Int
  S : ByteArray
  za : Option Addr
  zn : Nat
  zc : Nat
  z : List Int

/-- What it says. -/
def BI.d (x : BI) : BD := ⟨x.o, x.K, x.N, x.S, x.z⟩

structure BI.In (w : World) (x : BI) : Prop where
  o : IRow w x.oa x.on x.oc x.o
  z : IRow w x.za x.zn x.zc x.z
  s : x.S.size ≤ maxLen

/-- Its five cells from a place on. -/
def BI.At (w : World) (b p : Nat) (x : BI) : Prop :=
  w.cell? ⟨b, p, none⟩ = some (.slice x.oa x.on x.oc) ∧ w.cell? ⟨b, p + 1, none⟩ = some (.int .i64 x.K) ∧ w.cell? ⟨b, p + 2, none⟩ = some (.int .i64 x.N) ∧ w.cell? ⟨b, p + 3, none⟩ = some (.string x.S) ∧ w.cell? ⟨b, p + 4, none⟩ = some (.slice x.za x.zn x.zc)

structure BRow (w : World) (ao : Option Addr) (len cap : Nat) (l : List BI) : Prop where
  size : l.length = len
  le : len ≤ cap
  top : cap ≤ maxLen
  nil : ao = none → cap = 0
  item : ∀ x ∈ l, x.In w
  cell : len = 0 ∨ ∃ b off, ao = some ⟨b, off, none⟩ ∧ ∀ (i : Nat) (x : BI), l[i]? = some x → x.At w b (off + i * 5)

theorem BI.In.below {w w' : World} {x : BI} (h : x.In w) (hb : Below w.heap.size w w') : x.In w' := ⟨h.o.below hb, h.z.below hb, h.s⟩

theorem BI.At.below {w w' : World} {b p : Nat} {x : BI} (h : x.At w b p) (hb : Below w.heap.size w w') : x.At w' b p := by
  obtain ⟨h0, h1, h2, h3, h4⟩ := h
  exact ⟨(hb.cell (block_lt h0)).trans h0, (hb.cell (block_lt h1)).trans h1, (hb.cell (block_lt h2)).trans h2, (hb.cell (block_lt h3)).trans h3, (hb.cell (block_lt h4)).trans h4⟩

theorem BRow.below {w w' : World} {ao : Option Addr} {len cap : Nat} {l : List BI} (h : BRow w ao len cap l) (hb : Below w.heap.size w w') : BRow w' ao len cap l where
  size := h.size
  le := h.le
  top := h.top
  nil := h.nil
  item := fun x hx => (h.item x hx).below hb
  cell := by
    rcases h.cell with h0 | ⟨b, off, ha, hc⟩
    · exact .inl h0
    · exact .inr ⟨b, off, ha, fun i x hi => (hc i x hi).below hb⟩

theorem brow_nil (w : World) : BRow w none 0 0 [] := ⟨rfl, Nat.le_refl _, Nat.zero_le _, fun _ => rfl, (by intro x hx; cases hx), .inl rfl⟩

theorem BRow.at {w : World} {ao : Option Addr} {len cap : Nat} {l : List BI} (h : BRow w ao len cap l) (i : Nat) (hi : i < len) : ∃ x b off, l[i]? = some x ∧ ao = some ⟨b, off, none⟩ ∧ x.At w b (off + i * 5) ∧ x.In w := by
  have hl := h.size
  rcases h.cell with h0 | ⟨b, off, ha, hc⟩
  · omega
  · have hx : l[i]? = some l[i] := List.getElem?_eq_getElem (by omega)
    exact ⟨_, b, off, hx, ha, hc i _ hx, h.item _ (List.getElem_mem _)⟩

section
variable {H : Type} {enc : TypeId × Value → H} {P : Program} {w : World}

/-- The program's types that a bind is made of. -/
structure BindTypes (P : Program) (ts tb tv tsl ti tstr : TypeId) (fO fV f0 f1 f2 f3 : Field) : Prop where
  s : P.underlying ts = some (.slice tb)
  b : P.underlying tb = some (.struct #[fO, fV])
  v : P.underlying tv = some (.struct #[f0, f1, f2, f3])
  sl : P.underlying tsl = some (.slice ti)
  i : P.underlying ti = some (.int .i64)
  str : P.underlying tstr = some .string
  fO : fO.type = tsl ∧ fO.offset = 0
  fV : fV.type = tv ∧ fV.offset = 1
  f0 : f0.type = ti ∧ f0.offset = 0
  f1 : f1.type = ti ∧ f1.offset = 1
  f2 : f2.type = tstr ∧ f2.offset = 2
  f3 : f3.type = tsl ∧ f3.offset = 3
  cb : P.cellsOf tb = 5
  cv : P.cellsOf tv = 4
  ci : P.cellsOf ti = 1
  csl : P.cellsOf tsl = 1
  cstr : P.cellsOf tstr = 1

open Go.ChangeShapes Go.WideShapes Go.ChangeAt in
theorem irow_trod {tsl ti : TypeId} (hs : P.underlying tsl = some (.slice ti)) (hi : P.underlying ti = some (.int .i64)) (hc : P.cellsOf ti = 1) {fuel : Nat} {v : Value} {x : DataW H × List MemPlace} (h : DataW.trod enc P w 0 (fun _ => true) true fuel tsl [v] = some x) :
    ∃ a l c zs, v = .slice a l c ∧ IRow w a l c zs := by
  rcases open_ints hs hi hc h with ⟨hcs, _⟩ | ⟨a, l, c, zs, hcs, _, hl, hm, hz, _, hcell, hwz⟩
  · simp only [List.cons.injEq, and_true] at hcs
    subst hcs
    exact ⟨none, 0, 0, [], rfl, irow_nil w⟩
  · simp only [List.cons.injEq, and_true] at hcs
    subst hcs
    exact ⟨some a, l, c, zs.take l, rfl, irow_open hl hm (by simpa using hz) hcell hwz⟩

open Go.ChangeShapes Go.WideShapes Go.ChangeAt in
theorem bind_trod {ts tb tv tsl ti tstr : TypeId} {fO fV f0 f1 f2 f3 : Field} (T : BindTypes P ts tb tv tsl ti tstr fO fV f0 f1 f2 f3) {fuel : Nat} {cs : List Value} {x : DataW H × List MemPlace} (h : DataW.trod enc P w 0 (fun _ => true) true fuel tb cs = some x) :
    ∃ y : BI, y.In w ∧ cs = [.slice y.oa y.on y.oc, .int .i64 y.K, .int .i64 y.N, .string y.S, .slice y.za y.zn y.zc] := by
  obtain ⟨xs, n, _, _, hlen, hxl, hf⟩ := DataW.trod_struct T.b h
  rw [T.cb] at hlen
  match xs, hxl, cs, hlen with
  | [y0, y1], _, [v0, v1, v2, v3, v4], _ =>
    have g0 := hf 0 fO rfl
    have g1 := hf 1 fV rfl
    rw [T.fO.1, T.fO.2, T.csl] at g0
    rw [T.fV.1, T.fV.2, T.cv] at g1
    simp at g0 g1
    obtain ⟨oa, on, oc, o, rfl, ho⟩ := irow_trod T.sl T.i T.ci g0
    obtain ⟨xs', n', _, _, _, hxl', hf'⟩ := DataW.trod_struct T.v g1
    match xs', hxl' with
    | [u0, u1, u2, u3], _ =>
      have k0 := hf' 0 f0 rfl
      have k1 := hf' 1 f1 rfl
      have k2 := hf' 2 f2 rfl
      have k3 := hf' 3 f3 rfl
      rw [T.f0.1, T.f0.2, T.ci] at k0
      rw [T.f1.1, T.f1.2, T.ci] at k1
      rw [T.f2.1, T.f2.2, T.cstr] at k2
      rw [T.f3.1, T.f3.2, T.csl] at k3
      simp at k0 k1 k2 k3
      obtain ⟨K, e0, -, -⟩ := DataW.trod_int T.i k0
      obtain ⟨N, e1, -, -⟩ := DataW.trod_int T.i k1
      obtain ⟨S, e2, -, hS⟩ := DataW.trod_string T.str k2
      obtain ⟨za, zn, zc, z, rfl, hz⟩ := irow_trod T.sl T.i T.ci k3
      simp only [List.cons.injEq, and_true] at e0 e1 e2
      subst e0 e1 e2
      exact ⟨⟨oa, on, oc, o, K, N, S, za, zn, zc, z⟩, ⟨ho, hz, hS⟩, rfl⟩

open Go.ChangeShapes Go.WideShapes Go.ChangeAt in
/-- A slice of binds that came in. -/
theorem open_binds {ts tb tv tsl ti tstr : TypeId} {fO fV f0 f1 f2 f3 : Field} (T : BindTypes P ts tb tv tsl ti tstr fO fV f0 f1 f2 f3) {fuel : Nat} {v : Value} {x : DataW H × List MemPlace} (h : DataW.trod enc P w 0 (fun _ => true) true fuel ts [v] = some x) :
    ∃ ao len cap l, v = .slice ao len cap ∧ BRow w ao len cap l := by
  rcases Go.Deep.open_slice T.s h with ⟨hcs, _⟩ | ⟨a, len, cap, m, n, D, Pl, hcs, _, hl, hm, hmm, _, hx⟩
  · simp only [List.cons.injEq, and_true] at hcs
    subst hcs
    exact ⟨none, 0, 0, [], rfl, brow_nil w⟩
  · simp only [List.cons.injEq, and_true] at hcs
    subst hcs
    have hmc : m = cap := by simpa using hmm
    subst hmc
    have each : ∀ i, i < m → ∃ y : BI, y.In w ∧ ∀ j, j < 5 → w.cell? (a.add (i * 5 + j)) = [Value.slice y.oa y.on y.oc, .int .i64 y.K, .int .i64 y.N, .string y.S, .slice y.za y.zn y.zc][j]? := by
      intro i hi
      obtain ⟨cs', h1, h2⟩ := hx i hi
      rw [T.cb] at h1
      obtain ⟨_, _, hcell⟩ := World.cells?_some h1
      obtain ⟨y, hy, rfl⟩ := bind_trod T h2
      refine ⟨y, hy, fun j hj => ?_⟩
      have := hcell j hj
      rw [Go.Deep.add_add] at this
      exact this
    have : Inhabited BI := ⟨⟨none, 0, 0, [], 0, 0, ⟨#[]⟩, none, 0, 0, []⟩⟩
    obtain ⟨q, hq⟩ := Go.Deep.choose_lt each
    refine ⟨some a, len, m, (List.range len).map q, rfl, by simp, hl, hm, (by intro h; cases h), ?_, ?_⟩
    · intro y hy
      obtain ⟨i, hi, rfl⟩ := List.mem_map.1 hy
      exact (hq i (by have := List.mem_range.1 hi; omega)).1
    · by_cases h0 : len = 0
      · exact .inl h0
      · obtain ⟨b, off, spot⟩ := a
        have hspot : spot = none := by
          have := (hq 0 (by omega)).2 0 (by omega)
          simpa [Addr.add] using World.cell?_spot this
        subst hspot
        refine .inr ⟨b, off, rfl, fun i y hy => ?_⟩
        have hi : i < len := by
          have := (List.getElem?_eq_some_iff.1 hy).1
          simpa using this
        have hy' : q i = y := by
          rw [List.getElem?_map, List.getElem?_range hi] at hy
          simpa using hy
        subst hy'
        have c := (hq i (by omega)).2
        have c0 := c 0 (by omega); have c1 := c 1 (by omega); have c2 := c 2 (by omega); have c3 := c 3 (by omega); have c4 := c 4 (by omega)
        rw [add_none] at c0 c1 c2 c3 c4
        refine ⟨by simpa using c0, ?_, ?_, ?_, ?_⟩
        · rw [Nat.add_assoc]; simpa using c1
        · rw [Nat.add_assoc]; simpa using c2
        · rw [Nat.add_assoc]; simpa using c3
        · rw [Nat.add_assoc]; simpa using c4
end

end Go.Proofs.Ytamglfhnhjgdjaa
