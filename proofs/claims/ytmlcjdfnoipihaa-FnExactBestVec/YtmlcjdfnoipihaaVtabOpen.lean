/-
  A table and a row that came in, opened.
-/
import Derived.Test.YtmlcjdfnoipihaaVrowMem
import Derived.Test.YtmlcjdfnoipihaaVlanBits
import Derived.WalkKit
import Derived.ProofKit
import Derived.OpenShut
import Derived.ShutString
import Derived.ChangeOld
import Derived.Below
import Derived.Lib.SmallJoins
namespace Go.Proofs.Ytmlcjdfnoipihaa
open Go.RowKit

section
open Go.ChangeShapes Go.WideShapes Go.ChangeAt
variable {H : Type} {enc : TypeId × Value → H} {P : Program} {w : World}

theorem wf_64 {n : Int} (h : (Lit.int .i64 n).wf = true) : I64 n := by
  unfold I64
  simp [Lit.wf, IntKind.min, IntKind.max, IntKind.bits, IntKind.signed] at h
  omega

theorem vrow_trod {tp ti : TypeId} {g0 g1 g2 : Field} (hs : P.underlying tp = some (.struct #[g0, g1, g2])) (hi : P.underlying ti = some (.int .i64))
    (e0 : g0.type = ti ∧ g0.offset = 0) (e1 : g1.type = ti ∧ g1.offset = 1) (e2 : g2.type = ti ∧ g2.offset = 2) (hC : P.cellsOf tp = 3) (hti : P.cellsOf ti = 1)
    {fuel : Nat} {cs : List Value} {x : DataW H × List MemPlace} (h : DataW.trod enc P w 0 (fun _ => true) true fuel tp cs = some x) : ∃ y, cs = vrowF.cs y ∧ y.Rng := by
  obtain ⟨xs, n, _, _, hlen, hxl, hq⟩ := DataW.trod_struct hs h
  rw [hC] at hlen
  match xs, hxl, cs, hlen with
  | [y0, y1, y2], _, [v0, v1, v2], _ =>
    have k0 := hq 0 g0 rfl
    have k1 := hq 1 g1 rfl
    have k2 := hq 2 g2 rfl
    rw [e0.1, e0.2, hti] at k0
    rw [e1.1, e1.2, hti] at k1
    rw [e2.1, e2.2, hti] at k2
    simp at k0 k1 k2
    obtain ⟨T, i0, -, r0⟩ := DataW.trod_int hi k0
    obtain ⟨M, i1, -, r1⟩ := DataW.trod_int hi k1
    obtain ⟨B, i2, -, r2⟩ := DataW.trod_int hi k2
    simp only [List.cons.injEq, and_true] at i0 i1 i2
    subst i0 i1 i2
    exact ⟨⟨T, M, B⟩, rfl, wf_64 r0, wf_64 r1, wf_64 r2⟩

theorem open_vrow {tp ti : TypeId} {g0 g1 g2 : Field} (hs : P.underlying tp = some (.struct #[g0, g1, g2])) (hi : P.underlying ti = some (.int .i64))
    (e0 : g0.type = ti ∧ g0.offset = 0) (e1 : g1.type = ti ∧ g1.offset = 1) (e2 : g2.type = ti ∧ g2.offset = 2) (hC : P.cellsOf tp = 3) (hti : P.cellsOf ti = 1)
    {r : Reach} {b0 : Nat} {v : Value} {d : DataW H} {p : List MemPlace} (hv : Value.okWide P w r b0 tp v) (h : DataW.Trod enc P w 0 (fun _ => true) true tp v d p) :
    ∃ y : VR, v = .agg #[.int .i64 y.i, .int .i64 y.m, .int .i64 y.b] ∧ y.Rng := by
  obtain ⟨cs, rfl, hsz⟩ := okWide_struct hs hv
  obtain ⟨fuel, hf⟩ := h
  obtain ⟨y, hy, hr⟩ := vrow_trod hs hi e0 e1 e2 hC hti hf
  refine ⟨y, ?_, hr⟩
  have : cs.toList = vrowF.cs y := hy
  have : cs = (vrowF.cs y).toArray := by rw [← this]
  rw [this]
  rfl

theorem open_vtab {tp ts tb tis ti : TypeId} {f0 f1 g0 g1 g2 : Field} (hs : P.underlying tp = some (.struct #[f0, f1])) (hone : Go.Deep.oneCellFields P #[f0, f1] = true) (hC : P.cellsOf tp = 2) (ef0 : f0.type = ts) (ef1 : f1.type = tis)
    (hts : P.underlying ts = some (.slice tb)) (htis : P.underlying tis = some (.slice ti)) (htb : P.underlying tb = some (.struct #[g0, g1, g2])) (hi : P.underlying ti = some (.int .i64))
    (e0 : g0.type = ti ∧ g0.offset = 0) (e1 : g1.type = ti ∧ g1.offset = 1) (e2 : g2.type = ti ∧ g2.offset = 2) (hCb : P.cellsOf tb = 3) (hti : P.cellsOf ti = 1)
    {r : Reach} {b0 : Nat} {v : Value} {d : DataW H} {p : List MemPlace} (hv : Value.okWide P w r b0 tp v) (h : DataW.Trod enc P w 0 (fun _ => true) true tp v d p) :
    ∃ a n c o p q t, v = .agg #[.slice a n c, .slice o p q] ∧ VTab w a n c o p q t ∧ ∀ x ∈ t.rows, x.Rng := by
  obtain ⟨v0, v1, y0, y1, m, rfl, -, -, hy0, hy1⟩ := Go.Joins.open_agg2 hs hone hC hv h
  rw [ef0] at hy0
  rw [ef1] at hy1
  obtain ⟨a, n, c, l, rfl, hl, hr⟩ := open_flat ⟨0, 0, 0⟩ vrowF VR.Rng hts hCb (fun h => vrow_trod htb hi e0 e1 e2 hCb hti h) hy0
  rcases open_ints htis hi hti hy1 with ⟨hcs, _⟩ | ⟨x, l', c', zs, hcs, _, hl', hm, hz, _, hcell, hwz⟩
  · simp only [List.cons.injEq, and_true] at hcs
    subst hcs
    exact ⟨a, n, c, none, 0, 0, ⟨l, []⟩, rfl, ⟨hl, irow_nil w⟩, hr⟩
  · simp only [List.cons.injEq, and_true] at hcs
    subst hcs
    exact ⟨a, n, c, some x, l', c', ⟨l, zs.take l'⟩, rfl, ⟨hl, irow_open hl' hm (by simpa using hz) hcell hwz⟩, hr⟩
end

end Go.Proofs.Ytmlcjdfnoipihaa
