/-
  A request that came in as an argument: four numbers and a slice of binds.
-/
import Derived.Test.YtamglfhnhjgdjabQG
namespace Go.Proofs.Ytamglfhnhjgdjab
open Go.RowKit

section
variable {H : Type} {enc : TypeId × Value → H} {P : Program} {w : World}

open Go.ChangeShapes Go.WideShapes Go.ChangeAt in
theorem open_pdu {tp ts tb tv tsl ti tstr : TypeId} {fO fV f0 f1 f2 f3 g0 g1 g2 g3 g4 : Field} (T : BindTypes P ts tb tv tsl ti tstr fO fV f0 f1 f2 f3) (hs : P.underlying tp = some (.struct #[g0, g1, g2, g3, g4]))
    (e0 : g0.type = ti ∧ g0.offset = 0) (e1 : g1.type = ti ∧ g1.offset = 1) (e2 : g2.type = ti ∧ g2.offset = 2) (e3 : g3.type = ti ∧ g3.offset = 3) (e4 : g4.type = ts ∧ g4.offset = 4) (hC : P.cellsOf tp = 5) (hts : P.cellsOf ts = 1)
    {r : Reach} {b0 : Nat} {v : Value} {d : DataW H} {p : List MemPlace} (hv : Value.okWide P w r b0 tp v) (h : DataW.Trod enc P w 0 (fun _ => true) true tp v d p) :
    ∃ K I A B ao n c l, v = .agg #[.int .i64 K, .int .i64 I, .int .i64 A, .int .i64 B, .slice ao n c] ∧ BRow w ao n c l := by
  obtain ⟨cs, rfl, hsz⟩ := okWide_struct hs hv
  rw [hC] at hsz
  obtain ⟨fuel, hf⟩ := h
  obtain ⟨xs, n, _, _, _, hxl, hq⟩ := DataW.trod_struct hs hf
  rcases cs with ⟨cs⟩
  match cs, hsz, xs, hxl with
  | [v0, v1, v2, v3, v4], _, [y0, y1, y2, y3, y4], _ =>
    have k0 := hq 0 g0 rfl
    have k1 := hq 1 g1 rfl
    have k2 := hq 2 g2 rfl
    have k3 := hq 3 g3 rfl
    have k4 := hq 4 g4 rfl
    rw [e0.1, e0.2, T.ci] at k0
    rw [e1.1, e1.2, T.ci] at k1
    rw [e2.1, e2.2, T.ci] at k2
    rw [e3.1, e3.2, T.ci] at k3
    rw [e4.1, e4.2, hts] at k4
    simp [Value.cells] at k0 k1 k2 k3 k4
    obtain ⟨K, i0, -, -⟩ := DataW.trod_int T.i k0
    obtain ⟨I, i1, -, -⟩ := DataW.trod_int T.i k1
    obtain ⟨A, i2, -, -⟩ := DataW.trod_int T.i k2
    obtain ⟨B, i3, -, -⟩ := DataW.trod_int T.i k3
    obtain ⟨ao, m, c, l, rfl, hl⟩ := open_binds T k4
    simp only [List.cons.injEq, and_true] at i0 i1 i2 i3
    subst i0 i1 i2 i3
    exact ⟨K, I, A, B, ao, m, c, l, rfl, hl⟩
end

end Go.Proofs.Ytamglfhnhjgdjab
