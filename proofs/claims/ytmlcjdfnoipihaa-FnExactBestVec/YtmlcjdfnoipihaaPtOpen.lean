/-
  A port, and a slice of ports, that came in, opened.
-/
import Derived.Test.YtmlcjdfnoipihaaPtMem
import Derived.Test.YtmlcjdfnoipihaaVtabOpen
namespace Go.Proofs.Ytmlcjdfnoipihaa
open Go.RowKit

/-- Its numbers are ints. -/
def PT.Rng (x : PT) : Prop := I64 x.k ∧ I64 x.v.r ∧ I64 x.v.c ∧ I64 x.v.h ∧ I64 x.v.b ∧ I64 x.v.p

section
open Go.ChangeShapes Go.WideShapes Go.ChangeAt
variable {H : Type} {enc : TypeId × Value → H} {P : Program} {w : World}

theorem vec_trod {tp ti : TypeId} {g0 g1 g2 g3 g4 : Field} (hs : P.underlying tp = some (.struct #[g0, g1, g2, g3, g4])) (hi : P.underlying ti = some (.int .i64))
    (e0 : g0.type = ti ∧ g0.offset = 0) (e1 : g1.type = ti ∧ g1.offset = 1) (e2 : g2.type = ti ∧ g2.offset = 2) (e3 : g3.type = ti ∧ g3.offset = 3) (e4 : g4.type = ti ∧ g4.offset = 4) (hC : P.cellsOf tp = 5) (hti : P.cellsOf ti = 1)
    {fuel : Nat} {cs : List Value} {x : DataW H × List MemPlace} (h : DataW.trod enc P w 0 (fun _ => true) true fuel tp cs = some x) : ∃ y : VD, cs = [.int .i64 y.r, .int .i64 y.c, .int .i64 y.h, .int .i64 y.b, .int .i64 y.p] ∧ I64 y.r ∧ I64 y.c ∧ I64 y.h ∧ I64 y.b ∧ I64 y.p := by
  obtain ⟨xs, n, _, _, hlen, hxl, hq⟩ := DataW.trod_struct hs h
  rw [hC] at hlen
  match xs, hxl, cs, hlen with
  | [y0, y1, y2, y3, y4], _, [v0, v1, v2, v3, v4], _ =>
    have k0 := hq 0 g0 rfl
    have k1 := hq 1 g1 rfl
    have k2 := hq 2 g2 rfl
    have k3 := hq 3 g3 rfl
    have k4 := hq 4 g4 rfl
    rw [e0.1, e0.2, hti] at k0
    rw [e1.1, e1.2, hti] at k1
    rw [e2.1, e2.2, hti] at k2
    rw [e3.1, e3.2, hti] at k3
    rw [e4.1, e4.2, hti] at k4
    simp at k0 k1 k2 k3 k4
    obtain ⟨A, i0, -, r0⟩ := DataW.trod_int hi k0
    obtain ⟨B, i1, -, r1⟩ := DataW.trod_int hi k1
    obtain ⟨C, i2, -, r2⟩ := DataW.trod_int hi k2
    obtain ⟨D, i3, -, r3⟩ := DataW.trod_int hi k3
    obtain ⟨E, i4, -, r4⟩ := DataW.trod_int hi k4
    simp only [List.cons.injEq, and_true] at i0 i1 i2 i3 i4
    subst i0 i1 i2 i3 i4
    exact ⟨⟨A, B, C, D, E⟩, rfl, wf_64 r0, wf_64 r1, wf_64 r2, wf_64 r3, wf_64 r4⟩

theorem pt_trod {tp tv ti tb : TypeId} {f0 f1 f2 f3 g0 g1 g2 g3 g4 : Field} (hp : P.underlying tp = some (.struct #[f0, f1, f2, f3])) (hs : P.underlying tv = some (.struct #[g0, g1, g2, g3, g4])) (hi : P.underlying ti = some (.int .i64)) (hb : P.underlying tb = some .bool)
    (e0 : g0.type = ti ∧ g0.offset = 0) (e1 : g1.type = ti ∧ g1.offset = 1) (e2 : g2.type = ti ∧ g2.offset = 2) (e3 : g3.type = ti ∧ g3.offset = 3) (e4 : g4.type = ti ∧ g4.offset = 4)
    (d0 : f0.type = tb ∧ f0.offset = 0) (d1 : f1.type = ti ∧ f1.offset = 1) (d2 : f2.type = tb ∧ f2.offset = 2) (d3 : f3.type = tv ∧ f3.offset = 3)
    (hC : P.cellsOf tp = 8) (hCv : P.cellsOf tv = 5) (hti : P.cellsOf ti = 1) (htb : P.cellsOf tb = 1)
    {fuel : Nat} {cs : List Value} {x : DataW H × List MemPlace} (h : DataW.trod enc P w 0 (fun _ => true) true fuel tp cs = some x) : ∃ y, cs = ptF.cs y ∧ y.Rng := by
  obtain ⟨xs, n, _, _, hlen, hxl, hq⟩ := DataW.trod_struct hp h
  rw [hC] at hlen
  match xs, hxl, cs, hlen with
  | [y0, y1, y2, y3], _, [v0, v1, v2, v3, v4, v5, v6, v7], _ =>
    have k0 := hq 0 f0 rfl
    have k1 := hq 1 f1 rfl
    have k2 := hq 2 f2 rfl
    have k3 := hq 3 f3 rfl
    rw [d0.1, d0.2, htb] at k0
    rw [d1.1, d1.2, hti] at k1
    rw [d2.1, d2.2, htb] at k2
    rw [d3.1, d3.2, hCv] at k3
    simp at k0 k1 k2 k3
    obtain ⟨U, i0, -⟩ := DataW.trod_bool hb k0
    obtain ⟨K, i1, -, r1⟩ := DataW.trod_int hi k1
    obtain ⟨A, i2, -⟩ := DataW.trod_bool hb k2
    obtain ⟨V, i3, s0, s1, s2, s3, s4⟩ := vec_trod hs hi e0 e1 e2 e3 e4 hCv hti k3
    simp only [List.cons.injEq, and_true] at i0 i1 i2 i3
    obtain ⟨j0, j1, j2, j3, j4⟩ := i3
    subst i0 i1 i2 j0 j1 j2 j3 j4
    exact ⟨⟨U, K, A, V⟩, rfl, wf_64 r1, s0, s1, s2, s3, s4⟩

theorem open_pt {tp tv ti tb : TypeId} {f0 f1 f2 f3 g0 g1 g2 g3 g4 : Field} (hp : P.underlying tp = some (.struct #[f0, f1, f2, f3])) (hs : P.underlying tv = some (.struct #[g0, g1, g2, g3, g4])) (hi : P.underlying ti = some (.int .i64)) (hb : P.underlying tb = some .bool)
    (e0 : g0.type = ti ∧ g0.offset = 0) (e1 : g1.type = ti ∧ g1.offset = 1) (e2 : g2.type = ti ∧ g2.offset = 2) (e3 : g3.type = ti ∧ g3.offset = 3) (e4 : g4.type = ti ∧ g4.offset = 4)
    (d0 : f0.type = tb ∧ f0.offset = 0) (d1 : f1.type = ti ∧ f1.offset = 1) (d2 : f2.type = tb ∧ f2.offset = 2) (d3 : f3.type = tv ∧ f3.offset = 3)
    (hC : P.cellsOf tp = 8) (hCv : P.cellsOf tv = 5) (hti : P.cellsOf ti = 1) (htb : P.cellsOf tb = 1)
    {r : Reach} {b0 : Nat} {v : Value} {d : DataW H} {p : List MemPlace} (hv : Value.okWide P w r b0 tp v) (h : DataW.Trod enc P w 0 (fun _ => true) true tp v d p) :
    ∃ y : PT, v = ptV y ∧ y.Rng := by
  obtain ⟨cs, rfl, hsz⟩ := okWide_struct hp hv
  obtain ⟨fuel, hf⟩ := h
  obtain ⟨y, hy, hr⟩ := pt_trod hp hs hi hb e0 e1 e2 e3 e4 d0 d1 d2 d3 hC hCv hti htb hf
  refine ⟨y, ?_, hr⟩
  have : cs.toList = ptF.cs y := hy
  have : cs = (ptF.cs y).toArray := by rw [← this]
  rw [this]
  rfl

theorem open_pts {ts tp tv ti tb : TypeId} {f0 f1 f2 f3 g0 g1 g2 g3 g4 : Field} (hts : P.underlying ts = some (.slice tp)) (hp : P.underlying tp = some (.struct #[f0, f1, f2, f3])) (hs : P.underlying tv = some (.struct #[g0, g1, g2, g3, g4])) (hi : P.underlying ti = some (.int .i64)) (hb : P.underlying tb = some .bool)
    (e0 : g0.type = ti ∧ g0.offset = 0) (e1 : g1.type = ti ∧ g1.offset = 1) (e2 : g2.type = ti ∧ g2.offset = 2) (e3 : g3.type = ti ∧ g3.offset = 3) (e4 : g4.type = ti ∧ g4.offset = 4)
    (d0 : f0.type = tb ∧ f0.offset = 0) (d1 : f1.type = ti ∧ f1.offset = 1) (d2 : f2.type = tb ∧ f2.offset = 2) (d3 : f3.type = tv ∧ f3.offset = 3)
    (hC : P.cellsOf tp = 8) (hCv : P.cellsOf tv = 5) (hti : P.cellsOf ti = 1) (htb : P.cellsOf tb = 1)
    {fuel : Nat} {v : Value} {x : DataW H × List MemPlace} (h : DataW.trod enc P w 0 (fun _ => true) true fuel ts [v] = some x) :
    ∃ a n c l, v = .slice a n c ∧ GRow ptF w a n c l ∧ ∀ x ∈ l, x.Rng :=
  open_flat ⟨false, 0, false, ⟨0, 0, 0, 0, 0⟩⟩ ptF PT.Rng hts hC (fun h => pt_trod hp hs hi hb e0 e1 e2 e3 e4 d0 d1 d2 d3 hC hCv hti htb h) h
end

end Go.Proofs.Ytmlcjdfnoipihaa
