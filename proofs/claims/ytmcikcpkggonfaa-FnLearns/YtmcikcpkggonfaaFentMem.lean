/-
  Entries of who is where as they lie in memory: five cells each; an argument as it is opened.
-/
import Derived.Test.YtmcikcpkggonfaaFlat
import Derived.Test.YtmcikcpkggonfaaFdbMath
namespace Go.Proofs.Ytmcikcpkggonfaa
open Go.RowKit

/-- An entry's cells. -/
def fentF : Flat FE where
  k := 5
  cs := fun e => [.int .i64 e.t, .int .i64 e.m, .int .i64 e.p, .int .i64 e.a, .bool e.s]
  len := fun _ => rfl
  pos := by decide
  one := fun _ v hv => by
    simp only [List.mem_cons, List.not_mem_nil, or_false] at hv
    rcases hv with rfl | rfl | rfl | rfl | rfl <;> rfl

theorem wf_i64 {n : Int} (h : (Lit.int .i64 n).wf = true) : -9223372036854775808 ≤ n ∧ n ≤ 9223372036854775807 := by
  simp [Lit.wf, IntKind.min, IntKind.max, IntKind.bits, IntKind.signed] at h
  omega

/-- Its numbers are ints. -/
def FE.Rng (e : FE) : Prop := (-9223372036854775808 ≤ e.t ∧ e.t ≤ 9223372036854775807) ∧ (-9223372036854775808 ≤ e.m ∧ e.m ≤ 9223372036854775807) ∧ (-9223372036854775808 ≤ e.p ∧ e.p ≤ 9223372036854775807) ∧ (-9223372036854775808 ≤ e.a ∧ e.a ≤ 9223372036854775807)

/-- The five cells of the entry at a place. -/
theorem fent_at {w : World} {ao : Option Addr} {len cap : Nat} {l : List FE} (h : GRow fentF w ao len cap l) (i : Nat) (hi : i < len) : ∃ (x : FE) (b off : Nat), l[i]? = some x ∧ ao = some ⟨b, off, none⟩ ∧
    w.cell? ⟨b, off + i * 5, none⟩ = some (.int .i64 x.t) ∧ w.cell? ⟨b, off + i * 5 + 1, none⟩ = some (.int .i64 x.m) ∧ w.cell? ⟨b, off + i * 5 + 2, none⟩ = some (.int .i64 x.p) ∧ w.cell? ⟨b, off + i * 5 + 3, none⟩ = some (.int .i64 x.a) ∧ w.cell? ⟨b, off + i * 5 + 4, none⟩ = some (.bool x.s) := by
  obtain ⟨x, b, off, hx, ha, hc⟩ := h.at i hi
  exact ⟨x, b, off, hx, ha, hc 0 _ rfl, hc 1 _ rfl, hc 2 _ rfl, hc 3 _ rfl, hc 4 _ rfl⟩

section
open Go.ChangeShapes Go.WideShapes Go.ChangeAt
variable {H : Type} {enc : TypeId × Value → H} {P : Program} {w : World}

theorem fent_trod {tp ti tb : TypeId} {g0 g1 g2 g3 g4 : Field} (hs : P.underlying tp = some (.struct #[g0, g1, g2, g3, g4])) (hi : P.underlying ti = some (.int .i64)) (hb : P.underlying tb = some .bool)
    (e0 : g0.type = ti ∧ g0.offset = 0) (e1 : g1.type = ti ∧ g1.offset = 1) (e2 : g2.type = ti ∧ g2.offset = 2) (e3 : g3.type = ti ∧ g3.offset = 3) (e4 : g4.type = tb ∧ g4.offset = 4) (hC : P.cellsOf tp = 5) (hti : P.cellsOf ti = 1) (htb : P.cellsOf tb = 1)
    {fuel : Nat} {cs : List Value} {x : DataW H × List MemPlace} (h : DataW.trod enc P w 0 (fun _ => true) true fuel tp cs = some x) : ∃ y, cs = fentF.cs y ∧ y.Rng := by
  obtain ⟨xs, n, _, _, hlen, hxl, hq⟩ := DataW.trod_struct hs h
  rw [hC] at hlen
  match xs, hxl, cs, hlen with
  | [y0, y1, y2, y3, y4], _, [v0, v1, v2, v3, v4], _ =>
    have k0 := hq 0 g0 rfl
    have k1 := hq 1 g1 rfl
    have k2 := hq 2 g2 rfl
    have k3 := hq 3 g3 rfl
    have k4 := hq 4 g4 rfl
    rw [e0.1, e0.2, hti] at k0
    rw [e1.1, e1.2, hti] at k1
    rw [e2.1, e2.2, hti] at k2
    rw [e3.1, e3.2, hti] at k3
    rw [e4.1, e4.2, htb] at k4
    simp at k0 k1 k2 k3 k4
    obtain ⟨T, i0, -, r0⟩ := DataW.trod_int hi k0
    obtain ⟨M, i1, -, r1⟩ := DataW.trod_int hi k1
    obtain ⟨P', i2, -, r2⟩ := DataW.trod_int hi k2
    obtain ⟨A, i3, -, r3⟩ := DataW.trod_int hi k3
    obtain ⟨S, i4, -⟩ := DataW.trod_bool hb k4
    simp only [List.cons.injEq, and_true] at i0 i1 i2 i3 i4
    subst i0 i1 i2 i3 i4
    exact ⟨⟨T, M, P', A, S⟩, rfl, wf_i64 r0, wf_i64 r1, wf_i64 r2, wf_i64 r3⟩
end

end Go.Proofs.Ytmcikcpkggonfaa
