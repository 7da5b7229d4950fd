/-
  The program's table of entries as it lies in memory: keys in their order, a map by these keys; the two kinds of map.
-/
import Derived.Test.YtmcikcpkggonfaaFdbKeys
import Derived.Test.YtmcikcpkggonfaaFdbImplA
import Derived.Test.YtmcikcpkggonfaaFlatOwn
namespace Go.Proofs.Ytmcikcpkggonfaa
open Go.RowKit Go.Maps

/-- A key's cells. -/
def fkF : Flat FK where
  k := 3
  cs := fun k => [.int .i64 k.1, .int .i64 k.2.1, .int .i64 k.2.2]
  len := fun _ => rfl
  pos := by decide
  one := fun _ v hv => by
    simp only [List.mem_cons, List.not_mem_nil, or_false] at hv
    rcases hv with rfl | rfl | rfl <;> rfl

theorem wf_of {n : Int} (h : -9223372036854775808 ≤ n ∧ n ≤ 9223372036854775807) : (Lit.int .i64 n).wf = true := by
  simp [Lit.wf, IntKind.min, IntKind.max, IntKind.bits, IntKind.signed]
  omega

theorem fk_laid : laidOutB Try.prog = true := by kernel_rfl
theorem fk_row : (60 : TypeId) < Try.prog.types.size := of_decide_eq_true (by kernel_rfl)
theorem fk_wide : (match Try.prog.underlying 60 with | some (.array _ _) | some (.struct _) => true | _ => false) = true := by kernel_rfl
theorem fk_law : Keyed Try.prog 60 := Keyed.of_law (deep_law_laid fk_laid (m := 2) (by omega) fk_row (by kernel_rfl) fk_wide)

def fkV (k : FK) : Value := .agg #[.int .i64 k.1, .int .i64 k.2.1, .int .i64 k.2.2]
def feV (e : FE) : Value := .agg #[.int .i64 e.t, .int .i64 e.m, .int .i64 e.p, .int .i64 e.a, .bool e.s]

theorem fk_key (k : FK) (h : FKok k) : ∃ l, keyOf Try.prog 60 (fkV k) = some l := by
  have w1 := wf_of h.1
  have w2 := wf_of h.2.1
  have w3 := wf_of h.2.2
  have h1 : Try.prog.keyType 60 = true := by kernel_rfl
  have hc3 : Try.prog.cellsOf 60 = 3 := by kernel_rfl
  have hc1 : Try.prog.cellsOf 3 = 1 := by kernel_rfl
  have h2 : (fkV k).formed Try.prog 60 = true := by simp [fkV, Value.formed, Try.underlying60, hc3]
  obtain ⟨q, hq⟩ : ∃ q, Try.prog.types.size = q + 1 := ⟨Try.prog.types.size - 1, by have : 0 < Try.prog.types.size := of_decide_eq_true (by kernel_rfl); omega⟩
  have h3 : Try.prog.keyLits (Try.prog.types.size + 1) 60 (fkV k).cells.toList = some [.int .i64 k.1, .int .i64 k.2.1, .int .i64 k.2.2] := by
    rw [hq]
    simp [Program.keyLits, fkV, Value.cells, Try.underlying60, Try.underlying3, hc3, hc1, w1, w2, w3]
  refine ⟨.string (keyBytes [.int .i64 k.1, .int .i64 k.2.1, .int .i64 k.2.2]), ?_⟩
  unfold keyOf
  rw [Try.underlying60]
  simp only [h1, h2, h3, Bool.and_self, if_true, Option.map_some]

theorem fkV_inj (a b : FK) (h : fkV a = fkV b) : a = b := by
  obtain ⟨a1, a2, a3⟩ := a
  obtain ⟨b1, b2, b3⟩ := b
  simp [fkV] at h
  obtain ⟨rfl, rfl, rfl⟩ := h
  rfl

/-- The map of entries. -/
def mE : MK Try.prog FK FE where
  T := 56
  K := 60
  E := 30
  law := fk_law
  und := Try.underlying56
  kv := fkV
  vv := feV
  ok := FKok
  key := fk_key
  inj := fkV_inj
  z := ⟨0, 0, 0, 0, false⟩
  zero := fun _ => by kernel_rfl

/-- The map of counts. -/
def mC : MK Try.prog FK Int where
  T := 74
  K := 60
  E := 3
  law := fk_law
  und := Try.underlying74
  kv := fkV
  vv := fun n => .int .i64 n
  ok := FKok
  key := fk_key
  inj := fkV_inj
  z := 0
  zero := fun _ => by kernel_rfl

/-- A table: its box, the keys in their order, the map. -/
structure TabN (N : Nat) (w : World) (base p bm : Nat) (ks : List FK) (g : FK → Option FE) : Prop where
  box : ∃ ao cap, w.heap[p]? = some (.cells #[.slice ao ks.length cap, .map (some bm)] 58) ∧ w.ownsRow base 60 3 (.slice ao ks.length cap) ks.length (fkF.all ks)
  map : MapIs mE w bm N g
  lp : base ≤ p
  lb : base ≤ bm
  oks : ∀ k ∈ ks, FKok k
  few : ks.length ≤ 16777216

abbrev Tab := TabN 16777216

theorem TabN.below {N : Nat} {w w' : World} {base p bm : Nat} {ks : List FK} {g : FK → Option FE} (h : TabN N w base p bm ks g) (hb : Below w.heap.size w w') : TabN N w' base p bm ks g := by
  obtain ⟨ao, cap, h1, h2⟩ := h.box
  exact ⟨⟨ao, cap, kept_block h1 hb, gown_below h2 hb⟩, h.map.kept hb, h.lp, h.lb, h.oks, h.few⟩

/-- The three cells of a key of a row. -/
theorem fk_at {w : World} {ao : Option Addr} {len cap : Nat} {l : List FK} (h : GRow fkF w ao len cap l) (i : Nat) (hi : i < len) : ∃ (x : FK) (b off : Nat), l[i]? = some x ∧ ao = some ⟨b, off, none⟩ ∧
    w.cell? ⟨b, off + i * 3, none⟩ = some (.int .i64 x.1) ∧ w.cell? ⟨b, off + i * 3 + 1, none⟩ = some (.int .i64 x.2.1) ∧ w.cell? ⟨b, off + i * 3 + 2, none⟩ = some (.int .i64 x.2.2) := by
  obtain ⟨x, b, off, hx, ha, hc⟩ := h.at i hi
  exact ⟨x, b, off, hx, ha, hc 0 _ rfl, hc 1 _ rfl, hc 2 _ rfl⟩

theorem fkInfo : (Try.prog.info? 60).map (fun i => (i.zero, i.size, i.bytes)) = some (some (.agg #[.int .i64 0, .int .i64 0, .int .i64 0]), fkF.k, 24) := by kernel_rfl

set_option maxRecDepth 100000 in
set_option maxHeartbeats 400000 in
theorem firstKey_any (e : FE) (w : World) :
    Calls Try.prog 42 #[.agg #[.int .i64 e.t, .int .i64 e.m, .int .i64 e.p, .int .i64 e.a, .bool e.s]] w fun r w' => r = .returned (.agg #[.int .i64 e.t, .int .i64 e.m, .int .i64 0]) ∧ Below w.heap.size w w' := by
  go_enter Try.func42, Try.ntmps42
  go_wp2
  exact bodyPost_ret (v := .agg #[.int .i64 e.t, .int .i64 e.m, .int .i64 0]) (by simp [results, Try.results42, go_sem, *]) rfl ⟨rfl, below_two _ _ _⟩

end Go.Proofs.Ytmcikcpkggonfaa
