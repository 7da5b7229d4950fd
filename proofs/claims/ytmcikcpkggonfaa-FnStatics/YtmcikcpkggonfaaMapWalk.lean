/-
  A range over the program's map of entries, for the walk; what the map is while it goes on: what came already is made another one or gone, what is still to come is as it was.
-/
import Derived.Test.YtmcikcpkggonfaaFdbTable
namespace Go.Proofs.Ytmcikcpkggonfaa
open Go.RowKit

/-- The range begins. -/
theorem wpList_range_fe (w : World) {ops : Array Oper} {rest : List Oper} {o : Oper} {a : Act} {Q : Exit → Act → World → Prop} (hg : o.guard = none) (m : Operand) (hop : o.op = Op.range 56 m) (b n : Nat) (g : FK → Option FE)
    (hm : a.eval m = .map (some b)) (h : MapIs mE w b n g)
    (hK : ∀ w' cnt, Ranging mE w' b w.heap.size n g (fun k => (g k).isSome) cnt → Below w.heap.size w w' → w'.heap.size = w.heap.size + 1 → wpList Try.prog ops Q rest (a.put o.dst (.pointer (some ⟨w.heap.size, 0, none⟩))) w') :
    wpList Try.prog ops Q (o :: rest) a w := by
  refine wpList_plain hg fun K' hK' => ?_
  obtain ⟨w', cnt, hrun, r1, r2, r3⟩ := h.range
  have hrun : (Instr.range 56 (.map (some b))).run Try.prog w = .ok (.pointer (some ⟨w.heap.size, 0, none⟩)) w' := hrun
  unfold Oper.wp
  simp [execOp, hop, hm, hrun, Result.andThen]
  exact hK' _ _ (hK w' cnt r1 r2 r3)

/-- What a step hands out: a key, an element, the world behind it, how many are left. -/
structure NxS where
  y : FK
  v : FE
  w : World
  cnt : Nat

/-- What is known of it. -/
structure NxOk (w : World) (b r n : Nat) (g : FK → Option FE) (left : FK → Bool) (cnt : Nat) (s : NxS) : Prop where
  ok : FKok s.y
  lf : left s.y = true
  gt : g s.y = some s.v
  rg : Ranging mE s.w b r n g (upd left s.y false) s.cnt
  lt : s.cnt < cnt
  gr : w.grownBy s.w (some r)
  en : (Instr.entry (.pointer (some ⟨r, 0, none⟩))).run Try.prog s.w = .ok (.tuple #[.agg #[.int .i64 s.y.1, .int .i64 s.y.2.1, .int .i64 s.y.2.2], .agg #[.int .i64 s.v.t, .int .i64 s.v.m, .int .i64 s.v.p, .int .i64 s.v.a, .bool s.v.s]]) s.w

/-- Nothing is still to come. -/
def noneLeft (left : FK → Bool) : Prop := ∀ k, left k = false

/-- The step. -/
theorem wpList_next_fe (w : World) {ops : Array Oper} {rest : List Oper} {o : Oper} {a : Act} {Q : Exit → Act → World → Prop} (hg : o.guard = none) (it : Operand) (hop : o.op = Op.next it false) (b r n : Nat) (g : FK → Option FE) (left : FK → Bool) (cnt : Nat)
    (hit : a.eval it = .pointer (some ⟨r, 0, none⟩)) (h : Ranging mE w b r n g left cnt)
    (hDone : noneLeft left → wpList Try.prog ops Q rest (a.put o.dst (.tuple #[.bool false])) w)
    (hMore : ∀ s : NxS, NxOk w b r n g left cnt s →
      wpList Try.prog ops Q rest (a.put o.dst (.tuple #[.bool true, .agg #[.int .i64 s.y.1, .int .i64 s.y.2.1, .int .i64 s.y.2.2], .agg #[.int .i64 s.v.t, .int .i64 s.v.m, .int .i64 s.v.p, .int .i64 s.v.a, .bool s.v.s]])) s.w) :
    wpList Try.prog ops Q (o :: rest) a w := by
  refine wpList_plain hg fun K' hK' => ?_
  unfold Oper.wp
  rcases h.next o.type with ⟨_, hl, hrun⟩ | ⟨y, v, w', cnt', h1, h2, h3, hrun, h4, h5, h6, h7, h8⟩
  · simp [execOp, hop, hit, hrun, Result.andThen]
    exact hK' _ _ (hDone hl)
  · simp [execOp, hop, hit, hrun, Result.andThen]
    exact hK' _ _ (hMore ⟨y, v, w', cnt'⟩ ⟨h1, h2, h3, h4, h5, h6, h8⟩)

/-- The map while the range goes on. -/
def midF (f : FE → Option FE) (g : FK → Option FE) (left : FK → Bool) : FK → Option FE := fun k => if left k = true then g k else (g k).bind f

theorem mid_start (f : FE → Option FE) (g : FK → Option FE) : midF f g (fun k => (g k).isSome) = g := by
  funext k
  unfold midF
  cases h : g k <;> simp [h]

theorem mid_end (f : FE → Option FE) (g : FK → Option FE) {left : FK → Bool} (h : ∀ k, left k = false) : midF f g left = fun k => (g k).bind f := by
  funext k
  unfold midF
  rw [h k]
  rfl

theorem mid_at {f : FE → Option FE} {g : FK → Option FE} {left : FK → Bool} {y : FK} {v : FE} (h : left y = true) (hv : midF f g left y = some v) : g y = some v := by
  unfold midF at hv
  rw [if_pos h] at hv
  exact hv

theorem mid_next {f : FE → Option FE} {g : FK → Option FE} {left : FK → Bool} {y : FK} {v : FE} (h : left y = true) (hv : midF f g left y = some v) : upd (midF f g left) y (f v) = midF f g (upd left y false) := by
  have hg := mid_at h hv
  funext k
  by_cases e : k = y
  · subst e
    rw [upd_same]
    unfold midF
    rw [upd_same, hg]
    rfl
  · rw [upd_other _ _ e]
    unfold midF
    rw [upd_other left _ e]

theorem ents_mem {l : List FE} {k : FK} {e : FE} (h : entsOf l k = some e) : e ∈ l := by
  by_cases hk : k ∈ keysOf l
  · obtain ⟨i, hi⟩ := List.getElem?_of_mem hk
    obtain ⟨e', he', hk'⟩ := keys_at hi
    rw [h] at hk'
    cases hk'
    exact List.mem_of_getElem? he'
  · rw [ents_none l hk] at h
    cases h

end Go.Proofs.Ytmcikcpkggonfaa
