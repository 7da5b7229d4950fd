/-
  gatherOid by its contract: over whatever iterator hands out the numbers xs, each with whether it is right: the numbers, where all are right and make a name; else nothing and false.
-/
import Derived.Test.YtfjojchenmdhdaaOidOk
import Derived.RangeFuncBound
import Derived.RangeFuncCalls
import Derived.RangeFuncLeaves
import Derived.RangeFuncBox
import Derived.Shelf.Abstract
import Derived.WalkKit
import Derived.OwnWalkIn
import Derived.TacticsInMore
import Derived.LoopNIn
import Derived.LoopIn
import Derived.Maps.AppendAt
namespace Go.Proofs.Ytfjojchenmdhdaa
open Go.RowKit Go.Shelf

attribute [local go_sem] Oper.semAt_some

/-- A number that is handed out, and whether it is right. -/
abbrev encs (x : Int × Bool) : Array Value := #[.int .i64 x.1, .bool x.2]

def nums (xs : List (Int × Bool)) : List Int := xs.map (·.1)
/-- One that is not right has come, or too many. -/
def Bad (pre : List (Int × Bool)) : Prop := (∃ x ∈ pre, x.2 = false) ∨ 10 < pre.length

theorem nums_snoc (pre : List (Int × Bool)) (x : Int × Bool) : nums (pre ++ [x]) = nums pre ++ [x.1] := by simp [nums]
theorem nums_length (pre : List (Int × Bool)) : (nums pre).length = pre.length := by simp [nums]

/-- The three boxes that gatherOid lays: its two answers, and what it gathers. -/
structure Boxes (w W : World) (pre : List (Int × Bool)) (v : Value) : Prop where
  r0 : Boxed W w.heap.size 24 (.slice none 0 0)
  r1 : Boxed W (w.heap.size + 1) 4 (.bool false)
  o : Boxed W (w.heap.size + 2) 24 v
  row : W.ownsRow w.heap.size 3 1 v pre.length (cI (nums pre))

theorem boxes_own (w : World) : Own (fun (pre : List (Int × Bool)) W => ∃ v, Boxes w W pre v) := by
  intro pre A B row hs hg hr
  obtain ⟨v, h⟩ := hs
  have ne : ∀ (k : Nat) (t : TypeId) (u : Value), Boxed A k t u → some k ≠ row := by
    intro k t u hb e
    obtain ⟨o, ho, hc⟩ := hr k e.symm
    rw [show A.heap[k]? = _ from hb] at ho
    cases ho
    simp [Obj.isCells] at hc
  refine ⟨v, h.r0.kept hg (ne _ _ _ h.r0), h.r1.kept hg (ne _ _ _ h.r1), h.o.kept hg (ne _ _ _ h.o), ?_⟩
  refine h.row.kept hg ?_
  cases hv : v.ownBlock with
  | none => exact .inl rfl
  | some k =>
    refine .inr ?_
    intro e
    obtain ⟨o, ho, hc⟩ := hr k e.symm
    rcases h.row.2 with ⟨rfl, _⟩ | ⟨g, cap, cur, rfl, _, hh, _⟩
    · cases hv
    · simp [Value.ownBlock] at hv
      subst hv
      rw [hh] at ho
      cases ho
      simp [Obj.isCells] at hc

theorem boxed_other {W : World} {B B' : Nat} {t : TypeId} {v : Value} (h : Boxed W B t v) (hne : B ≠ B') (u : Value) : Boxed (W.setCell ⟨B', 0, none⟩ u) B t v := h.kept (grownBy_setCell' W B' u) (fun e => hne (by cases e; rfl))

/-- Where gatherOid begins its loop. -/
def gw (w : World) : World := ((w.alloc (.cells #[.slice none 0 0] 24)).alloc (.cells #[.bool false] 4)).alloc (.cells #[.slice none 0 0] 24)

theorem gw_size (w : World) : (gw w).heap.size = w.heap.size + 3 := by simp [gw]

theorem boxes_start (w : World) : Boxes w (gw w) [] (.slice none 0 0) where
  r0 := ((Boxed.new w _ _).alloc _).alloc _
  r1 := by
    have := (Boxed.new (w.alloc (.cells #[.slice none 0 0] 24)) 4 (.bool false)).alloc (.cells #[.slice none 0 0] 24)
    rw [World.size_alloc] at this
    exact this
  o := by
    have := Boxed.new ((w.alloc (.cells #[.slice none 0 0] 24)).alloc (.cells #[.bool false] 4)) 24 (.slice none 0 0)
    rw [World.size_alloc, World.size_alloc] at this
    exact this
  row := World.ownsRow_nil _ _ _ _

theorem gw_below (w : World) : Below w.heap.size w (gw w) := (((Below.refl _ w).alloc (Nat.le_refl _) _).alloc (by simp) _).alloc (by simp; omega) _

theorem cell_put {W : World} {B : Nat} {t : TypeId} {v : Value} {D : Nat} (h : Boxed W B t v) (hK : W.heap[D]? = some (.deferred (some []))) : (W.putObj D (.deferred none)).cell? ⟨B, 0, none⟩ = some v :=
  cell_kept h.cell (grownBy_putObj' _ D (.deferred none)) (fun r e => by cases e; exact ⟨_, hK, rfl⟩)

set_option maxRecDepth 100000 in
set_option maxHeartbeats 2000000 in
theorem gather_in (gf : Nat) (lb : Array Value) (n : Nat) (hn : 3 ≤ n) (eg : ∀ args w, (callFunc gf args).run Try.prog w = .ok (.enter gf args) w) (S Sp : List (Int × Bool) → Prop) (N : Nat) (hx : ∀ ys, S ys → ∀ x ∈ ys, -9223372036854775808 ≤ x.1 ∧ x.1 ≤ 9223372036854775807) (w : World)
    (r : Option (List Int)) (hS : ∀ ys, S ys → (∀ x ∈ ys, x.2 = true) → r = if oidOk (nums ys) = true then some (nums ys) else none) (hSp : ∀ pre, Sp pre → Bad pre → r = none)
    (hseq : ∀ W, Below w.heap.size w W → SeqStopsK Fence.wide (n - 1) Try.prog gf lb encs (Below w.heap.size) S Sp N W) :
    CallsIn Fence.wide n Try.prog 81 #[.func (.func gf) #[] lb] w fun e W' => ∃ ao cap, e = .returned (.tuple #[.slice ao (r.getD []).length cap, .bool r.isSome]) ∧
      W'.ownsRow w.heap.size 3 1 (.slice ao (r.getD []).length cap) (r.getD []).length (cI (r.getD [])) ∧ Below w.heap.size w W' := by
  have h1 : 1 ≤ n := by omega
  obtain ⟨i0, hi, hz0, hz1, hz2⟩ := info_parts Try.infoI64
  have hW0 := boxes_start w
  have hB0 := gw_below w
  have hs0 := gw_size w
  have hsq := hseq (gw w) hB0
  have hW0e : ((w.alloc (.cells #[.slice none 0 0] 24)).alloc (.cells #[.bool false] 4)).alloc (.cells #[.slice none 0 0] 24) = gw w := rfl
  have HW := hide hW0e
  clear hW0e hseq
  refine callsIn_of_wp_marks Try.func81 rfl trivial ?_ rfl
  simp only [Try.ntmps81, List.size_toArray, List.length_cons, List.length_nil, Nat.reduceAdd, Nat.reduceSub, Array.replicate_succ, Array.replicate_zero, List.push_toArray, List.append_toArray, List.nil_append, List.cons_append]
  gi_wp2
  rw [HW.out]
  generalize gw w = W0 at *
  refine wpIn_rangeFunc_ownG rfl h1 (gf := gf) (lb := lb) rfl trivial eg hsq belowK_t (belowK_b (by omega)) (Below.refl _ _) (fun _ => rfl)
    (fun pre W => ((∃ v, Boxes w W pre v) ∧ (∀ x ∈ pre, x.2 = true) ∧ pre.length ≤ 10) ∧ Below w.heap.size w W)
    (fun c pre W => (c = .ret ∧ (Boxed W w.heap.size 24 (.slice none 0 0) ∧ Boxed W (w.heap.size + 1) 4 (.bool false)) ∧ Bad pre) ∧ Below w.heap.size w W)
    (OwnFrom.and (Own.from (fun s A B row hs hg hr => ⟨boxes_own w s A B row hs.1 hg hr, hs.2⟩) _) (ownFrom_below (Nat.le_refl _) (by omega)))
    (fun c => OwnFrom.and (Own.from (fun s A B row hs hg hr => by
      have ne : ∀ (k : Nat) (t : TypeId) (u : Value), Boxed A k t u → some k ≠ row := by
        intro k t u hb e
        obtain ⟨o, ho, hc⟩ := hr k e.symm
        rw [show A.heap[k]? = _ from hb] at ho
        cases ho
        simp [Obj.isCells] at hc
      exact ⟨hs.1, ⟨hs.2.1.1.kept hg (ne _ _ _ hs.2.1.1), hs.2.1.2.kept hg (ne _ _ _ hs.2.1.2)⟩, hs.2.2⟩) _) (ownFrom_below (Nat.le_refl _) (by omega)))
    ⟨⟨⟨_, hW0⟩, by simp, by simp⟩, hB0⟩
    (fun x => { tmps := #[.func (.func gf) #[] lb, undef, .pointer (some ⟨w.heap.size, 0, none⟩), .pointer (some ⟨w.heap.size + 1, 0, none⟩), .pointer (some ⟨w.heap.size + 1 + 1, 0, none⟩), .int .i64 x.1, .bool x.2, .func (.func gf) #[] lb, .int .i64 x.1, .bool x.2, undef, undef, undef, undef, undef, undef, undef, undef, undef, undef, undef, undef, undef, undef, undef], defers := [] }) ?assign ?body ?done ?stop
  case assign =>
    intro l x W K hK
    gi_wp2
    exact hK
  case body =>
    rintro l pre ⟨k, ok⟩ W ⟨⟨⟨v, h⟩, hall, hlen⟩, hB⟩ hlt
    have c0 := h.r0.cell
    have f0 := h.r0.frozen
    have c1 := h.r1.cell
    have f1 := h.r1.frozen
    have c2 := h.o.cell
    have f2 := h.o.frozen
    have hsz := hB.size
    obtain ⟨ao, cap, rfl⟩ := own_shape h.row
    cases ok with
    | false =>
      gi_wp2
      exact ⟨((KeepsOthers.setCell _ _ _).trans (KeepsOthers.setCell _ _ _)).from _, ⟨rfl, ⟨boxed_other (h.r0.set _) (by omega) _, (boxed_other h.r1 (by omega) _).set _⟩, .inl ⟨(k, false), by simp, rfl⟩⟩, (hB.setCell (p := ⟨w.heap.size, 0, none⟩) (Nat.le_refl _) _).setCell (p := ⟨w.heap.size + 1, 0, none⟩) (Nat.le_succ _) _⟩
    | true =>
      by_cases ht : pre.length = 10
      · have ht' : ((pre.length : Int) == 10) = true := by simp [ht]
        gi_wp2
        exact ⟨((KeepsOthers.setCell _ _ _).trans (KeepsOthers.setCell _ _ _)).from _, ⟨rfl, ⟨boxed_other (h.r0.set _) (by omega) _, (boxed_other h.r1 (by omega) _).set _⟩, .inr (by simp; omega)⟩, (hB.setCell (p := ⟨w.heap.size, 0, none⟩) (Nat.le_refl _) _).setCell (p := ⟨w.heap.size + 1, 0, none⟩) (Nat.le_succ _) _⟩
      · have ht' : ((pre.length : Int) == 10) = false := by simp; omega
        gi_wp2_with (gi_at_builtin; refine wpListIn_append_own _ rfl _ _ 24 rfl w.heap.size 3 i0 (.int .i64 0) 1 8 Try.underlying24 hi hz0 hz1 hz2 rfl (by decide) _ _ _ rfl (h.row.alloc _) ⟨W.heap.size, 0, none⟩ 1 1 [.int .i64 k] rfl rfl (cell_one_new _ _ _) (by simp [Value.oneCell']) (by unfold maxLen; omega) (by omega) (by simp; omega) ?_; intro v' w1 hown' hgrow _; obtain ⟨g', cap', rfl⟩ := ownsRow_succ hown'; obtain ⟨hv1, hv2, hr2, hk2, hb2⟩ := h.o.appended (by decide) h.row hsz (by omega) hown' hgrow; have hc1 := hv1.cell; have hf1 := hv1.frozen)
        have q0 : Boxed w1 w.heap.size 24 (.slice none 0 0) := (h.r0.alloc _).kept hgrow (h.r0.not_row (by decide) h.row)
        have q1 : Boxed w1 (w.heap.size + 1) 4 (.bool false) := (h.r1.alloc _).kept hgrow (h.r1.not_row (by decide) h.row)
        refine ⟨hk2.from _, hb2, ⟨⟨_, boxed_other q0 (by omega) _, boxed_other q1 (by omega) _, hv2, ?_⟩, ?_, by simp; omega⟩, hB.trans hb2⟩
        · rw [nums_snoc, List.length_append]; simpa [cI] using hr2
        · intro y hy
          rcases List.mem_append.1 hy with h3 | h3
          · exact hall y h3
          · simp at h3; rw [h3]
  case done =>
    rintro D ys W hD hys ⟨⟨⟨v, h⟩, hall, hlen⟩, hB⟩ hK
    have c0 := h.r0.cell
    have f0 := h.r0.frozen
    have c1 := h.r1.cell
    have f1 := h.r1.frozen
    have c2 := h.o.cell
    have hsz := hB.size
    obtain ⟨ao, cap, rfl⟩ := own_shape h.row
    have hrow : IRow W ao ys.length cap (nums ys) := irow_own h.row (by
      intro z hz
      simp only [nums, List.mem_map] at hz
      obtain ⟨y, hy, rfl⟩ := hz
      exact hx ys hys y hy)
    have hg := hS ys hys hall
    have hdw := hs0 ▸ hD
    clear hx hsq hW0 hB0 hS hSp
    cases hok : oidOk (nums ys) with
    | true =>
      have hcall : Calls Try.prog 77 #[.slice ao ys.length cap] W (fun e w' => e = .returned (.bool true) ∧ w' = W) :=
        (implOk_any _ _ _ (nums ys) _ hrow).mono (by rintro e w' ⟨rfl, rfl⟩; exact ⟨by rw [hok], rfl⟩)
      rw [hok, if_pos rfl] at hg
      subst hg
      clear hok
      gi_wp2
      refine ⟨trivial, (callsIn_wide.2 hcall).mono ?_⟩
      rintro e w' ⟨rfl, hw'⟩
      subst hw'
      gi_wp2
      have k1 := (KeepsOthers.setCell w' ⟨w.heap.size, 0, none⟩ (.slice ao ys.length cap)).same D _ hK rfl
      have k2 := (KeepsOthers.setCell (w'.setCell ⟨w.heap.size, 0, none⟩ (.slice ao ys.length cap)) ⟨w.heap.size + 1, 0, none⟩ (.bool true)).same D _ k1 rfl
      refine ⟨by simp, .inl ⟨_, _, rfl, run_takeDeferred k2, ?_⟩⟩
      have d0 := cell_put (boxed_other (h.r0.set (.slice ao ys.length cap)) (show w.heap.size ≠ w.heap.size + 1 by omega) (.bool true)) k2
      have d1 := cell_put ((boxed_other h.r1 (show w.heap.size + 1 ≠ w.heap.size by omega) (.slice ao ys.length cap)).set (.bool true)) k2
      have b2 := ((hB.setCell (p := ⟨w.heap.size, 0, none⟩) (Nat.le_refl _) (.slice ao ys.length cap)).setCell (p := ⟨w.heap.size + 1, 0, none⟩) (Nat.le_succ _) (.bool true))
      refine ⟨.tuple #[.slice ao ys.length cap, .bool true], ?_, ao, cap, ?_, ?_, b2.trans (belowK_b (w := w) (Nat.le_refl _) _ D _ _ (by omega) k2 rfl rfl)⟩
      · simp [results, Try.f81, go_sem, d0, d1]
      · simp [nums_length]
      · show World.ownsRow _ _ _ _ (.slice ao (nums ys).length cap) (nums ys).length _
        rw [nums_length]
        have r0 : ((w'.setCell ⟨w.heap.size, 0, none⟩ (.slice ao ys.length cap)).setCell ⟨w.heap.size + 1, 0, none⟩ (.bool true)).ownsRow w.heap.size 3 1 (.slice ao ys.length cap) ys.length (cI (nums ys)) := by
          refine (h.row.kept (grownBy_setCell' _ _ _) ?_).kept (grownBy_setCell' _ _ _) ?_
          · exact .inr (fun e => h.r0.not_row (by decide) h.row e.symm)
          · exact .inr (fun e => h.r1.not_row (by decide) h.row e.symm)
        exact ownsRow_putObj r0 _ k2 rfl
    | false =>
      have hcall : Calls Try.prog 77 #[.slice ao ys.length cap] W (fun e w' => e = .returned (.bool false) ∧ w' = W) :=
        (implOk_any _ _ _ (nums ys) _ hrow).mono (by rintro e w' ⟨rfl, rfl⟩; exact ⟨by rw [hok], rfl⟩)
      rw [hok, if_neg (by simp)] at hg
      subst hg
      clear hok
      gi_wp2
      refine ⟨trivial, (callsIn_wide.2 hcall).mono ?_⟩
      rintro e w' ⟨rfl, hw'⟩
      subst hw'
      gi_wp2
      have k1 := (KeepsOthers.setCell w' ⟨w.heap.size, 0, none⟩ (.slice none 0 0)).same D _ hK rfl
      have k2 := (KeepsOthers.setCell (w'.setCell ⟨w.heap.size, 0, none⟩ (.slice none 0 0)) ⟨w.heap.size + 1, 0, none⟩ (.bool false)).same D _ k1 rfl
      refine ⟨by simp, .inl ⟨_, _, rfl, run_takeDeferred k2, ?_⟩⟩
      have d0 := cell_put (boxed_other (h.r0.set (.slice none 0 0)) (show w.heap.size ≠ w.heap.size + 1 by omega) (.bool false)) k2
      have d1 := cell_put ((boxed_other h.r1 (show w.heap.size + 1 ≠ w.heap.size by omega) (.slice none 0 0)).set (.bool false)) k2
      have b2 := ((hB.setCell (p := ⟨w.heap.size, 0, none⟩) (Nat.le_refl _) (.slice none 0 0)).setCell (p := ⟨w.heap.size + 1, 0, none⟩) (Nat.le_succ _) (.bool false))
      refine ⟨.tuple #[.slice none 0 0, .bool false], ?_, none, 0, ?_, ?_, b2.trans (belowK_b (w := w) (Nat.le_refl _) _ D _ _ (by omega) k2 rfl rfl)⟩
      · simp [results, Try.f81, go_sem, d0, d1]
      · rfl
      · exact World.ownsRow_nil _ _ _ _
  case stop =>
    rintro D c pre W hD hpre ⟨⟨rfl, ⟨q0, q1⟩, hbad⟩, hB⟩ hK
    have hg := hSp pre hpre hbad
    clear hS hSp
    subst hg
    gi_wp2
    refine ⟨by simp, .inl ⟨_, _, rfl, run_takeDeferred hK, ?_⟩⟩
    have d0 := cell_put q0 hK
    have d1 := cell_put q1 hK
    refine ⟨.tuple #[.slice none 0 0, .bool false], ?_, none, 0, ?_, ?_, hB.trans (belowK_b (w := w) (Nat.le_refl _) W D _ _ (by omega) hK rfl rfl)⟩
    · simp [results, Try.f81, go_sem, d0, d1]
    · rfl
    · exact World.ownsRow_nil _ _ _ _

end Go.Proofs.Ytfjojchenmdhdaa
