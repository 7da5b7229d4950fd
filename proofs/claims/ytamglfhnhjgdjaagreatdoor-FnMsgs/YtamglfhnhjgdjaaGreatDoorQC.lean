/-
  numberAt by its contract: the number at a place, the place behind it, and whether it is right.
  gatherOid by its contract: over whatever iterator hands out the numbers xs, each with whether it is right: the numbers, where all are right and make a name; else nothing and false.
  The iterator over a name's bytes by its contract, and the program's GetOid.
  The specification's GetOid by its contract.
  GetOid, the specification's and the program's, with what they answer written out.
-/
import Derived.Test.YtamglfhnhjgdjaaGreatDoorQB
import Derived.Test.YtamglfhnhjgdjaaGreatDoorQA
import Derived.RangeFuncBound
import Derived.RangeFuncCalls
import Derived.RangeFuncLeaves
import Derived.RangeFuncBox
import Derived.Shelf.Abstract
import Derived.WalkKit
import Derived.OwnWalkIn
import Derived.TacticsInMore
import Derived.LoopNIn
import Derived.LoopIn
import Derived.Maps.AppendAt
namespace Go.Proofs.YtamglfhnhjgdjaaGreatDoor
open Go.RowKit

theorem getD_drop (l : List Int) (i k : Nat) : (l.drop i).getD k 0 = l.getD (i + k) 0 := by
  simp [List.getD_eq_getElem?_getD, List.getElem?_drop]

/-- No right number begins here. -/
def NoNum (rest : List Int) : Prop := ∀ m, m ≤ 100000 → ∀ x, rest ≠ groups m ++ x

/-- What numberAt says of the bytes from a place on. -/
structure Num (z : List Int) (p : Nat) (n q : Int) (ok : Bool) : Prop where
  lo : 0 ≤ n
  hi : n ≤ 12800127
  yes : ok = true → n ≤ 100000 ∧ ∃ j : Nat, 1 ≤ j ∧ p + j ≤ z.length ∧ q = ((p + j : Nat) : Int) ∧ z.drop p = groups n.toNat ++ z.drop (p + j)
  no : ok = false → NoNum (z.drop p)

/-- What numberAt answers. -/
def NumAns (z : List Int) (p : Nat) (e : Ending) : Prop := ∃ n q ok, e = .returned (.tuple #[.int .i64 n, .int .i64 q, .bool ok]) ∧ Num z p n q ok

theorem num_bad {z : List Int} {p : Nat} (h : NoNum (z.drop p)) : Num z p 0 0 false := ⟨by omega, by omega, (by intro h; cases h), fun _ => h⟩

theorem head_drop {z : List Int} {p : Nat} (h : p < z.length) : (z.drop p).head? = some (z.getD p 0) := by
  rw [List.head?_drop, List.getElem?_eq_getElem h]; simp [h]

theorem num_128 {z : List Int} {p : Nat} (h : p < z.length) (h1 : z.getD p 0 = 128) : NoNum (z.drop p) := by
  intro m _ x e
  rw [drop_at h, h1] at e
  exact groups_head m x _ e.symm

theorem num_last {z : List Int} {p k : Nat} {x y : Int} (hr : Rd (z.drop p) k x.toNat) (h : p + k < z.length) (hx : 0 ≤ x ∧ x ≤ 100000) (hy : z.getD (p + k) 0 = y) (h0 : 0 ≤ y) (h1 : y < 128) (hh : (z.drop p).head? ≠ some 128) :
    Num z p (x * 128 + y) ((p + k + 1 : Nat) : Int) (decide (x * 128 + y ≤ 100000)) := by
  have hk : k < (z.drop p).length := by simp; omega
  have hz : (z.drop p).getD k 0 = y := by rw [getD_drop]; exact hy
  obtain ⟨e1, _, e3⟩ := rd_last hr hk hz h0 h1
  have ev : x.toNat * 128 + y.toNat = (x * 128 + y).toNat := by omega
  rw [ev] at e1 e3
  refine ⟨by omega, by omega, ?_, ?_⟩
  · intro hq
    have hq' := of_decide_eq_true hq
    refine ⟨hq', k + 1, by omega, by omega, by rw [Nat.add_assoc], ?_⟩
    have := e3 hh
    rw [List.drop_drop] at this
    exact this
  · intro hq
    have hq' := of_decide_eq_false hq
    exact bad_great' e1 (by omega)

theorem num_more {z : List Int} {p k : Nat} {x y : Int} (hr : Rd (z.drop p) k x.toNat) (h : p + k < z.length) (hx : 0 ≤ x) (hy : z.getD (p + k) 0 = y) (h0 : 128 ≤ y) (h1 : y ≤ 255) : Rd (z.drop p) (k + 1) (x * 128 + y % 128).toNat := by
  have hk : k < (z.drop p).length := by simp; omega
  have hz : (z.drop p).getD k 0 = y := by rw [getD_drop]; exact hy
  have := rd_more hr hk hz h0 h1
  have ev : x.toNat * 128 + (y.toNat - 128) = (x * 128 + y % 128).toNat := by omega
  rw [ev] at this
  exact this

theorem num_end {z : List Int} {p k : Nat} {n : Nat} (hr : Rd (z.drop p) k n) (h : p + k = z.length) : NoNum (z.drop p) := by
  intro m _ x
  refine no_end ?_ m x
  have : (z.drop p).take k = z.drop p := List.take_of_length_le (by simp; omega)
  have h2 := hr.2.1
  rw [this] at h2
  exact h2

theorem num_great {z : List Int} {p k : Nat} {n : Nat} (hr : Rd (z.drop p) k n) (h : 100000 < n) : NoNum (z.drop p) := bad_great hr.1 h

set_option maxRecDepth 100000 in
set_option maxHeartbeats 1000000 in
theorem numAt_any (a1 : Option Addr) (l1 c1 : Nat) (z1 : List Int) (p : Nat) (w : World) (h1 : Row w a1 l1 c1 z1) (hp : p < l1) (hs : l1 ≤ 1048576) :
    Calls Tryz.prog 119 #[.slice a1 l1 c1, .int .i64 p] w fun e w' => NumAns z1 p e ∧ w' = w := by
  have s1 := h1.size
  have hby := h1.byte
  obtain ⟨b, off, rfl, hc⟩ := h1.at (by omega)
  clear h1
  have HC := hide hc
  clear hc
  have cx := HC.out p hp
  have bx := hby.at p
  by_cases h128 : z1.getD p 0 = 128
  · have HN := hide (num_128 (z := z1) (p := p) (by omega) h128)
    rw [h128] at cx
    clear bx h128
    go_enter Tryz.func119, Tryz.ntmps119
    go_wp2
    go_ret3
    exact ⟨⟨0, 0, false, rfl, num_bad HN.out⟩, rfl⟩
  · have hhd : (z1.drop p).head? ≠ some 128 := by rw [head_drop (by omega)]; simpa using h128
    have HH := hide hhd
    have hr0 := rd_start (z1.drop p)
    generalize z1.getD p 0 = y at cx bx h128
    have hne : (y == 128) = false := by simp [h128]
    clear hhd
    go_enter Tryz.func119, Tryz.ntmps119
    go_wp2
    go_loop [1, 7] (fun i m => ∃ (k : Nat) (x : Int), p + k ≤ l1 ∧ 0 ≤ x ∧ x ≤ 12800127 ∧ i = .int .i64 ((p + k : Nat) : Int) ∧ m = .int .i64 x ∧ Rd (z1.drop p) k x.toNat) (fun i _ => l1 - (intOf i).toNat)
    case atStart => exact ⟨0, 0, by omega, by omega, by omega, by simp, rfl, hr0⟩
    case round =>
      clear cx bx hr0 hne h128
      obtain ⟨k, x, hk, hx0, hx1, rfl, rfl, hr⟩ := hrel
      have HR := hide hr
      clear hr
      by_cases hlt : p + k < l1
      · by_cases hg : x ≤ 100000
        · have cy := HC.out (p + k) hlt
          have bz := hby.at (p + k)
          generalize hy : z1.getD (p + k) 0 = z at cy bz
          have HY := hide hy
          clear hy
          have e1 := and127b z bz
          have e2 := or_group x (z % 128) ⟨hx0, by omega⟩ (by omega)
          generalize hpk : p + k = t at *
          have HT := hide hpk
          clear hpk
          by_cases hz : z < 128
          · have hzm : z % 128 = z := by omega
            have HN : Hid (Num z1 p (x * 128 + z) ((t + 1 : Nat) : Int) (decide (x * 128 + z ≤ 100000))) := by
              have := num_last HR.out (by rw [HT.out]; omega) ⟨hx0, hg⟩ (by rw [HT.out]; exact HY.out) bz.1 hz HH.out
              rw [HT.out] at this
              exact this
            rw [hzm] at e1 e2
            clear hzm
            go_wp2
            go_ret3
            exact ⟨⟨_, _, _, rfl, HN.out⟩, rfl⟩
          · have HN : Hid (Rd (z1.drop p) (k + 1) (x * 128 + z % 128).toNat) := num_more HR.out (by rw [HT.out]; omega) hx0 (by rw [HT.out]; exact HY.out) (by omega) (by omega)
            go_wp2
            go_round
            case rel => exact ⟨k + 1, x * 128 + z % 128, by rw [← Nat.add_assoc, HT.out]; omega, by omega, by omega, by rw [← Nat.add_assoc, HT.out]; go_num, rfl, HN.out⟩
            case measure => simp [intOf]; omega
        · have HN : Hid (NoNum (z1.drop p)) := num_great HR.out (by omega)
          go_wp2
          go_ret3
          exact ⟨⟨0, 0, false, rfl, num_bad HN.out⟩, rfl⟩
      · have HN : Hid (NoNum (z1.drop p)) := num_end HR.out (by omega)
        go_wp2
        go_ret3
        exact ⟨⟨0, 0, false, rfl, num_bad HN.out⟩, rfl⟩

open Go.RowKit Go.Shelf

attribute [local go_sem] Oper.semAt_some

/-- A number that is handed out, and whether it is right. -/
abbrev encs (x : Int × Bool) : Array Value := #[.int .i64 x.1, .bool x.2]

def nums (xs : List (Int × Bool)) : List Int := xs.map (·.1)
/-- One that is not right has come, or too many. -/
def Bad (pre : List (Int × Bool)) : Prop := (∃ x ∈ pre, x.2 = false) ∨ 10 < pre.length

theorem nums_snoc (pre : List (Int × Bool)) (x : Int × Bool) : nums (pre ++ [x]) = nums pre ++ [x.1] := by simp [nums]
theorem nums_length (pre : List (Int × Bool)) : (nums pre).length = pre.length := by simp [nums]

/-- The three boxes that gatherOid lays: its two answers, and what it gathers. -/
structure Boxes (w W : World) (pre : List (Int × Bool)) (v : Value) : Prop where
  r0 : Boxed W w.heap.size 70 (.slice none 0 0)
  r1 : Boxed W (w.heap.size + 1) 4 (.bool false)
  o : Boxed W (w.heap.size + 2) 70 v
  row : W.ownsRow w.heap.size 3 1 v pre.length (cI (nums pre))

theorem boxes_own (w : World) : Own (fun (pre : List (Int × Bool)) W => ∃ v, Boxes w W pre v) := by
  intro pre A B row hs hg hr
  obtain ⟨v, h⟩ := hs
  have ne : ∀ (k : Nat) (t : TypeId) (u : Value), Boxed A k t u → some k ≠ row := by
    intro k t u hb e
    obtain ⟨o, ho, hc⟩ := hr k e.symm
    rw [show A.heap[k]? = _ from hb] at ho
    cases ho
    simp [Obj.isCells] at hc
  refine ⟨v, h.r0.kept hg (ne _ _ _ h.r0), h.r1.kept hg (ne _ _ _ h.r1), h.o.kept hg (ne _ _ _ h.o), ?_⟩
  refine h.row.kept hg ?_
  cases hv : v.ownBlock with
  | none => exact .inl rfl
  | some k =>
    refine .inr ?_
    intro e
    obtain ⟨o, ho, hc⟩ := hr k e.symm
    rcases h.row.2 with ⟨rfl, _⟩ | ⟨g, cap, cur, rfl, _, hh, _⟩
    · cases hv
    · simp [Value.ownBlock] at hv
      subst hv
      rw [hh] at ho
      cases ho
      simp [Obj.isCells] at hc

theorem boxed_other {W : World} {B B' : Nat} {t : TypeId} {v : Value} (h : Boxed W B t v) (hne : B ≠ B') (u : Value) : Boxed (W.setCell ⟨B', 0, none⟩ u) B t v := h.kept (grownBy_setCell' W B' u) (fun e => hne (by cases e; rfl))

/-- Where gatherOid begins its loop. -/
def gw (w : World) : World := ((w.alloc (.cells #[.slice none 0 0] 70)).alloc (.cells #[.bool false] 4)).alloc (.cells #[.slice none 0 0] 70)

theorem gw_size (w : World) : (gw w).heap.size = w.heap.size + 3 := by simp [gw]

theorem boxes_start (w : World) : Boxes w (gw w) [] (.slice none 0 0) where
  r0 := ((Boxed.new w _ _).alloc _).alloc _
  r1 := by
    have := (Boxed.new (w.alloc (.cells #[.slice none 0 0] 70)) 4 (.bool false)).alloc (.cells #[.slice none 0 0] 70)
    rw [World.size_alloc] at this
    exact this
  o := by
    have := Boxed.new ((w.alloc (.cells #[.slice none 0 0] 70)).alloc (.cells #[.bool false] 4)) 70 (.slice none 0 0)
    rw [World.size_alloc, World.size_alloc] at this
    exact this
  row := World.ownsRow_nil _ _ _ _

theorem gw_below (w : World) : Below w.heap.size w (gw w) := (((Below.refl _ w).alloc (Nat.le_refl _) _).alloc (by simp) _).alloc (by simp; omega) _

theorem cell_put {W : World} {B : Nat} {t : TypeId} {v : Value} {D : Nat} (h : Boxed W B t v) (hK : W.heap[D]? = some (.deferred (some []))) : (W.putObj D (.deferred none)).cell? ⟨B, 0, none⟩ = some v :=
  cell_kept h.cell (grownBy_putObj' _ D (.deferred none)) (fun r e => by cases e; exact ⟨_, hK, rfl⟩)

set_option maxRecDepth 100000 in
set_option maxHeartbeats 2000000 in
theorem gather_in (gf : Nat) (lb : Array Value) (n : Nat) (hn : 3 ≤ n) (eg : ∀ args w, (callFunc gf args).run Tryz.prog w = .ok (.enter gf args) w) (S Sp : List (Int × Bool) → Prop) (N : Nat) (hx : ∀ ys, S ys → ∀ x ∈ ys, -9223372036854775808 ≤ x.1 ∧ x.1 ≤ 9223372036854775807) (w : World)
    (r : Option (List Int)) (hS : ∀ ys, S ys → (∀ x ∈ ys, x.2 = true) → r = if oidOk (nums ys) = true then some (nums ys) else none) (hSp : ∀ pre, Sp pre → Bad pre → r = none)
    (hseq : ∀ W, Below w.heap.size w W → SeqStopsK Fence.wide (n - 1) Tryz.prog gf lb encs (Below w.heap.size) S Sp N W) :
    CallsIn Fence.wide n Tryz.prog 115 #[.func (.func gf) #[] lb] w fun e W' => ∃ ao cap, e = .returned (.tuple #[.slice ao (r.getD []).length cap, .bool r.isSome]) ∧
      W'.ownsRow w.heap.size 3 1 (.slice ao (r.getD []).length cap) (r.getD []).length (cI (r.getD [])) ∧ Below w.heap.size w W' := by
  have h1 : 1 ≤ n := by omega
  obtain ⟨i0, hi, hz0, hz1, hz2⟩ := info_parts Tryz.infoI64
  have hW0 := boxes_start w
  have hB0 := gw_below w
  have hs0 := gw_size w
  have hsq := hseq (gw w) hB0
  have hW0e : ((w.alloc (.cells #[.slice none 0 0] 70)).alloc (.cells #[.bool false] 4)).alloc (.cells #[.slice none 0 0] 70) = gw w := rfl
  have HW := hide hW0e
  clear hW0e hseq
  refine callsIn_of_wp_marks Tryz.func115 rfl trivial ?_ rfl
  simp only [Tryz.ntmps115, List.size_toArray, List.length_cons, List.length_nil, Nat.reduceAdd, Nat.reduceSub, Array.replicate_succ, Array.replicate_zero, List.push_toArray, List.append_toArray, List.nil_append, List.cons_append]
  gi_wp2
  rw [HW.out]
  generalize gw w = W0 at *
  refine wpIn_rangeFunc_ownG rfl h1 (gf := gf) (lb := lb) rfl trivial eg hsq belowK_t (belowK_b (by omega)) (Below.refl _ _) (fun _ => rfl)
    (fun pre W => ((∃ v, Boxes w W pre v) ∧ (∀ x ∈ pre, x.2 = true) ∧ pre.length ≤ 10) ∧ Below w.heap.size w W)
    (fun c pre W => (c = .ret ∧ (Boxed W w.heap.size 70 (.slice none 0 0) ∧ Boxed W (w.heap.size + 1) 4 (.bool false)) ∧ Bad pre) ∧ Below w.heap.size w W)
    (OwnFrom.and (Own.from (fun s A B row hs hg hr => ⟨boxes_own w s A B row hs.1 hg hr, hs.2⟩) _) (ownFrom_below (Nat.le_refl _) (by omega)))
    (fun c => OwnFrom.and (Own.from (fun s A B row hs hg hr => by
      have ne : ∀ (k : Nat) (t : TypeId) (u : Value), Boxed A k t u → some k ≠ row := by
        intro k t u hb e
        obtain ⟨o, ho, hc⟩ := hr k e.symm
        rw [show A.heap[k]? = _ from hb] at ho
        cases ho
        simp [Obj.isCells] at hc
      exact ⟨hs.1, ⟨hs.2.1.1.kept hg (ne _ _ _ hs.2.1.1), hs.2.1.2.kept hg (ne _ _ _ hs.2.1.2)⟩, hs.2.2⟩) _) (ownFrom_below (Nat.le_refl _) (by omega)))
    ⟨⟨⟨_, hW0⟩, by simp, by simp⟩, hB0⟩
    (fun x => { tmps := #[.func (.func gf) #[] lb, undef, .pointer (some ⟨w.heap.size, 0, none⟩), .pointer (some ⟨w.heap.size + 1, 0, none⟩), .pointer (some ⟨w.heap.size + 1 + 1, 0, none⟩), .int .i64 x.1, .bool x.2, .func (.func gf) #[] lb, .int .i64 x.1, .bool x.2, undef, undef, undef, undef, undef, undef, undef, undef, undef, undef, undef, undef, undef, undef, undef], defers := [] }) ?assign ?body ?done ?stop
  case assign =>
    intro l x W K hK
    gi_wp2
    exact hK
  case body =>
    rintro l pre ⟨k, ok⟩ W ⟨⟨⟨v, h⟩, hall, hlen⟩, hB⟩ hlt
    have c0 := h.r0.cell
    have f0 := h.r0.frozen
    have c1 := h.r1.cell
    have f1 := h.r1.frozen
    have c2 := h.o.cell
    have f2 := h.o.frozen
    have hsz := hB.size
    obtain ⟨ao, cap, rfl⟩ := own_shape h.row
    cases ok with
    | false =>
      gi_wp2
      exact ⟨((KeepsOthers.setCell _ _ _).trans (KeepsOthers.setCell _ _ _)).from _, ⟨rfl, ⟨boxed_other (h.r0.set _) (by omega) _, (boxed_other h.r1 (by omega) _).set _⟩, .inl ⟨(k, false), by simp, rfl⟩⟩, (hB.setCell (p := ⟨w.heap.size, 0, none⟩) (Nat.le_refl _) _).setCell (p := ⟨w.heap.size + 1, 0, none⟩) (Nat.le_succ _) _⟩
    | true =>
      by_cases ht : pre.length = 10
      · have ht' : ((pre.length : Int) == 10) = true := by simp [ht]
        gi_wp2
        exact ⟨((KeepsOthers.setCell _ _ _).trans (KeepsOthers.setCell _ _ _)).from _, ⟨rfl, ⟨boxed_other (h.r0.set _) (by omega) _, (boxed_other h.r1 (by omega) _).set _⟩, .inr (by simp; omega)⟩, (hB.setCell (p := ⟨w.heap.size, 0, none⟩) (Nat.le_refl _) _).setCell (p := ⟨w.heap.size + 1, 0, none⟩) (Nat.le_succ _) _⟩
      · have ht' : ((pre.length : Int) == 10) = false := by simp; omega
        gi_wp2_with (gi_at_builtin; refine wpListIn_append_own _ rfl _ _ 70 rfl w.heap.size 3 i0 (.int .i64 0) 1 8 Tryz.underlying70 hi hz0 hz1 hz2 rfl (by decide) _ _ _ rfl (h.row.alloc _) ⟨W.heap.size, 0, none⟩ 1 1 [.int .i64 k] rfl rfl (cell_one_new _ _ _) (by simp [Value.oneCell']) (by unfold maxLen; omega) (by omega) (by simp; omega) ?_; intro v' w1 hown' hgrow _; obtain ⟨g', cap', rfl⟩ := ownsRow_succ hown'; obtain ⟨hv1, hv2, hr2, hk2, hb2⟩ := h.o.appended (by decide) h.row hsz (by omega) hown' hgrow; have hc1 := hv1.cell; have hf1 := hv1.frozen)
        have q0 : Boxed w1 w.heap.size 70 (.slice none 0 0) := (h.r0.alloc _).kept hgrow (h.r0.not_row (by decide) h.row)
        have q1 : Boxed w1 (w.heap.size + 1) 4 (.bool false) := (h.r1.alloc _).kept hgrow (h.r1.not_row (by decide) h.row)
        refine ⟨hk2.from _, hb2, ⟨⟨_, boxed_other q0 (by omega) _, boxed_other q1 (by omega) _, hv2, ?_⟩, ?_, by simp; omega⟩, hB.trans hb2⟩
        · rw [nums_snoc, List.length_append]; simpa [cI] using hr2
        · intro y hy
          rcases List.mem_append.1 hy with h3 | h3
          · exact hall y h3
          · simp at h3; rw [h3]
  case done =>
    rintro D ys W hD hys ⟨⟨⟨v, h⟩, hall, hlen⟩, hB⟩ hK
    have c0 := h.r0.cell
    have f0 := h.r0.frozen
    have c1 := h.r1.cell
    have f1 := h.r1.frozen
    have c2 := h.o.cell
    have hsz := hB.size
    obtain ⟨ao, cap, rfl⟩ := own_shape h.row
    have hrow : IRow W ao ys.length cap (nums ys) := irow_own h.row (by
      intro z hz
      simp only [nums, List.mem_map] at hz
      obtain ⟨y, hy, rfl⟩ := hz
      exact hx ys hys y hy)
    have hg := hS ys hys hall
    have hdw := hs0 ▸ hD
    clear hx hsq hW0 hB0 hS hSp
    cases hok : oidOk (nums ys) with
    | true =>
      have hcall : Calls Tryz.prog 92 #[.slice ao ys.length cap] W (fun e w' => e = .returned (.bool true) ∧ w' = W) :=
        (implOk_any _ _ _ (nums ys) _ hrow).mono (by rintro e w' ⟨rfl, rfl⟩; exact ⟨by rw [hok], rfl⟩)
      rw [hok, if_pos rfl] at hg
      subst hg
      clear hok
      gi_wp2
      refine ⟨trivial, (callsIn_wide.2 hcall).mono ?_⟩
      rintro e w' ⟨rfl, hw'⟩
      subst hw'
      gi_wp2
      have k1 := (KeepsOthers.setCell w' ⟨w.heap.size, 0, none⟩ (.slice ao ys.length cap)).same D _ hK rfl
      have k2 := (KeepsOthers.setCell (w'.setCell ⟨w.heap.size, 0, none⟩ (.slice ao ys.length cap)) ⟨w.heap.size + 1, 0, none⟩ (.bool true)).same D _ k1 rfl
      refine ⟨by simp, .inl ⟨_, _, rfl, run_takeDeferred k2, ?_⟩⟩
      have d0 := cell_put (boxed_other (h.r0.set (.slice ao ys.length cap)) (show w.heap.size ≠ w.heap.size + 1 by omega) (.bool true)) k2
      have d1 := cell_put ((boxed_other h.r1 (show w.heap.size + 1 ≠ w.heap.size by omega) (.slice ao ys.length cap)).set (.bool true)) k2
      have b2 := ((hB.setCell (p := ⟨w.heap.size, 0, none⟩) (Nat.le_refl _) (.slice ao ys.length cap)).setCell (p := ⟨w.heap.size + 1, 0, none⟩) (Nat.le_succ _) (.bool true))
      refine ⟨.tuple #[.slice ao ys.length cap, .bool true], ?_, ao, cap, ?_, ?_, b2.trans (belowK_b (w := w) (Nat.le_refl _) _ D _ _ (by omega) k2 rfl rfl)⟩
      · simp [results, Tryz.f115, go_sem, d0, d1]
      · simp [nums_length]
      · show World.ownsRow _ _ _ _ (.slice ao (nums ys).length cap) (nums ys).length _
        rw [nums_length]
        have r0 : ((w'.setCell ⟨w.heap.size, 0, none⟩ (.slice ao ys.length cap)).setCell ⟨w.heap.size + 1, 0, none⟩ (.bool true)).ownsRow w.heap.size 3 1 (.slice ao ys.length cap) ys.length (cI (nums ys)) := by
          refine (h.row.kept (grownBy_setCell' _ _ _) ?_).kept (grownBy_setCell' _ _ _) ?_
          · exact .inr (fun e => h.r0.not_row (by decide) h.row e.symm)
          · exact .inr (fun e => h.r1.not_row (by decide) h.row e.symm)
        exact ownsRow_putObj r0 _ k2 rfl
    | false =>
      have hcall : Calls Tryz.prog 92 #[.slice ao ys.length cap] W (fun e w' => e = .returned (.bool false) ∧ w' = W) :=
        (implOk_any _ _ _ (nums ys) _ hrow).mono (by rintro e w' ⟨rfl, rfl⟩; exact ⟨by rw [hok], rfl⟩)
      rw [hok, if_neg (by simp)] at hg
      subst hg
      clear hok
      gi_wp2
      refine ⟨trivial, (callsIn_wide.2 hcall).mono ?_⟩
      rintro e w' ⟨rfl, hw'⟩
      subst hw'
      gi_wp2
      have k1 := (KeepsOthers.setCell w' ⟨w.heap.size, 0, none⟩ (.slice none 0 0)).same D _ hK rfl
      have k2 := (KeepsOthers.setCell (w'.setCell ⟨w.heap.size, 0, none⟩ (.slice none 0 0)) ⟨w.heap.size + 1, 0, none⟩ (.bool false)).same D _ k1 rfl
      refine ⟨by simp, .inl ⟨_, _, rfl, run_takeDeferred k2, ?_⟩⟩
      have d0 := cell_put (boxed_other (h.r0.set (.slice none 0 0)) (show w.heap.size ≠ w.heap.size + 1 by omega) (.bool false)) k2
      have d1 := cell_put ((boxed_other h.r1 (show w.heap.size + 1 ≠ w.heap.size by omega) (.slice none 0 0)).set (.bool false)) k2
      have b2 := ((hB.setCell (p := ⟨w.heap.size, 0, none⟩) (Nat.le_refl _) (.slice none 0 0)).setCell (p := ⟨w.heap.size + 1, 0, none⟩) (Nat.le_succ _) (.bool false))
      refine ⟨.tuple #[.slice none 0 0, .bool false], ?_, none, 0, ?_, ?_, b2.trans (belowK_b (w := w) (Nat.le_refl _) _ D _ _ (by omega) k2 rfl rfl)⟩
      · simp [results, Tryz.f115, go_sem, d0, d1]
      · rfl
      · exact World.ownsRow_nil _ _ _ _
  case stop =>
    rintro D c pre W hD hpre ⟨⟨rfl, ⟨q0, q1⟩, hbad⟩, hB⟩ hK
    have hg := hSp pre hpre hbad
    clear hS hSp
    subst hg
    gi_wp2
    refine ⟨by simp, .inl ⟨_, _, rfl, run_takeDeferred hK, ?_⟩⟩
    have d0 := cell_put q0 hK
    have d1 := cell_put q1 hK
    refine ⟨.tuple #[.slice none 0 0, .bool false], ?_, none, 0, ?_, ?_, hB.trans (belowK_b (w := w) (Nat.le_refl _) W D _ _ (by omega) hK rfl rfl)⟩
    · simp [results, Tryz.f115, go_sem, d0, d1]
    · rfl
    · exact World.ownsRow_nil _ _ _ _

open Go.RowKit Go.Shelf

attribute [local go_sem] Oper.semAt_some

/-- All that is handed out of the bytes z. -/
def Came (z : List Int) (ys : List (Int × Bool)) : Prop := (∀ x ∈ ys, 0 ≤ x.1 ∧ x.1 ≤ 12800127) ∧ (((∀ x ∈ ys, x.2 = true) ∧ flatO (nums ys) = z) ∨ ((∃ x ∈ ys, x.2 = false) ∧ NoOid z))
/-- A part of it. -/
def Prt (z : List Int) (ys : List (Int × Bool)) : Prop := (∀ x ∈ ys, 0 ≤ x.1 ∧ x.1 ≤ 12800127) ∧ (((∀ x ∈ ys, x.2 = true) ∧ ∃ rest, flatO (nums ys) ++ rest = z) ∨ NoOid z)

theorem nums_pos {ys : List (Int × Bool)} (h : ∀ x ∈ ys, 0 ≤ x.1 ∧ x.1 ≤ 12800127) : ∀ z ∈ nums ys, 0 ≤ z := by
  intro z hz
  simp only [nums, List.mem_map] at hz
  obtain ⟨y, hy, rfl⟩ := hz
  exact (h y hy).1

theorem came_is {z : List Int} {ys : List (Int × Bool)} (h : Came z ys) (ha : ∀ x ∈ ys, x.2 = true) : getO z = if oidOk (nums ys) = true then some (nums ys) else none := by
  obtain ⟨hr, ⟨_, hf⟩ | ⟨⟨x, hx, h0⟩, _⟩⟩ := h
  · by_cases hok : oidOk (nums ys) = true
    · rw [if_pos hok]; exact getO_some hok hf
    · rw [if_neg hok]; exact getO_none (none_not hf (nums_pos hr) hok)
  · rw [ha x hx] at h0; cases h0

theorem prt_is {z : List Int} {pre : List (Int × Bool)} (h : Prt z pre) (hb : Bad pre) : getO z = none := by
  obtain ⟨hr, ⟨ha, rest, hf⟩ | hn⟩ := h
  · rcases hb with ⟨x, hx, h0⟩ | h0
    · rw [ha x hx] at h0; cases h0
    · exact getO_none (none_long hf (nums_pos hr) (.inl (by rw [nums_length]; exact h0)))
  · exact getO_none hn

theorem all_snoc {p : Int × Bool → Prop} {pre : List (Int × Bool)} {x : Int × Bool} (h : ∀ y ∈ pre, p y) (hx : p x) : ∀ y ∈ pre ++ [x], p y := by
  intro y hy
  rcases List.mem_append.1 hy with h1 | h1
  · exact h y h1
  · simp at h1; rw [h1]; exact hx

/-- What the iterator has handed out when it stands at a place. -/
structure At (z : List Int) (p : Nat) (pre : List (Int × Bool)) : Prop where
  le : p ≤ z.length
  len : pre.length ≤ p
  rng : ∀ x ∈ pre, 0 ≤ x.1 ∧ x.1 ≤ 12800127
  all : ∀ x ∈ pre, x.2 = true
  is : flatO (nums pre) ++ z.drop p = z

theorem At.start (z : List Int) : At z 0 [] := ⟨Nat.zero_le _, Nat.le_refl _, by simp, by simp, by simp [nums, flatO]⟩

theorem At.step {z : List Int} {p : Nat} {pre : List (Int × Bool)} {n q : Int} (h : At z p pre) (hN : Num z p n q true) : ∃ p' : Nat, q = (p' : Int) ∧ p < p' ∧ At z p' (pre ++ [(n, true)]) := by
  obtain ⟨h1, j, hj, hl, rfl, hd⟩ := hN.yes rfl
  refine ⟨p + j, rfl, by omega, hl, ?_, all_snoc h.rng ⟨hN.lo, hN.hi⟩, all_snoc h.all rfl, ?_⟩
  · have := h.len; simp; omega
  · rw [nums_snoc, flat_snoc, List.append_assoc, ← hd]; exact h.is

theorem At.none {z : List Int} {p : Nat} {pre : List (Int × Bool)} {n q : Int} (h : At z p pre) (hp : p < z.length) (hN : Num z p n q false) : NoOid z :=
  none_bad h.is (nums_pos h.rng) (by intro e; have := congrArg List.length e; simp at this; omega) (hN.no rfl)

theorem At.came {z : List Int} {pre : List (Int × Bool)} (h : At z z.length pre) : Came z pre := ⟨h.rng, .inl ⟨h.all, by have := h.is; simpa using this⟩⟩
theorem At.prt {z : List Int} {p : Nat} {pre : List (Int × Bool)} (h : At z p pre) : Prt z pre := ⟨h.rng, .inl ⟨h.all, _, h.is⟩⟩

set_option maxRecDepth 100000 in
set_option maxHeartbeats 2000000 in
theorem bytes_stops (n Bn : Nat) (hn : 1 ≤ n) (a1 : Option Addr) (l1 c1 : Nat) (z1 : List Int) (w : World) (hbox : w.cell? ⟨Bn, 0, none⟩ = some (.slice a1 l1 c1)) (h1 : Row w a1 l1 c1 z1) (hs : l1 ≤ 1048576) (W0 : World) (hW0 : Below w.heap.size w W0) :
    SeqStopsK Fence.wide n Tryz.prog 118 #[.pointer (some ⟨Bn, 0, none⟩)] encs (Below w.heap.size) (Came z1) (Prt z1) l1 W0 := fun l J Jx W hW _ _ hY h0 => by
  have s1 := h1.size
  have hbW : Below w.heap.size w W := hW0.trans (hW.mono hW0.size)
  have hBn := block_lt hbox
  have hat0 := At.start z1
  clear hW hW0
  refine callsIn_of_wp Tryz.func118 rfl trivial ?_ rfl
  simp only [Tryz.ntmps118, List.size_toArray, List.length_cons, List.length_nil, Nat.reduceAdd, Nat.reduceSub, Array.replicate_succ, Array.replicate_zero, List.push_toArray, List.append_toArray, List.nil_append, List.cons_append]
  gi_wp2
  gi_loopw [3] (fun i wr => ∃ (p : Nat) (pre : List (Int × Bool)), i = .int .i64 p ∧ At z1 p pre ∧ J pre wr ∧ Below w.heap.size w wr) (fun i _ => l1 - (intOf i).toNat)
  case atStart => exact ⟨0, [], rfl, hat0, h0, hbW⟩
  case round =>
    obtain ⟨p, pre, rfl, hat, hJ, hb⟩ := hrel
    have cb : wr.cell? ⟨Bn, 0, none⟩ = some (.slice a1 l1 c1) := by rw [hb.cell (p := ⟨Bn, 0, none⟩) hBn]; exact hbox
    have hle := hat.le
    rw [s1] at hle
    by_cases hlt : p < l1
    · have hrow := h1.below hb
      have hlen : pre.length < l1 := by have := hat.len; omega
      gi_wp2
      refine ⟨trivial, (callsIn_wide.2 (numAt_any a1 l1 c1 z1 p wr hrow hlt hs)).mono ?_⟩
      rintro e w' ⟨⟨k, q, ok, rfl, hN⟩, hw'⟩
      subst hw'
      cases ok with
      | true =>
        obtain ⟨p', rfl, hp', hat'⟩ := hat.step hN
        obtain ⟨fn, tmps, assign, body, hy, hR⟩ := hY pre (k, true) _ hJ hlen
        dsimp only [encs] at hy
        clear hN hJ hrow
        gi_wp2
        refine hR.mono ?_
        rintro e W3 (⟨rfl, hJ3, hk3⟩ | ⟨rfl, hJx3⟩)
        · gi_wp2
          go_roundw
          case rel => exact ⟨p', _, rfl, hat', hJ3, hb.trans hk3⟩
          case measure => have := hat'.le; simp [intOf]; omega
        · gi_wp2
          refine bodyPost_ret (results_none rfl _ _ _) rfl ?_
          exact ⟨⟨_, rfl⟩, .inr ⟨_, hat'.prt, hJx3⟩⟩
      | false =>
        have hno := hat.none (by omega) hN
        have hrg : ∀ x ∈ pre ++ [(k, false)], 0 ≤ x.1 ∧ x.1 ≤ 12800127 := all_snoc hat.rng ⟨hN.lo, hN.hi⟩
        obtain ⟨fn, tmps, assign, body, hy, hR⟩ := hY pre (k, false) _ hJ hlen
        dsimp only [encs] at hy
        clear hN hJ hrow
        gi_wp2
        refine hR.mono ?_
        rintro e W3 (⟨rfl, hJ3, hk3⟩ | ⟨rfl, hJx3⟩)
        · gi_wp2
          refine bodyPost_ret (results_none rfl _ _ _) rfl ?_
          exact ⟨⟨_, rfl⟩, .inl ⟨_, ⟨hrg, .inr ⟨⟨(k, false), by simp, rfl⟩, hno⟩⟩, hJ3⟩⟩
        · gi_wp2
          refine bodyPost_ret (results_none rfl _ _ _) rfl ?_
          exact ⟨⟨_, rfl⟩, .inr ⟨_, ⟨hrg, .inr hno⟩, hJx3⟩⟩
    · have hp : p = z1.length := by omega
      rw [hp] at hat
      gi_wp2
      go_end0
      exact ⟨⟨_, rfl⟩, .inl ⟨pre, hat.came, hJ⟩⟩

set_option maxRecDepth 100000 in
set_option maxHeartbeats 400000 in
theorem inBytes_any (a1 : Option Addr) (l1 c1 : Nat) (w : World) :
    Calls Tryz.prog 116 #[.slice a1 l1 c1] w fun e w' => e = .returned (.func (.func 118) #[] #[.pointer (some ⟨w.heap.size, 0, none⟩)]) ∧ w' = w.alloc (.cells #[.slice a1 l1 c1] 22) := by
  go_enter Tryz.func116, Tryz.ntmps116
  go_wp2
  go_ret
  exact ⟨rfl, rfl⟩

/-- The program's GetOid: the name that has these bytes, and true; nothing and false. -/
theorem implGetO_made (a1 : Option Addr) (l1 c1 : Nat) (z1 : List Int) (r : Option (List Int)) (hr : getO z1 = r) (w : World) (h1 : Row w a1 l1 c1 z1) (hs : l1 ≤ 1048576) :
    Calls Tryz.prog 113 #[.slice a1 l1 c1] w fun e w' => ∃ ao cap, e = .returned (.tuple #[.slice ao (r.getD []).length cap, .bool r.isSome]) ∧
      w'.ownsRow w.heap.size 3 1 (.slice ao (r.getD []).length cap) (r.getD []).length (cI (r.getD [])) ∧ Below w.heap.size w w' := by
  have hb1 : Below w.heap.size w (w.alloc (.cells #[.slice a1 l1 c1] 22)) := (Below.refl _ _).alloc (Nat.le_refl _) _
  have hbox : (w.alloc (.cells #[.slice a1 l1 c1] 22)).cell? ⟨w.heap.size, 0, none⟩ = some (.slice a1 l1 c1) := (Boxed.new w _ _).cell
  have hsz : (w.alloc (.cells #[.slice a1 l1 c1] 22)).heap.size = w.heap.size + 1 := by simp
  have hrow := h1.below hb1
  have hg := callsIn_wide.1 (gather_in 118 #[.pointer (some ⟨w.heap.size, 0, none⟩)] 4 (by omega) (enters_of Tryz.func118 (by kernel_rfl) rfl) (Came z1) (Prt z1) l1
    (fun ys h x hx => by have := h.1 x hx; omega) _ r (fun ys h ha => by rw [← hr]; exact came_is h ha) (fun pre h hb => by rw [← hr]; exact prt_is h hb) (fun W hW => bytes_stops 3 _ (by omega) a1 l1 c1 z1 _ hbox hrow hs W hW))
  have HG := hide hg
  clear hg
  go_enter Tryz.func113, Tryz.ntmps113
  go_wp2_with fail
  refine (inBytes_any a1 l1 c1 _).mono ?_
  rintro e w1 ⟨rfl, rfl⟩
  go_wp2_with fail
  refine HG.out.mono ?_
  rintro e w2 ⟨ao, cap, rfl, how, hb2⟩
  have hbn : Below w.heap.size w w2 := hb1.trans (hb2.mono (by omega))
  have hown := own_lt how (base' := w.heap.size) (by omega)
  clear how hb2 HG
  go_wp2
  go_ret2
  exact ⟨ao, cap, rfl, hown, hbn⟩

/-- What is read of a number when k groups are behind it, and whether it goes on. -/
structure Inn (z : List Int) (p k : Nat) (x : Int) (mo : Bool) : Prop where
  k4 : k ≤ 4
  le : p + k ≤ z.length
  lo : 0 ≤ x
  hi : x.toNat < 128 ^ k
  go : mo = true → Rd (z.drop p) k x.toNat
  done : mo = false → 1 ≤ k ∧ dec 0 (z.drop p) = (x.toNat, z.drop (p + k)) ∧ ((groups x.toNat).length = k → z.drop p = groups x.toNat ++ z.drop (p + k))

/-- The four variables of the inner loop. -/
def Inner (z : List Int) (p : Nat) (t5 t6 t7 t8 : Value) : Prop := ∃ (k : Nat) (x : Int) (mo : Bool), t5 = .int .i64 ((p + k : Nat) : Int) ∧ t6 = .int .i64 x ∧ t7 = .int .i64 (k : Int) ∧ t8 = .bool mo ∧ Inn z p k x mo

theorem Inn.start {z : List Int} {p : Nat} (h : p ≤ z.length) : Inn z p 0 0 true := ⟨by omega, by omega, by omega, by simp, fun _ => rd_start _, by intro h; cases h⟩

theorem Inn.small {z : List Int} {p k : Nat} {x : Int} {mo : Bool} (h : Inn z p k x mo) : x < 268435456 := by
  have h1 := h.hi
  have h2 : 128 ^ k ≤ 128 ^ 4 := Nat.pow_le_pow_right (by omega) h.k4
  have h3 := h.lo
  omega

theorem Inn.small3 {z : List Int} {p k : Nat} {x : Int} {mo : Bool} (h : Inn z p k x mo) (hk : k < 4) : x < 2097152 := by
  have h1 := h.hi
  have h2 : 128 ^ k ≤ 128 ^ 3 := Nat.pow_le_pow_right (by omega) (by omega)
  have h3 := h.lo
  omega

theorem Inn.more {z : List Int} {p k : Nat} {x y : Int} (h : Inn z p k x true) (hk : k < 4) (hl : p + k < z.length) (hy : z.getD (p + k) 0 = y) (h0 : 127 < y) (h1 : y ≤ 255) : Inn z p (k + 1) (x * 128 + y % 128) true where
  k4 := by omega
  le := by omega
  lo := by have := h.lo; omega
  hi := by have := h.hi; have := h.lo; rw [Nat.pow_succ]; omega
  go := fun _ => num_more (h.go rfl) hl h.lo hy (by omega) h1
  done := by intro h; cases h

theorem Inn.last {z : List Int} {p k : Nat} {x y : Int} (h : Inn z p k x true) (hk : k < 4) (hl : p + k < z.length) (hy : z.getD (p + k) 0 = y) (h0 : 0 ≤ y) (h1 : y ≤ 127) : Inn z p (k + 1) (x * 128 + y) false where
  k4 := by omega
  le := by omega
  lo := by have := h.lo; omega
  hi := by have := h.hi; have := h.lo; rw [Nat.pow_succ]; omega
  go := by intro h; cases h
  done := by
    intro _
    have hk : k < (z.drop p).length := by simp; omega
    have hz : (z.drop p).getD k 0 = y := by rw [getD_drop]; exact hy
    obtain ⟨e1, e2, _⟩ := rd_last (h.go rfl) hk hz h0 (by omega)
    have ev : x.toNat * 128 + y.toNat = (x * 128 + y).toNat := by have := h.lo; omega
    rw [ev, List.drop_drop] at e1 e2
    exact ⟨by omega, e1, e2⟩

theorem Inn.bad {z : List Int} {p k : Nat} {x : Int} (h : Inn z p k x true) (he : ¬ p + k < z.length ∨ ¬ k < 4) : NoNum (z.drop p) := by
  rcases he with he | he
  · exact num_end (h.go rfl) (by have := h.le; omega)
  · obtain rfl : k = 4 := by have := h.k4; omega
    intro m hm y
    exact no_end4 (h.go rfl).2.1 hm y

theorem Inn.bad_size {z : List Int} {p k : Nat} {x : Int} (h : Inn z p k x false) (hl : (groups x.toNat).length ≠ k) : NoNum (z.drop p) := by
  obtain ⟨_, e1, _⟩ := h.done rfl
  rw [← List.drop_drop] at e1
  exact Go.Proofs.YtamglfhnhjgdjaaGreatDoor.bad_size e1 (by have := h.le; simp; omega) hl

/-- What is read of a name. -/
structure Out (z : List Int) (p : Nat) (o : List Int) : Prop where
  le : p ≤ z.length
  len : o.length ≤ 11
  rng : ∀ x ∈ o, 0 ≤ x ∧ x < 268435456
  is : flatO o ++ z.drop p = z

theorem Out.start (z : List Int) : Out z 0 [] := ⟨Nat.zero_le _, by simp, by simp, by simp [flatO]⟩
theorem Out.none {z : List Int} {p : Nat} {o : List Int} (h : Out z p o) (hp : p < z.length) (hn : NoNum (z.drop p)) : getO z = none :=
  getO_none (none_bad h.is (fun x hx => (h.rng x hx).1) (by intro e; have := congrArg List.length e; simp at this; omega) hn)
theorem Out.more {z : List Int} {p k : Nat} {o : List Int} {x : Int} (h : Out z p o) (ho : o.length ≤ 10) (hi : Inn z p k x false) (hl : (groups x.toNat).length = k) : Out z (p + k) (o ++ [x]) where
  le := hi.le
  len := by simp; omega
  rng := by
    intro y hy
    rcases List.mem_append.1 hy with h1 | h1
    · exact h.rng y h1
    · simp at h1; rw [h1]; exact ⟨hi.lo, hi.small⟩
  is := by
    obtain ⟨_, _, e2⟩ := hi.done rfl
    rw [flat_snoc, List.append_assoc, ← e2 hl]; exact h.is
theorem Out.long {z : List Int} {p : Nat} {o : List Int} (h : Out z p o) (ho : 10 < o.length) : getO z = Option.none :=
  getO_none (none_long h.is (fun x hx => (h.rng x hx).1) (.inl ho))
theorem Out.end {z : List Int} {o : List Int} (h : Out z z.length o) : getO z = if oidOk o = true then some o else Option.none := by
  have hf : flatO o = z := by have := h.is; simpa using this
  by_cases hok : oidOk o = true
  · rw [if_pos hok]; exact getO_some hok hf
  · rw [if_neg hok]; exact getO_none (none_not hf (fun x hx => (h.rng x hx).1) hok)

set_option maxRecDepth 100000 in
set_option maxHeartbeats 2000000 in
theorem specGetO_made (a1 : Option Addr) (l1 c1 : Nat) (z1 : List Int) (r : Option (List Int)) (hr : getO z1 = r) (w : World) (h1 : Row w a1 l1 c1 z1) (hs : l1 ≤ 1048576) :
    Calls Tryz.prog 84 #[.slice a1 l1 c1] w fun e w' => ∃ ao cap, e = .returned (.tuple #[.slice ao (r.getD []).length cap, .bool r.isSome]) ∧
      w'.ownsRow w.heap.size 3 1 (.slice ao (r.getD []).length cap) (r.getD []).length (cI (r.getD [])) ∧ Below w.heap.size w w' := by
  obtain ⟨i0, hi, hz0, hz1, hz2⟩ := info_parts Tryz.infoI64
  have s1 := h1.size
  have hby := h1.byte
  have HR := hide hr
  have hcell := h1.cell
  have hout := Out.start z1
  clear hr h1
  go_enter Tryz.func84, Tryz.ntmps84
  go_wp2
  go_loopw [4, 5] (fun v i wr => ∃ (p : Nat) (o : List Int), i = .int .i64 p ∧ Out z1 p o ∧ wr.ownsRow w.heap.size 3 1 v o.length (cI o) ∧ Below w.heap.size w wr) (fun _ i _ => l1 - (intOf i).toNat)
  case atStart => exact ⟨0, [], rfl, hout, World.ownsRow_lit w #[] 0 (Nat.le_refl _) (Nat.zero_le _) rfl, (Below.refl _ _).alloc (Nat.le_refl _) _⟩
  case round =>
    obtain ⟨p, o, rfl, ho, how, hb⟩ := hrel
    clear hout
    have hle := ho.le
    have hol := ho.len
    have hbw := hb.size
    rw [s1] at hle
    obtain ⟨ao, cp, rfl⟩ := own_shape how
    have hoI : I64s o := fun y hy => by have := ho.rng y hy; omega
    by_cases hlt : p < l1
    · rcases hcell with h0 | ⟨b, off, rfl, hc⟩
      · omega
      have hc' : ∀ i, i < l1 → wr.cell? ⟨b, off + i, none⟩ = some (.int .u8 (z1.getD i 0)) := fun i hi => by rw [hb.cell (block_lt (hc i hi))]; exact hc i hi
      have HC := hide hc'
      clear hc hc'
      by_cases ho10 : o.length ≤ 10
      · have hst := Inn.start (z := z1) (p := p) (by omega)
        go_wp2
        go_loop [5, 6, 7, 8] (fun t5 t6 t7 t8 => Inner z1 p t5 t6 t7 t8) (fun i _ _ _ => l1 - (intOf i).toNat)
        case atStart => exact ⟨0, 0, true, by simp, rfl, rfl, rfl, hst⟩
        case round =>
          obtain ⟨k, x, mo, rfl, rfl, rfl, rfl, hin⟩ := hrel
          clear hst
          have hk4 := hin.k4
          have hkl := hin.le
          have hxl := hin.lo
          have hxh := hin.small
          rw [s1] at hkl
          cases mo with
          | false =>
            generalize hG : groups x.toNat = G
            have HG := hide hG
            have hg4 := groups_four (n := x.toNat) (by omega)
            rw [hG] at hg4
            clear hG
            have HI := hide hin
            clear hin
            go_wp2_with fail
            refine (specGroup_made x G HG.out _ hxl hxh).mono ?_
            rintro e w2 ⟨ao2, cp2, rfl, -, r2, hb2⟩
            have hs2 := hb2.size
            have how2 := own_below how hb2
            have hbn := hb.trans (hb2.mono hbw)
            clear r2
            by_cases hsz : G.length = k
            · have hne : ((G.length : Int) != (k : Int)) = false := by simp [hsz]
              have hmo : Out z1 (p + k) (o ++ [x]) := ho.more ho10 HI.out (by rw [HG.out]; exact hsz)
              have HM := hide hmo
              have hk1 := (HI.out.done rfl).1
              clear hmo HI HG
              go_wp2_with (at_builtin; refine wpList_append_irow _ rfl _ _ 70 rfl w.heap.size Tryz.underlying70 Tryz.infoI64 _ o.length o rfl (how2.alloc _) hoI _ 1 1 [x] rfl (irow_one w2 x (by omega)) (by omega) (by simp; omega) ?_)
              intro ao3 cp3 w3 how3 r3 hb3
              have hb4 : Below w.heap.size w w3 := (hbn.alloc (by omega) _).trans hb3
              have how4 : w3.ownsRow w.heap.size 3 1 (.slice ao3 (o.length + 1) cp3) (o ++ [x]).length (cI (o ++ [x])) := by
                rw [List.length_append]; exact how3
              clear how how2 how3 r3 hb hb2 hb3 hbn
              go_wp2
              go_roundw
              case rel => exact ⟨p + k, _, by go_num, HM.out, how4, hb4⟩
              case measure => simp [intOf]; omega
            · have hne : ((G.length : Int) != (k : Int)) = true := by simp; omega
              have hno := ho.none (by omega) (HI.out.bad_size (by rw [HG.out]; exact hsz))
              rw [HR.out] at hno
              subst hno
              clear HI HG
              go_wp2
              go_ret2
              exact ⟨_, _, rfl, World.ownsRow_lit w2 #[] 0 (by omega) (Nat.zero_le _) rfl, hbn.alloc (by omega) _⟩
          | true =>
            by_cases hlk : p + k < l1
            · by_cases hk : k < 4
              · have cy := HC.out (p + k) hlk
                have bz := hby.at (p + k)
                have hx3 := hin.small3 hk
                generalize hy : z1.getD (p + k) 0 = y at cy bz
                have HY := hide hy
                clear hy
                have e1 := and127b y bz
                have e2 := or_group x (y % 128) ⟨hxl, by omega⟩ (by omega)
                by_cases hz : 127 < y
                · have HI := hide (hin.more hk (by omega) HY.out hz bz.2)
                  clear hin
                  go_wp2
                  go_round
                  case rel =>
                    refine ⟨_, _, _, _, ?_, rfl, rfl, rfl, rfl⟩
                    exact ⟨k + 1, _, true, by rw [← Nat.add_assoc]; go_num, rfl, by go_num, rfl, HI.out⟩
                  case measure => simp [intOf]; omega
                · have HI := hide (hin.last hk (by omega) HY.out bz.1 (by omega))
                  have hzm : y % 128 = y := by omega
                  rw [hzm] at e1 e2
                  clear hin hzm
                  go_wp2
                  go_round
                  case rel =>
                    refine ⟨_, _, _, _, ?_, rfl, rfl, rfl, rfl⟩
                    exact ⟨k + 1, _, false, by rw [← Nat.add_assoc]; go_num, rfl, by go_num, rfl, HI.out⟩
                  case measure => simp [intOf]; omega
              · have hno := ho.none (by omega) (hin.bad (.inr hk))
                rw [HR.out] at hno
                subst hno
                clear hin
                go_wp2
                go_ret2
                exact ⟨_, _, rfl, World.ownsRow_lit wr #[] 0 (by omega) (Nat.zero_le _) rfl, hb.alloc (by omega) _⟩
            · have hno := ho.none (by omega) (hin.bad (.inl (by omega)))
              rw [HR.out] at hno
              subst hno
              clear hin
              go_wp2
              go_ret2
              exact ⟨_, _, rfl, World.ownsRow_lit wr #[] 0 (by omega) (Nat.zero_le _) rfl, hb.alloc (by omega) _⟩
      · have hno := ho.long (by omega)
        rw [HR.out] at hno
        subst hno
        have hne : ((p : Int) != (l1 : Int)) = true := by simp; omega
        go_wp2
        go_ret2
        exact ⟨_, _, rfl, World.ownsRow_lit wr #[] 0 (by omega) (Nat.zero_le _) rfl, hb.alloc (by omega) _⟩
    · obtain rfl : p = l1 := by omega
      have hrow := irow_own how hoI
      have hend : getO z1 = if oidOk o = true then some o else Option.none := by rw [← s1] at ho; exact ho.end
      rw [HR.out] at hend
      cases hok : oidOk o with
      | true =>
        rw [hok, if_pos rfl] at hend
        subst hend
        have HOK := hide hok
        clear hok
        go_wp2_with fail
        refine (specOk_any _ _ _ o _ hrow).mono ?_
        rintro e w1 ⟨rfl, rfl⟩
        rw [HOK.out]
        go_wp2
        go_ret2
        exact ⟨_, _, rfl, how, hb⟩
      | false =>
        rw [hok, if_neg (by simp)] at hend
        subst hend
        have HOK := hide hok
        clear hok
        go_wp2_with fail
        refine (specOk_any _ _ _ o _ hrow).mono ?_
        rintro e w1 ⟨rfl, rfl⟩
        rw [HOK.out]
        go_wp2
        go_ret2
        exact ⟨_, _, rfl, World.ownsRow_lit w1 #[] 0 (by omega) (Nat.zero_le _) rfl, hb.alloc (by omega) _⟩

theorem getO_range (z : List Int) : I64s ((getO z).getD []) ∧ ((getO z).getD []).length ≤ 10 := by
  cases h : getO z with
  | none => exact ⟨(by intro y hy; cases hy), (by simp)⟩
  | some o =>
    obtain ⟨h1, h2, h3⟩ := ok_all (getO_is h).1
    exact ⟨fun y hy => by have := h1 y hy; omega, h3⟩

theorem implGet_row (a1 : Option Addr) (l1 c1 : Nat) (z1 O : List Int) (ok : Bool) (hO : (getO z1).getD [] = O) (hok : (getO z1).isSome = ok) (w : World) (h1 : Row w a1 l1 c1 z1) (hs : l1 ≤ 1048576) :
    Calls Tryz.prog 113 #[.slice a1 l1 c1] w fun e w' => ∃ ao cap, e = .returned (.tuple #[.slice ao O.length cap, .bool ok]) ∧
      w'.ownsRow w.heap.size 3 1 (.slice ao O.length cap) O.length (cI O) ∧ IRow w' ao O.length cap O ∧ Below w.heap.size w w' := by
  subst hO
  subst hok
  refine (implGetO_made a1 l1 c1 z1 _ rfl w h1 hs).mono ?_
  rintro e w' ⟨ao, cap, rfl, ho, hb⟩
  exact ⟨ao, cap, rfl, ho, irow_own ho (getO_range z1).1, hb⟩

theorem specGet_row (a1 : Option Addr) (l1 c1 : Nat) (z1 O : List Int) (ok : Bool) (hO : (getO z1).getD [] = O) (hok : (getO z1).isSome = ok) (w : World) (h1 : Row w a1 l1 c1 z1) (hs : l1 ≤ 1048576) :
    Calls Tryz.prog 84 #[.slice a1 l1 c1] w fun e w' => ∃ ao cap, e = .returned (.tuple #[.slice ao O.length cap, .bool ok]) ∧
      w'.ownsRow w.heap.size 3 1 (.slice ao O.length cap) O.length (cI O) ∧ IRow w' ao O.length cap O ∧ Below w.heap.size w w' := by
  subst hO
  subst hok
  refine (specGetO_made a1 l1 c1 z1 _ rfl w h1 hs).mono ?_
  rintro e w' ⟨ao, cap, rfl, ho, hb⟩
  exact ⟨ao, cap, rfl, ho, irow_own ho (getO_range z1).1, hb⟩

end Go.Proofs.YtamglfhnhjgdjaaGreatDoor
