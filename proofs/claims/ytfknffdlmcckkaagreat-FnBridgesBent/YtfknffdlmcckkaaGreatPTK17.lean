/-
  Packed: DrawFdb VlanTab VlanPorts BrCopyS BrTurnS VlanCopy.
-/
import Derived.Test.YtfknffdlmcckkaaGreatPTKW
import Derived.Test.YtfknffdlmcckkaaGreatPTK01
import Derived.Test.YtfknffdlmcckkaaGreatPTK02
import Derived.Test.YtfknffdlmcckkaaGreatPTK03
import Derived.Test.YtfknffdlmcckkaaGreatPTK05
import Derived.Test.YtfknffdlmcckkaaGreatPTK10
import Derived.Test.YtfknffdlmcckkaaGreatPTK11
import Derived.Test.YtfknffdlmcckkaaGreatPTK16
import Derived.Test.YtfknffdlmcckkaaGreatPTVlanOk
import Derived.Test.YtfknffdlmcckkaaGreatPTVtabOkS
namespace Go.Proofs.YtfknffdlmcckkaaGreat
open Go.RowKit

set_option maxRecDepth 100000 in
set_option maxHeartbeats 400000 in
theorem mac_any (C : Nat) (a0 : Option Addr) (l0 c0 : Nat) (z0 : List Int) (w : World) (hc : Cur w C a0 l0 c0 z0) :
  Calls Tryz.prog 76 #[.pointer (some ⟨C, 0, none⟩)] w fun e w' => ∃ y : Int, e = .returned (.int .i64 y) ∧ 11 ≤ y ∧ y ≤ 14 ∧ Went w w' C a0 l0 c0 z0 := by
 go_enter Tryz.func76, Tryz.ntmps76
 go_wp2_with fail
 refine (pick_any C a0 l0 c0 z0 [11, 12, 13, 14] _ _ w hc rfl rfl (by simp) (by simp)).mono ?_
 rintro e w2 ⟨y, hy, rfl, went2⟩
 have hy : 11 ≤ y ∧ y ≤ 14 := by simp at hy; omega
 go_wp2
 go_ret
 exact ⟨_, rfl, hy.1, hy.2, went2⟩

def DrawnL (w w' : World) (C : Nat) (a0 : Option Addr) (l0 c0 : Nat) (z0 : List Int) (e : Ending) : Prop :=
 ∃ (ao : Option Addr) (n cap : Nat) (l : List FE), e = .returned (.slice ao n cap) ∧ l.length = n ∧ fdbOk l = true ∧ w'.ownsRow w.heap.size 49 5 (.slice ao n cap) n (fentF.all l) ∧ Went w w' C a0 l0 c0 z0

theorem ok_len {l : List FE} (h : fdbOk l = true) : l.length ≤ 12 := ((fdbOk_iff l).1 h).2
theorem ok_rng {l : List FE} (h : fdbOk l = true) : ∀ x ∈ l, x.Rng := fun x hx => ent_rng ((((fdbOk_iff l).1 h).1).1 x hx)

set_option maxRecDepth 100000 in
set_option maxHeartbeats 4000000 in
theorem l8Draw_any (C : Nat) (a0 : Option Addr) (l0 c0 : Nat) (z0 : List Int) (w : World) (hc : Cur w C a0 l0 c0 z0) :
  Calls Tryz.prog 120 #[.pointer (some ⟨C, 0, none⟩)] w fun e w' => DrawnL w w' C a0 l0 c0 z0 e := by
 have hlt := hc.lt
 have wn0 := Went.start hc (below_one w (.cells #[] 49))
 have o0 := flat_nil fentF w _ 49 _ (block_last w (.cells #[] 49)) (Nat.le_refl _)
 go_enter Tryz.func120, Tryz.ntmps120
 go_wp2_with fail
 refine (below_any C a0 l0 c0 z0 10 _ wn0.cur (by omega)).mono ?_
 rintro e w1 ⟨x, rfl, hx0, hx1, -, wtx⟩
 have hx1 := hx1 (by omega)
 obtain ⟨mx, rfl⟩ : ∃ m : Nat, x = m := ⟨x.toNat, by omega⟩
 have wn1 := wn0.trans wtx
 have o1 := gown_apart o0 wtx.grown (fun b hb => by cases hb; exact hlt)
 clear wtx wn0 o0
 go_wp2
 go_loopw [3, 4] (fun o i wr => ∃ (k : Nat) (ao : Option Addr) (n cap : Nat) (l : List FE), k ≤ 10 ∧ i = .int .i64 k ∧ o = .slice ao n cap ∧ l.length = n ∧ fdbOk l = true ∧ wr.ownsRow w.heap.size 49 5 (.slice ao n cap) n (fentF.all l) ∧ Went w wr C a0 l0 c0 z0) (fun _ i _ => (intOf i).toNat)
 case atStart => exact ⟨mx, _, _, _, [], by omega, rfl, rfl, rfl, rfl, o1, wn1⟩
 case round =>
  obtain ⟨k, ao, n, cap, l, hk, rfl, rfl, hl, hok, o2, wn2⟩ := hrel
  clear wn1 o1
  have h12 := ok_len hok
  have HOK := hide hok
  clear hok
  by_cases hk0 : 0 < k
  ·go_wp2_with fail
   refine (below_any C a0 l0 c0 z0 6 _ wn2.cur (by omega)).mono ?_
   rintro e w3 ⟨x, rfl, hx0, -, -, wtx⟩
   have wn3 := wn2.trans wtx
   have o3 := gown_apart o2 wtx.grown (fun b hb => by cases hb; exact hlt)
   clear wtx wn2 o2
   by_cases e0 : x = 0
   ·subst e0
    go_wp2_with fail
    refine (below_any C a0 l0 c0 z0 3 _ wn3.cur (by omega)).mono ?_
    rintro e w4 ⟨u, rfl, hu0, hu1, -, wtu⟩
    have hu1 := hu1 (by omega)
    have wn4 := wn3.trans wtu
    have o4 := gown_apart o3 wtu.grown (fun b hb => by cases hb; exact hlt)
    clear wtu wn3 o3
    have hwu : IntKind.i64.wrap (1 + u) = 1 + u := wrap_at _ (by omega)
    go_wp2_with fail
    refine (mac_any C a0 l0 c0 z0 _ wn4.cur).mono ?_
    rintro e w5 ⟨v, rfl, hv0, hv1, wtv⟩
    have wn5 := wn4.trans wtv
    have o5 := gown_apart o4 wtv.grown (fun b hb => by cases hb; exact hlt)
    clear wtv wn4 o4
    go_wp2_with fail
    refine (below_any C a0 l0 c0 z0 4 _ wn5.cur (by omega)).mono ?_
    rintro e w6 ⟨q, rfl, hq0, hq1, -, wtq⟩
    have hq1 := hq1 (by omega)
    have wnz := wn5.trans wtq
    have oz := gown_apart o5 wtq.grown (fun b hb => by cases hb; exact hlt)
    clear wtq wn5 o5
    have r9 := grow_own (F := fentF) oz
    go_wp2_with fail
    refine (specSet_any _ _ _ l (1 + u) v q _ r9 (by omega)).mono ?_
    rintro e w9 ⟨ao9, cap9, rfl, ho9, -, hb9⟩
    have o9 := gown_lt ho9 (base' := w.heap.size) wnz.grown.size
    have HO := hide o9
    have HW := hide (wnz.made hb9)
    have HF := hide (set_ok HOK.out (1 + u) v q)
    clear ho9 hb9 o9 r9 oz wnz
    go_wp2
    go_roundw
    case rel => exact ⟨k - 1, ao9, _, cap9, setF l (1 + u) v q, by omega, by go_num, rfl, rfl, HF.out, HO.out, HW.out⟩
    case measure => simp [intOf]; omega
   ·have t0 : (x == 0) = false := by simp [e0]
    by_cases e1 : x = 1
    ·subst e1
     have wnz := wn3
     have oz := o3
     clear wn3 o3
     have r9 := grow_own (F := fentF) oz
     go_wp2_with fail
     refine (specAge_any _ _ _ l _ r9 (by omega) (ok_rng HOK.out)).mono ?_
     rintro e w9 ⟨ao9, cap9, rfl, ho9, -, hb9⟩
     have o9 := gown_lt ho9 (base' := w.heap.size) wnz.grown.size
     have HO := hide o9
     have HW := hide (wnz.made hb9)
     have HF := hide (age_ok HOK.out)
     clear ho9 hb9 o9 r9 oz wnz
     go_wp2
     go_roundw
     case rel => exact ⟨k - 1, ao9, _, cap9, ageF l, by omega, by go_num, rfl, rfl, HF.out, HO.out, HW.out⟩
     case measure => simp [intOf]; omega
    ·have t1 : (x == 1) = false := by simp [e1]
     go_wp2_with fail
     refine (below_any C a0 l0 c0 z0 3 _ wn3.cur (by omega)).mono ?_
     rintro e w4 ⟨u, rfl, hu0, hu1, -, wtu⟩
     have hu1 := hu1 (by omega)
     have wn4 := wn3.trans wtu
     have o4 := gown_apart o3 wtu.grown (fun b hb => by cases hb; exact hlt)
     clear wtu wn3 o3
     have hwu : IntKind.i64.wrap (1 + u) = 1 + u := wrap_at _ (by omega)
     go_wp2_with fail
     refine (mac_any C a0 l0 c0 z0 _ wn4.cur).mono ?_
     rintro e w5 ⟨v, rfl, hv0, hv1, wtv⟩
     have wn5 := wn4.trans wtv
     have o5 := gown_apart o4 wtv.grown (fun b hb => by cases hb; exact hlt)
     clear wtv wn4 o4
     go_wp2_with fail
     refine (below_any C a0 l0 c0 z0 3 _ wn5.cur (by omega)).mono ?_
     rintro e w6 ⟨c, rfl, hc0, hc1, -, wtc⟩
     have hc1 := hc1 (by omega)
     have wn6 := wn5.trans wtc
     have o6 := gown_apart o5 wtc.grown (fun b hb => by cases hb; exact hlt)
     clear wtc wn5 o5
     have hwv : IntKind.i64.wrap (v + c) = v + c := wrap_at _ (by omega)
     go_wp2_with fail
     refine (below_any C a0 l0 c0 z0 4 _ wn6.cur (by omega)).mono ?_
     rintro e w7 ⟨q, rfl, hq0, hq1, -, wtq⟩
     have hq1 := hq1 (by omega)
     have wnz := wn6.trans wtq
     have oz := gown_apart o6 wtq.grown (fun b hb => by cases hb; exact hlt)
     clear wtq wn6 o6
     have r9 := grow_own (F := fentF) oz
     go_wp2_with fail
     refine (specLearn_any _ _ _ l (1 + u) (v + c) q _ r9 (by omega)).mono ?_
     rintro e w9 ⟨ao9, cap9, rfl, ho9, -, hb9⟩
     have o9 := gown_lt ho9 (base' := w.heap.size) wnz.grown.size
     have HO := hide o9
     have HW := hide (wnz.made hb9)
     have HF := hide (learn_ok HOK.out (1 + u) (v + c) q)
     clear ho9 hb9 o9 r9 oz wnz
     go_wp2
     go_roundw
     case rel => exact ⟨k - 1, ao9, _, cap9, learnF l (1 + u) (v + c) q, by omega, by go_num, rfl, rfl, HF.out, HO.out, HW.out⟩
     case measure => simp [intOf]; omega
  ·have hk1 : k = 0 := by omega
   subst hk1
   go_wp2
   go_ret
   exact ⟨ao, n, cap, l, rfl, hl, HOK.out, o2, wn2⟩

def DrawnA (w w' : World) (C : Nat) (a0 : Option Addr) (l0 c0 : Nat) (z0 : List Int) (e : Ending) : Prop :=
 ∃ (ao : Option Addr) (n cap : Nat) (l : List FE), e = .returned (.slice ao n cap) ∧ l.length = n ∧ n ≤ 100 ∧ (∀ x ∈ l, x.Rng) ∧ w'.ownsRow w.heap.size 49 5 (.slice ao n cap) n (fentF.all l) ∧ Went w w' C a0 l0 c0 z0

theorem rng_snoc {l : List FE} {e : FE} (h : ∀ x ∈ l, x.Rng) (he : e.Rng) : ∀ x ∈ l ++ [e], x.Rng := by
 intro x hx
 rcases List.mem_append.1 hx with hx | hx
 ·exact h x hx
 ·simp at hx
  subst hx
  exact he

set_option maxRecDepth 100000 in
set_option maxHeartbeats 4000000 in
theorem l8Any_any (C : Nat) (a0 : Option Addr) (l0 c0 : Nat) (z0 : List Int) (w : World) (hc : Cur w C a0 l0 c0 z0) :
  Calls Tryz.prog 80 #[.pointer (some ⟨C, 0, none⟩)] w fun e w' => DrawnA w w' C a0 l0 c0 z0 e := by
 have hlt := hc.lt
 go_enter Tryz.func80, Tryz.ntmps80
 go_wp2_with fail
 refine (l8Draw_any C a0 l0 c0 z0 _ hc).mono ?_
 rintro e w1 ⟨ao, n, cap, l, rfl, hl, hok, o1, wn1⟩
 have h12 := ok_len hok
 have HR := hide (ok_rng hok)
 clear hok
 go_wp2_with fail
 refine (below_any C a0 l0 c0 z0 12 _ wn1.cur (by omega)).mono ?_
 rintro e w2 ⟨x, rfl, hx0, -, -, wtx⟩
 have wn2 := wn1.trans wtx
 have o2 := gown_apart o1 wtx.grown (fun b hb => by cases hb; exact hlt)
 clear wtx wn1 o1
 by_cases e0 : x = 0
 ·subst e0
  go_wp2_with fail
  refine (pick_any C a0 l0 c0 z0 [0, 1, 99, 100] _ _ w2 wn2.cur rfl rfl (by simp) (by simp)).mono ?_
  rintro e w3 ⟨pt, hpt, rfl, wtpt⟩
  have hpt : -1 ≤ pt ∧ pt ≤ 10000 := by simp at hpt; omega
  have wn3 := wn2.trans wtpt
  have o3 := gown_apart o2 wtpt.grown (fun b hb => by cases hb; exact hlt)
  clear wtpt wn2 o2
  go_wp2_with fail
  refine (pick_any C a0 l0 c0 z0 [0, 1, 9999] _ _ w3 wn3.cur rfl rfl (by simp) (by simp)).mono ?_
  rintro e w4 ⟨pm, hpm, rfl, wtpm⟩
  have hpm : -1 ≤ pm ∧ pm ≤ 10000 := by simp at hpm; omega
  have wn4 := wn3.trans wtpm
  have o4 := gown_apart o3 wtpm.grown (fun b hb => by cases hb; exact hlt)
  clear wtpm wn3 o3
  go_wp2_with fail
  refine (pick_any C a0 l0 c0 z0 [-1, 7, 8] _ _ w4 wn4.cur rfl rfl (by simp) (by simp)).mono ?_
  rintro e w5 ⟨pp, hpp, rfl, wtpp⟩
  have hpp : -1 ≤ pp ∧ pp ≤ 10000 := by simp at hpp; omega
  have wn5 := wn4.trans wtpp
  have o5 := gown_apart o4 wtpp.grown (fun b hb => by cases hb; exact hlt)
  clear wtpp wn4 o4
  go_wp2_with fail
  refine (pick_any C a0 l0 c0 z0 [-1, 4, 5] _ _ w5 wn5.cur rfl rfl (by simp) (by simp)).mono ?_
  rintro e w6 ⟨pa, hpa, rfl, wtpa⟩
  have hpa : -1 ≤ pa ∧ pa ≤ 10000 := by simp at hpa; omega
  have wn6 := wn5.trans wtpa
  have o6 := gown_apart o5 wtpa.grown (fun b hb => by cases hb; exact hlt)
  clear wtpa wn5 o5
  have b7 := below_one w6 (.cells #[.int .i64 pt, .int .i64 pm, .int .i64 pp, .int .i64 pa, .bool false] 49)
  have o7 := gown_below o6 b7
  have wn7 := wn6.made b7
  have HWN := hide wn7
  have hbase9 : w.heap.size ≤ (w6.alloc (.cells #[.int .i64 pt, .int .i64 pm, .int .i64 pp, .int .i64 pa, .bool false] 49)).heap.size := wn7.grown.size
  have HR2 := hide (rng_snoc HR.out (e := ⟨pt, pm, pp, pa, false⟩) ⟨by simp only; omega, by simp only; omega, by simp only; omega, by simp only; omega⟩)
  clear wn6 o6 b7 wn7
  go_wp2_with (at_builtin; refine fent_append _ rfl _ _ rfl w.heap.size _ n l rfl o7 _ 1 1 [⟨pt, pm, pp, pa, false⟩] rfl (grow_one fentF _ ⟨pt, pm, pp, pa, false⟩ _ _ rfl) (by omega) hbase9 ?_)
  intro ao9 cap9 w9 how9 hr9 hgr9 hb9
  have HO := hide how9
  have HW := hide (HWN.out.madeAt hb9 hlt (Nat.le_refl _))
  have hl9 : (l ++ [(⟨pt, pm, pp, pa, false⟩ : FE)]).length = n + 1 := by simp [hl]
  have HL := hide hl9
  clear how9 hr9 hgr9 hb9 o7 hl9
  go_wp2
  go_ret
  exact ⟨ao9, n + 1, cap9, _, rfl, HL.out, by omega, HR2.out, HO.out, HW.out⟩
 have t0 : (x == 0) = false := by simp [e0]
 by_cases e1 : x = 1
 ·subst e1
  go_wp2
  go_loopw [3, 4] (fun o i wr => ∃ (k : Nat) (ao : Option Addr) (n cap : Nat) (l : List FE), k ≤ 13 ∧ i = .int .i64 k ∧ o = .slice ao n cap ∧ l.length = n ∧ n ≤ 12 + k ∧ (∀ x ∈ l, x.Rng) ∧ wr.ownsRow w.heap.size 49 5 (.slice ao n cap) n (fentF.all l) ∧ Went w wr C a0 l0 c0 z0) (fun _ i _ => 14 - (intOf i).toNat)
  case atStart => exact ⟨0, ao, n, cap, l, by omega, rfl, rfl, hl, by omega, HR.out, o2, wn2⟩
  case round =>
   clear o2 wn2 hl h12 HR
   obtain ⟨k, ao, n, cap, l, hk, rfl, rfl, hl, hn, hR, o3, wn3⟩ := hrel
   have HR := hide hR
   clear hR
   go_wp2_with fail
   refine (below_any C a0 l0 c0 z0 3 _ wn3.cur (by omega)).mono ?_
   rintro e w4 ⟨c, rfl, hc0, hc1, -, wtc⟩
   have hc1 := hc1 (by omega)
   have wn4 := wn3.trans wtc
   have o4 := gown_apart o3 wtc.grown (fun b hb => by cases hb; exact hlt)
   have hw1 : IntKind.i64.wrap (11 + c) = 11 + c := wrap_at _ (by omega)
   clear wtc wn3 o3
   by_cases hkc : (k : Int) < 11 + c
   ·have hw2 : IntKind.i64.wrap (100 + (k : Int)) = 100 + (k : Int) := wrap_at _ (by omega)
    have b5 := below_one w4 (.cells #[.int .i64 50, .int .i64 (100 + (k : Int)), .int .i64 1, .int .i64 0, .bool false] 49)
    have o5 := gown_below o4 b5
    have wn5 := wn4.made b5
    have HWN := hide wn5
    have hbase9 : w.heap.size ≤ (w4.alloc (.cells #[.int .i64 50, .int .i64 (100 + (k : Int)), .int .i64 1, .int .i64 0, .bool false] 49)).heap.size := wn5.grown.size
    have HR2 := hide (rng_snoc HR.out (e := ⟨50, 100 + (k : Int), 1, 0, false⟩) ⟨by simp only; omega, by simp only; omega, by simp only; omega, by simp only; omega⟩)
    clear wn4 o4 b5 wn5
    go_wp2_with (at_builtin; refine fent_append _ rfl _ _ rfl w.heap.size _ n l rfl o5 _ 1 1 [⟨50, 100 + (k : Int), 1, 0, false⟩] rfl (grow_one fentF _ ⟨50, 100 + (k : Int), 1, 0, false⟩ _ _ rfl) (by omega) hbase9 ?_)
    intro ao9 cap9 w9 how9 hr9 hgr9 hb9
    have HO := hide how9
    have HW := hide (HWN.out.madeAt hb9 hlt (Nat.le_refl _))
    have hl9 : (l ++ [(⟨50, 100 + (k : Int), 1, 0, false⟩ : FE)]).length = n + 1 := by simp [hl]
    have HL := hide hl9
    clear how9 hr9 hgr9 hb9 o5 hl9
    go_wp2
    go_roundw
    case rel => exact ⟨k + 1, ao9, n + 1, cap9, _, by omega, by go_num, rfl, HL.out, by omega, HR2.out, HO.out, HW.out⟩
    case measure => simp [intOf]; omega
   ·go_wp2
    go_ret
    exact ⟨ao, n, cap, l, rfl, hl, by omega, HR.out, o4, wn4⟩
 have t1 : (x == 1) = false := by simp [e1]
 go_wp2
 go_ret
 exact ⟨ao, n, cap, l, rfl, hl, by omega, HR.out, o2, wn2⟩

theorem rowAt_no {l : List VR} {id : Int} (h : rowIdx l id = none) : rowAt l id = -1 := by unfold rowAt; rw [h]
theorem rowAt_yes {l : List VR} {id : Int} {k : Nat} (h : rowIdx l id = some k) : rowAt l id = k := by unfold rowAt; rw [h]

set_option maxRecDepth 100000 in
set_option maxHeartbeats 4000000 in
theorem implVtabOk_any (a : Option Addr) (n c : Nat) (o : Option Addr) (p q : Nat) (v : VT) (ports : Int) (w : World) (h : VTab w a n c o p q v) (hR : ∀ r ∈ v.rows, r.Rng) :
  Calls Tryz.prog 54 #[.agg #[.slice a n c, .slice o p q], .int .i64 ports] w fun r w' => r = .returned (.bool (vtabOk v ports)) ∧ Below w.heap.size w w' := by
 have hle := h.rows.le
 have htop := h.rows.top
 have hle2 := h.own.le
 have htop2 := h.own.top
 unfold maxLen at htop htop2
 have hsz := hide h.rows.size
 have hsz2 := hide h.own.size
 generalize hw1 : w.alloc (Obj.cells #[Value.slice a n c, Value.slice o p q] 29) = w1
 have hW : Below w.heap.size w w1 := by subst hw1; exact below_one _ _
 obtain ⟨e0, e1⟩ := box_two hw1 (Below.refl _ w1)
 have h := h.below hW
 generalize hV : vtabOk v ports = V
 have HV := hide hV
 clear hV
 cases t1 : (decide (1 ≤ ports) && decide (ports ≤ 6))
 ·have HN := hide (vtab_in (v := v) t1)
  have T1 := hide t1
  clear t1
  go_enter Tryz.func54, Tryz.ntmps54
  go_wp2_with (refine (implIn9_any ports 1 6 _).mono ?_; rintro r w2 ⟨rfl, e2⟩; obtain rfl := e2.symm; rw [T1.out])
  go_ret
  exact ⟨ret_bool (by rw [← HV.out, HN.out]), hW⟩
 have T1 := hide t1
 simp only [Bool.and_eq_true, decide_eq_true_eq] at t1
 by_cases t2 : (p : Int) = ports
 case neg =>
  have HN := hide (vtab_len (v := v) (ports := ports) (by rw [hsz2.out]; exact t2))
  go_enter Tryz.func54, Tryz.ntmps54
  go_wp2_with (refine (implIn9_any ports 1 6 _).mono ?_; rintro r w2 ⟨rfl, e2⟩; obtain rfl := e2.symm; rw [T1.out])
  go_ret
  exact ⟨ret_bool (by rw [← HV.out, HN.out]), hW⟩
 subst t2
 by_cases t3 : n ≤ 6
 case neg =>
  have HN := hide (vtab_many (v := v) (ports := p) (by rw [hsz.out]; exact t3))
  go_enter Tryz.func54, Tryz.ntmps54
  go_wp2_with (refine (implIn9_any (p : Int) 1 6 _).mono ?_; rintro r w2 ⟨rfl, e2⟩; obtain rfl := e2.symm; rw [T1.out])
  go_ret
  exact ⟨ret_bool (by rw [← HV.out, HN.out]), hW⟩
 cases t4 : vrises v.rows
 ·have HN := hide (vtab_rise (v := v) (ports := p) t4)
  have T4 := hide t4
  clear t4
  go_enter Tryz.func54, Tryz.ntmps54
  go_wp2_with (refine (implIn9_any (p : Int) 1 6 _).mono ?_; rintro r w2 ⟨rfl, e2⟩; obtain rfl := e2.symm; rw [T1.out])
  refine (implRowsOf_any a n c o p q _).mono ?_
  rintro r w2 ⟨rfl, hb2⟩
  go_wp2_with fail
  refine (implAscends_any a n c v.rows _ (h.rows.below hb2)).mono ?_
  rintro r w3 ⟨rfl, hb3⟩
  rw [T4.out]
  have HB := hide (gr_trans hW (gr_trans hb2 hb3))
  clear hb2 hb3
  go_wp2
  go_ret
  exact ⟨ret_bool (by rw [← HV.out, HN.out]), HB.out⟩
 have T4 := hide t4
 clear t4
 go_enter Tryz.func54, Tryz.ntmps54
 go_wp2_with (refine (implIn9_any (p : Int) 1 6 _).mono ?_; rintro r w2 ⟨rfl, e2⟩; obtain rfl := e2.symm; rw [T1.out])
 refine (implRowsOf_any a n c o p q _).mono ?_
 rintro r w2 ⟨rfl, hb2⟩
 go_wp2_with fail
 refine (implAscends_any a n c v.rows _ (h.rows.below hb2)).mono ?_
 rintro r w3 ⟨rfl, hb3⟩
 rw [T4.out]
 have b13 := gr_trans hb2 hb3
 obtain ⟨x0, x1⟩ := box_two hw1 b13
 clear hb2 hb3 e0 e1
 go_wp2
 go_loopw [34] (fun i wr => ∃ k : Nat, k ≤ n ∧ i = .int .i64 k ∧ rowsTo (allOf p) v.rows k ∧ Below w1.heap.size w1 wr) (fun i _ => n - (intOf i).toNat)
 case atStart => exact ⟨0, Nat.zero_le _, rfl, fun i x hi => by omega, b13⟩
 case round =>
  obtain ⟨k, hk, rfl, hok, hb⟩ := hrel
  by_cases hlt : k < n
  ·obtain ⟨x, b, off, hx, rfl, c0, c1, c2⟩ := vrow_at (h.rows.below hb) k hlt
   have hxr : x.Rng := hR x (List.mem_of_getElem? hx)
   cases t5 : vrowOk (allOf p) x
   ·have HN := hide (vtab_row (v := v) (p := p) hx t5)
    have T5 := hide t5
    have HB := hide hb
    clear t5 hok hb hx x0 x1
    go_wp2_with fail
    refine (implVrowOk_any x p _ hxr (by omega) (by omega)).mono ?_
    rintro r w5 ⟨rfl, hb5⟩
    rw [T5.out]
    have HB1 := hide (gr_trans hW (gr_trans HB.out (gr_trans (below_one _ _) hb5)))
    clear hb5 c0 c1 c2
    go_wp2
    go_ret
    exact ⟨ret_bool (by rw [← HV.out, HN.out]), HB1.out⟩
   ·have HO := hide (rowsTo_next hok hx t5)
    have T5 := hide t5
    have HB := hide hb
    clear t5 hok hb hx x0 x1
    go_wp2_with fail
    refine (implVrowOk_any x p _ hxr (by omega) (by omega)).mono ?_
    rintro r w5 ⟨rfl, hb5⟩
    rw [T5.out]
    have HB1 := hide (gr_trans HB.out (gr_trans (below_one _ _) hb5))
    clear hb5 c0 c1 c2
    go_wp2
    go_roundw
    case rel => exact ⟨k + 1, by omega, by go_num, HO.out, HB1.out⟩
    case measure => simp [intOf]; omega
  ·have HK : Hid (vokTo (allOf p) v.rows v.rows.length) := hide (vokTo_of (fun i x hi hx => hok i x (by have := hsz.out; omega) hx) T4.out)
   obtain ⟨y0, y1⟩ := box_two hw1 hb
   have HB := hide hb
   have hkn : k = n := by omega
   clear hok hb x0 x1
   subst hkn
   go_wp2
   go_loopw [46] (fun i wr => ∃ k : Nat, k ≤ p ∧ i = .int .i64 k ∧ ownTo v k ∧ Below w1.heap.size w1 wr) (fun i _ => p - (intOf i).toNat)
   case atStart => exact ⟨0, Nat.zero_le _, rfl, fun i x hi => by omega, HB.out⟩
   case round =>
    obtain ⟨j, hj, rfl, hto, hb⟩ := hrel
    by_cases hlt : j < p
    ·obtain ⟨x, b, off, hx, rfl, c0⟩ := irow_at (h.own.below hb) j hlt
     obtain ⟨z0, z1⟩ := box_two hw1 hb
     clear y0 y1
     cases hr : rowIdx v.rows x with
     | none =>
      have HN := hide (vtab_own (p := p) (List.mem_of_getElem? hx) hr)
      have HA := hide (rowAt_no hr)
      have HB3 := hide hb
      clear hto hb hx hr
      go_wp2_with fail
      refine (implRowAt_any a k c v.rows (some ⟨b, off, none⟩) p q x _ (h.rows.below HB3.out)).mono ?_
      rintro r w5 ⟨rfl, hb5⟩
      rw [HA.out]
      have HB1 := hide (gr_trans hW (gr_trans HB3.out hb5))
      clear hb5 c0 z0 z1
      go_wp2
      go_ret
      exact ⟨ret_bool (by rw [← HV.out, HN.out]), HB1.out⟩
     | some i =>
      have HO := hide (ownTo_next hto hx (by rw [hr]; exact fun h => by cases h))
      have HA := hide (rowAt_yes hr)
      have HB3 := hide hb
      have hneg : ¬ ((i : Int) < 0) := by omega
      clear hto hb hx hr
      go_wp2_with fail
      refine (implRowAt_any a k c v.rows (some ⟨b, off, none⟩) p q x _ (h.rows.below HB3.out)).mono ?_
      rintro r w5 ⟨rfl, hb5⟩
      rw [HA.out]
      have HB1 := hide (gr_trans HB3.out hb5)
      clear hb5 c0 z0 z1
      go_wp2
      go_roundw
      case rel => exact ⟨j + 1, by omega, by go_num, HO.out, HB1.out⟩
      case measure => simp [intOf]; omega
    ·have HN : Hid (vtabOk v p = true) := hide (vtab_yes t1.1 t1.2 hsz2.out (by have := hsz.out; omega) HK.out (ownTo_all hto (by have := hsz2.out; omega)))
     have HB3 := hide (gr_trans hW hb)
     have hjn : j = p := by omega
     clear hto hb y0 y1
     subst hjn
     go_wp2
     go_ret
     exact ⟨ret_bool (by rw [← HV.out, HN.out]), HB3.out⟩

theorem bitOf_out {n port : Int} (h : in3 port 0 7 = false) : bitOf n port = false := by
 unfold bitOf
 rw [h]
 rfl

theorem bitOf_in {n : Int} {k : Nat} (h : k ≤ 7) : bitOf n (k : Int) = (bits .and .i64 (n / 2 ^ k) 1 == 1) := by
 unfold bitOf in3
 rw [Int.toNat_natCast, decide_eq_true (show (0 : Int) ≤ (k : Int) by omega), decide_eq_true (show (k : Int) ≤ 7 by omega)]
 rfl

set_option maxRecDepth 100000 in
set_option maxHeartbeats 2000000 in
theorem specBit_any (n port : Int) (w : World) :
  Calls Tryz.prog 109 #[.int .i64 n, .int .i64 port] w fun e w' => e = .returned (.bool (bitOf n port)) ∧ w' = w := by
 cases hin : in3 port 0 7
 ·rw [bitOf_out hin]
  have HIN := hide hin
  clear hin
  go_enter Tryz.func109, Tryz.ntmps109
  go_wp2_with fail
  refine (within_any port 0 7 _).mono ?_
  rintro e w1 ⟨rfl, e1⟩
  obtain rfl := e1.symm
  rw [show (decide (0 ≤ port) && decide (port ≤ 7)) = false from HIN.out]
  go_wp2
  go_ret
  exact ⟨rfl, rfl⟩
 ·have hp : 0 ≤ port ∧ port ≤ 7 := by unfold in3 at hin; simpa using hin
  obtain ⟨k, rfl⟩ : ∃ k : Nat, port = (k : Int) := ⟨port.toNat, by omega⟩
  rw [bitOf_in (by omega)]
  generalize hB : (bits .and .i64 (n / 2 ^ k) 1 == 1) = B
  have hwk : IntKind.u64.wrap (k : Int) = (k : Int) := by rw [IntKind.wrap_u64]; omega
  have HIN := hide hin
  clear hin
  go_enter Tryz.func109, Tryz.ntmps109
  go_wp2_with fail
  refine (within_any (k : Int) 0 7 _).mono ?_
  rintro e w1 ⟨rfl, e1⟩
  obtain rfl := e1.symm
  rw [show (decide (0 ≤ (k : Int)) && decide ((k : Int) ≤ 7)) = true from HIN.out]
  go_wp2
  go_ret
  exact ⟨ret_bool (by first | rfl | simp [hB]), rfl⟩

def hasP (n port : Int) : Bool := decide (0 ≤ port) && (bits .and .i64 n (2 ^ port.toNat) != 0)

theorem hasP_same {n port : Int} (hn : I64 n) (h : port ≤ 7 ∨ (port ≤ 9 ∧ 0 ≤ n ∧ n ≤ 63)) : hasP n port = bitOf n port := by
 unfold hasP
 by_cases h0 : 0 ≤ port
 ·obtain ⟨k, rfl⟩ : ∃ k : Nat, port = (k : Int) := ⟨port.toNat, by omega⟩
  rw [decide_eq_true h0, Bool.true_and, Int.toNat_natCast, bit_same n k (by omega) hn]
  by_cases h7 : k ≤ 7
  ·rw [bitOf_in h7]
  ·rw [bitOf_out (by unfold in3; rw [decide_eq_false (show ¬ (k : Int) ≤ 7 by omega), Bool.and_false])]
   have hn2 : 0 ≤ n ∧ n ≤ 63 := by rcases h with h | h <;> omega
   rcases (show k = 8 ∨ k = 9 by omega) with rfl | rfl
   ·rw [show n / 2 ^ 8 = 0 by simp; omega]
    decide
   ·rw [show n / 2 ^ 9 = 0 by simp; omega]
    decide
 ·rw [decide_eq_false h0, Bool.false_and, bitOf_out (by unfold in3; rw [decide_eq_false h0, Bool.false_and])]

set_option maxRecDepth 100000 in
set_option maxHeartbeats 2000000 in
theorem implHasPort_any (n port : Int) (hp : port ≤ 9) (w : World) :
  Calls Tryz.prog 124 #[.int .i64 n, .int .i64 port] w fun e w' => e = .returned (.bool (hasP n port)) ∧ w' = w := by
 by_cases h0 : 0 ≤ port
 ·have hx : port = 0 ∨ port = 1 ∨ port = 2 ∨ port = 3 ∨ port = 4 ∨ port = 5 ∨ port = 6 ∨ port = 7 ∨ port = 8 ∨ port = 9 := by omega
  rcases hx with rfl | rfl | rfl | rfl | rfl | rfl | rfl | rfl | rfl | rfl
  ·rw [show hasP n 0 = (bits .and .i64 n 1 != 0) from rfl]
   generalize hB : (bits .and .i64 n 1 != 0) = B
   go_enter Tryz.func124, Tryz.ntmps124
   go_wp2
   go_ret
   exact ⟨ret_bool (by first | rfl | simp [hB]), rfl⟩
  ·rw [show hasP n 1 = (bits .and .i64 n 2 != 0) from rfl]
   generalize hB : (bits .and .i64 n 2 != 0) = B
   go_enter Tryz.func124, Tryz.ntmps124
   go_wp2
   go_ret
   exact ⟨ret_bool (by first | rfl | simp [hB]), rfl⟩
  ·rw [show hasP n 2 = (bits .and .i64 n 4 != 0) from rfl]
   generalize hB : (bits .and .i64 n 4 != 0) = B
   go_enter Tryz.func124, Tryz.ntmps124
   go_wp2
   go_ret
   exact ⟨ret_bool (by first | rfl | simp [hB]), rfl⟩
  ·rw [show hasP n 3 = (bits .and .i64 n 8 != 0) from rfl]
   generalize hB : (bits .and .i64 n 8 != 0) = B
   go_enter Tryz.func124, Tryz.ntmps124
   go_wp2
   go_ret
   exact ⟨ret_bool (by first | rfl | simp [hB]), rfl⟩
  ·rw [show hasP n 4 = (bits .and .i64 n 16 != 0) from rfl]
   generalize hB : (bits .and .i64 n 16 != 0) = B
   go_enter Tryz.func124, Tryz.ntmps124
   go_wp2
   go_ret
   exact ⟨ret_bool (by first | rfl | simp [hB]), rfl⟩
  ·rw [show hasP n 5 = (bits .and .i64 n 32 != 0) from rfl]
   generalize hB : (bits .and .i64 n 32 != 0) = B
   go_enter Tryz.func124, Tryz.ntmps124
   go_wp2
   go_ret
   exact ⟨ret_bool (by first | rfl | simp [hB]), rfl⟩
  ·rw [show hasP n 6 = (bits .and .i64 n 64 != 0) from rfl]
   generalize hB : (bits .and .i64 n 64 != 0) = B
   go_enter Tryz.func124, Tryz.ntmps124
   go_wp2
   go_ret
   exact ⟨ret_bool (by first | rfl | simp [hB]), rfl⟩
  ·rw [show hasP n 7 = (bits .and .i64 n 128 != 0) from rfl]
   generalize hB : (bits .and .i64 n 128 != 0) = B
   go_enter Tryz.func124, Tryz.ntmps124
   go_wp2
   go_ret
   exact ⟨ret_bool (by first | rfl | simp [hB]), rfl⟩
  ·rw [show hasP n 8 = (bits .and .i64 n 256 != 0) from rfl]
   generalize hB : (bits .and .i64 n 256 != 0) = B
   go_enter Tryz.func124, Tryz.ntmps124
   go_wp2
   go_ret
   exact ⟨ret_bool (by first | rfl | simp [hB]), rfl⟩
  ·rw [show hasP n 9 = (bits .and .i64 n 512 != 0) from rfl]
   generalize hB : (bits .and .i64 n 512 != 0) = B
   go_enter Tryz.func124, Tryz.ntmps124
   go_wp2
   go_ret
   exact ⟨ret_bool (by first | rfl | simp [hB]), rfl⟩
 ·rw [show hasP n port = false by unfold hasP; rw [decide_eq_false h0]; rfl]
  go_enter Tryz.func124, Tryz.ntmps124
  go_wp2
  go_ret
  exact ⟨rfl, rfl⟩

set_option maxRecDepth 100000 in
set_option maxHeartbeats 8000000 in
theorem specCopyB_made (a : Option Addr) (n c : Nat) (fa : Option Addr) (fn fc : Nat) (ra : Option Addr) (rn rc : Nat) (oa : Option Addr) (on oc : Nat) (B : BR) (w : World) (h : BrRow w a n c fa fn fc ra rn rc oa on oc B) (hn : n ≤ 16777216) (hfn : fn ≤ 16777216) (hrn : rn ≤ 16777216) (hon : on ≤ 16777216) :
  Calls Tryz.prog 57 #[.agg #[.int .i64 B.id, .string B.name, .slice a n c, .slice fa fn fc, .slice ra rn rc, .slice oa on oc, .int .i64 B.ticks, .int .i64 B.parse, .int .i64 B.word, .int .i64 B.drops, .int .i64 B.vers]] w fun e w' => ∃ (a2 : Option Addr) (c2 : Nat) (fa2 : Option Addr) (fc2 : Nat) (ra2 : Option Addr) (rc2 : Nat) (oa2 : Option Addr) (oc2 : Nat), e = .returned (.agg #[.int .i64 B.id, .string B.name, .slice a2 n c2, .slice fa2 fn fc2, .slice ra2 rn rc2, .slice oa2 on oc2, .int .i64 B.ticks, .int .i64 B.parse, .int .i64 B.word, .int .i64 B.drops, .int .i64 B.vers]) ∧ BrOwn w' w.heap.size a2 n c2 fa2 fn fc2 ra2 rn rc2 oa2 on oc2 B ∧ Below w.heap.size w w' := by
 generalize hw1 : w.alloc (Obj.cells #[.int .i64 B.id, .string B.name, .slice a n c, .slice fa fn fc, .slice ra rn rc, .slice oa on oc, .int .i64 B.ticks, .int .i64 B.parse, .int .i64 B.word, .int .i64 B.drops, .int .i64 B.vers] 31) = w1
 generalize hw2 : w1.alloc (Obj.cells #[.int .i64 0, .string ⟨#[]⟩, .slice none 0 0, .slice none 0 0, .slice none 0 0, .slice none 0 0, .int .i64 0, .int .i64 0, .int .i64 0, .int .i64 0, .int .i64 0] 31) = w2
 generalize hw3 : w2.alloc (Obj.cells #[.int .i64 B.id, .string B.name, .slice a n c, .slice fa fn fc, .slice ra rn rc, .slice oa on oc, .int .i64 B.ticks, .int .i64 B.parse, .int .i64 B.word, .int .i64 B.drops, .int .i64 B.vers] 31) = w3
 generalize hw4 : w3.alloc (Obj.cells #[] 44) = w4
 have b01 : Below w.heap.size w w1 := by rw [← hw1]; exact below_one _ _
 have b12 : Below w1.heap.size w1 w2 := by rw [← hw2]; exact below_one _ _
 have b23 : Below w2.heap.size w2 w3 := by rw [← hw3]; exact below_one _ _
 have b34 : Below w3.heap.size w3 w4 := by rw [← hw4]; exact below_one _ _
 have z1 : w.heap.size < w1.heap.size := by rw [← hw1]; simp
 have z2 : w1.heap.size < w2.heap.size := by rw [← hw2]; simp
 have k1 : w1.heap[w.heap.size]? = some (.cells #[.int .i64 B.id, .string B.name, .slice a n c, .slice fa fn fc, .slice ra rn rc, .slice oa on oc, .int .i64 B.ticks, .int .i64 B.parse, .int .i64 B.word, .int .i64 B.drops, .int .i64 B.vers] 31) := by rw [← hw1]; exact block_last _ _
 have kA2 := kept_block k1 b12
 have kA4 := kept_block (kept_block kA2 b23) b34
 have st4 : BcSt w w4 w1.heap.size w2.heap.size #[.int .i64 B.id, .string B.name, .slice a n c, .slice fa fn fc, .slice ra rn rc, .slice oa on oc, .int .i64 B.ticks, .int .i64 B.parse, .int .i64 B.word, .int .i64 B.drops, .int .i64 B.vers] := BcSt.later ⟨by rw [← hw3]; exact block_last _ _, kept_block (by rw [← hw2]; exact block_last _ _) b23, gr_trans (gr_trans b01 b12) b23, by omega, Nat.le_of_lt z1, Nat.ne_of_lt z2⟩ b34
 have k4 : w4.heap[w3.heap.size]? = some (.cells #[] 44) := by rw [← hw4]; exact block_last _ _
 have b03 := gr_trans (gr_trans b01 b12) b23
 have nil4 : w4.ownsRow w.heap.size 44 8 (.slice (some ⟨w3.heap.size, 0, none⟩) 0 0) 0 (ptF.all []) := flat_nil ptF w w4 44 w3.heap.size k4 b03.size
 have HZ1 := hide z1
 have HZ2 := hide z2
 have nAX : ¬ w.heap.size = w2.heap.size := by omega
 have nXA : ¬ w2.heap.size = w.heap.size := by omega
 obtain ⟨x0, x1, x2, x3, x4, x5, x6, x7, x8, x9, x10⟩ := cells11 kA2
 have SZ23 := hide b23.size
 clear z1 z2 b01 b12 b23 b34 k1 b03
 go_enter Tryz.func57, Tryz.ntmps57
 go_upto_region 2 with fail
 clear x0 x1 x2 x3 x4 x5 x6 x7 x8 x9 x10 hw1 hw2 hw3
 obtain ⟨x0, x1, x2, x3, x4, x5, x6, x7, x8, x9, x10⟩ := cells11 kA4
 have HST := hide st4
 have HKA := hide kA4
 have HN4 := hide nil4
 have hp4 := h.ports.below st4.below
 have hs4 := st4.below.size
 clear st4 kA4 kA2
 go_wp2_with (at_builtin; refine pt_append _ rfl _ _ rfl w.heap.size _ 0 [] rfl nil4 a n c B.ports rfl hp4 (by omega) hs4 ?_)
 intro a4 c4 w5 o5 hr5 hg5 hb5
 have o5 : w5.ownsRow w.heap.size 44 8 (.slice a4 n c4) n (ptF.all B.ports) := by simpa using o5
 have st5 := HST.out.grown HN4.out (by decide) hg5 hb5
 have kA5 := kept_grown HKA.out hg5 (fun i e => by have h1 := (HN4.out.lt i e).1; have h2 : i = w3.heap.size := (Option.some.inj e).symm; have h3 := HZ2.out; have h4 := HZ1.out; have h5 : w2.heap.size ≤ w3.heap.size := SZ23.out; omega)
 try simp only [Nat.zero_add]
 clear x0 x1 x2 x3 x4 x5 x6 x7 x8 x9 x10 hr5 hg5 hb5 nil4 hp4 hs4 HST HKA HN4
 generalize hX : w2.heap.size = X at *
 generalize hR : w1.heap.size = R at *
 have st6 := st5.put 2 (.slice a4 n c4) (cs' := #[.int .i64 B.id, .string B.name, .slice a4 n c4, .slice fa fn fc, .slice ra rn rc, .slice oa on oc, .int .i64 B.ticks, .int .i64 B.parse, .int .i64 B.word, .int .i64 B.drops, .int .i64 B.vers]) rfl
 have o6 := st5.stay o5 (by decide) 2 (.slice a4 n c4)
 have kA6 := kept_set (b := X) (j := 2) (u := .slice a4 n c4) kA5 nAX
 obtain ⟨y0, y1, y2, y3, y4, y5, y6, y7, y8, y9, y10⟩ := cells11 st5.box
 have f2 := frozen8 st5.box 2
 generalize hw6 : w5.setCell ⟨X, 2, none⟩ (.slice a4 n c4) = w6 at st6 o6 kA6
 go_upto_region 3 with fail
 try rw [hw6]
 clear y0 y1 y2 y3 y4 y5 y6 y7 y8 y9 y10 f2 hw6 st5 o5 kA5
 obtain ⟨x0, x1, x2, x3, x4, x5, x6, x7, x8, x9, x10⟩ := cells11 kA6
 go_wp2_with fail
 refine (specCopyF_any fa fn fc B.f _ (h.f.below st6.below) hfn).mono ?_
 rintro e w7 ⟨fa6, fc6, rfl, oF, -, hb7⟩
 have st7 := st6.later hb7
 have o7 := gown_below o6 hb7
 have oF := gown_lt oF (base' := w.heap.size) st6.below.size
 have kA7 := kept_block kA6 hb7
 clear x0 x1 x2 x3 x4 x5 x6 x7 x8 x9 x10 hb7 o6 st6 kA6
 obtain ⟨y0, y1, y2, y3, y4, y5, y6, y7, y8, y9, y10⟩ := cells11 st7.box
 have f3 := frozen8 st7.box 3
 have st8 := st7.put 3 (.slice fa6 fn fc6) (cs' := #[.int .i64 B.id, .string B.name, .slice a4 n c4, .slice fa6 fn fc6, .slice ra rn rc, .slice oa on oc, .int .i64 B.ticks, .int .i64 B.parse, .int .i64 B.word, .int .i64 B.drops, .int .i64 B.vers]) rfl
 have o8 := st7.stay o7 (by decide) 3 (.slice fa6 fn fc6)
 have oF8 := st7.stay oF (by decide) 3 (.slice fa6 fn fc6)
 have kA8 := kept_set (b := X) (j := 3) (u := .slice fa6 fn fc6) kA7 nAX
 generalize hw8 : w7.setCell ⟨X, 3, none⟩ (.slice fa6 fn fc6) = w8 at st8 o8 oF8 kA8
 go_upto_region 4 with fail
 try rw [hw8]
 clear y0 y1 y2 y3 y4 y5 y6 y7 y8 y9 y10 f3 hw8 st7 o7 oF kA7
 obtain ⟨x0, x1, x2, x3, x4, x5, x6, x7, x8, x9, x10⟩ := cells11 kA8
 go_wp2_with fail
 refine (specCopyV_made ra rn rc oa on oc B.v _ (h.v.below st8.below) hrn hon).mono ?_
 rintro e w9 ⟨ra8, rc8, oa8, oc8, rfl, oV, hb9⟩
 have st9 := st8.later hb9
 have own9 : BrOwn w9 w.heap.size a4 n c4 fa6 fn fc6 ra8 rn rc8 oa8 on oc8 B := ⟨gown_below o8 hb9, gown_below oF8 hb9, oV.lt (base' := w.heap.size) st8.below.size⟩
 clear x0 x1 x2 x3 x4 x5 x6 x7 x8 x9 x10 hb9 o8 oF8 kA8 st8 oV
 have st10 := (st9.put 4 (.slice ra8 rn rc8) rfl).put 5 (.slice oa8 on oc8) (cs' := #[.int .i64 B.id, .string B.name, .slice a4 n c4, .slice fa6 fn fc6, .slice ra8 rn rc8, .slice oa8 on oc8, .int .i64 B.ticks, .int .i64 B.parse, .int .i64 B.word, .int .i64 B.drops, .int .i64 B.vers]) rfl
 have own10 := (own9.boxed st9.box 4 (.slice ra8 rn rc8)).boxed (st9.put 4 (.slice ra8 rn rc8) rfl).box 5 (.slice oa8 on oc8)
 obtain ⟨y0, y1, y2, y3, y4, y5, y6, y7, y8, y9, y10⟩ := cells11 st9.box
 have f4 := frozen8 st9.box 4
 have f5 := frozen8 st9.box 5
 obtain ⟨u0, u1, u2, u3, u4, u5, u6, u7, u8, u9, u10⟩ := cells11 st9.res
 have fr := frozen8 st9.res
 have fr0 := fr 0
 have fr1 := fr 1
 have fr2 := fr 2
 have fr3 := fr 3
 have fr4 := fr 4
 have fr5 := fr 5
 have fr6 := fr 6
 have fr7 := fr 7
 have fr8 := fr 8
 have fr9 := fr 9
 have fr10 := fr 10
 have ne1 : ¬ X = R := fun e => st9.ne e.symm
 have ne2 : ¬ R = X := st9.ne
 obtain ⟨HO0, HB0⟩ := st10.out own10 (.int .i64 B.id) (.string B.name) (.slice a4 n c4) (.slice fa6 fn fc6) (.slice ra8 rn rc8) (.slice oa8 on oc8) (.int .i64 B.ticks) (.int .i64 B.parse) (.int .i64 B.word) (.int .i64 B.drops) (.int .i64 B.vers)
 have HO := hide HO0
 have HB := hide HB0
 clear fr st9 st10 own9 own10 HO0 HB0
 go_wp2
 exact bodyPost_ret (v := .agg #[.int .i64 B.id, .string B.name, .slice a4 n c4, .slice fa6 fn fc6, .slice ra8 rn rc8, .slice oa8 on oc8, .int .i64 B.ticks, .int .i64 B.parse, .int .i64 B.word, .int .i64 B.drops, .int .i64 B.vers]) (by simp [results, Tryz.results57, go_sem, *]) rfl ⟨a4, c4, fa6, fc6, ra8, rc8, oa8, oc8, rfl, HO.out, HB.out⟩

set_option maxRecDepth 100000 in
set_option maxHeartbeats 2000000 in
theorem specThere_any (a : Option Addr) (n c : Nat) (fa : Option Addr) (fn fc : Nat) (ra : Option Addr) (rn rc : Nat) (oa : Option Addr) (on oc : Nat) (B : BR) (port : Int) (w : World) (h : BrRow w a n c fa fn fc ra rn rc oa on oc B) :
  Calls Tryz.prog 60 #[.agg #[.int .i64 B.id, .string B.name, .slice a n c, .slice fa fn fc, .slice ra rn rc, .slice oa on oc, .int .i64 B.ticks, .int .i64 B.parse, .int .i64 B.word, .int .i64 B.drops, .int .i64 B.vers], .int .i64 port] w fun e w' => e = .returned (.bool (thereB B port)) ∧ Below w.heap.size w w' := by
 have hle := h.ports.le
 have htop := h.ports.top
 unfold maxLen at htop
 have HTB : Hid (thereB B port = (bridgeOk B && (decide (0 ≤ port) && decide (port ≤ (n : Int) - 1)))) := hide (by unfold thereB; rw [h.ports.size])
 generalize hw1 : w.alloc (Obj.cells #[.int .i64 B.id, .string B.name, .slice a n c, .slice fa fn fc, .slice ra rn rc, .slice oa on oc, .int .i64 B.ticks, .int .i64 B.parse, .int .i64 B.word, .int .i64 B.drops, .int .i64 B.vers] 31) = w1
 have b01 : Below w.heap.size w w1 := by rw [← hw1]; exact below_one _ _
 have k1 : w1.heap[w.heap.size]? = some (.cells #[.int .i64 B.id, .string B.name, .slice a n c, .slice fa fn fc, .slice ra rn rc, .slice oa on oc, .int .i64 B.ticks, .int .i64 B.parse, .int .i64 B.word, .int .i64 B.drops, .int .i64 B.vers] 31) := by rw [← hw1]; exact block_last _ _
 obtain ⟨x0, x1, x2, x3, x4, x5, x6, x7, x8, x9, x10⟩ := cells11 k1
 cases hok : bridgeOk B
 ·have HQ : Hid (thereB B port = false) := hide (by rw [HTB.out, hok]; rfl)
  have HOK := hide hok
  clear hok
  go_enter Tryz.func60, Tryz.ntmps60
  go_wp2_with fail
  refine (specBridgeOk_any a n c fa fn fc ra rn rc oa on oc B _ (h.below b01)).mono ?_
  rintro e w2 ⟨rfl, hb2⟩
  rw [HOK.out]
  have HB := hide (gr_trans b01 hb2)
  clear x0 x1 x2 x3 x4 x5 x6 x7 x8 x9 x10 hb2
  go_wp2
  go_ret
  exact ⟨(by rw [HQ.out]; rfl), HB.out⟩
 ·have HOK := hide hok
  have HQ : Hid (thereB B port = (decide (0 ≤ port) && decide (port ≤ (n : Int) - 1))) := hide (by rw [HTB.out, hok]; rfl)
  clear hok
  go_enter Tryz.func60, Tryz.ntmps60
  go_wp2_with fail
  refine (specBridgeOk_any a n c fa fn fc ra rn rc oa on oc B _ (h.below b01)).mono ?_
  rintro e w2 ⟨rfl, hb2⟩
  rw [HOK.out]
  have HB := hide (gr_trans b01 hb2)
  have k2 := kept_block k1 hb2
  clear x0 x1 x2 x3 x4 x5 x6 x7 x8 x9 x10 hb2
  obtain ⟨x0, x1, x2, x3, x4, x5, x6, x7, x8, x9, x10⟩ := cells11 k2
  go_wp2_with fail
  refine (within_any port 0 ((n : Int) - 1) _).mono ?_
  rintro r w3 ⟨rfl, ew⟩
  obtain rfl := ew.symm
  go_wp2
  go_ret
  exact ⟨(by rw [HQ.out]; rfl), HB.out⟩

set_option maxRecDepth 100000 in
set_option maxHeartbeats 400000 in
theorem specOne_any (n : Int) (w : World) (h : n ≤ 9223372036854775806) (h0 : -9223372036854775808 ≤ n) :
  Calls Tryz.prog 63 #[.int .i64 n] w fun e w' => e = .returned (.int .i64 (oneMore n)) ∧ w' = w := by
 by_cases h1 : n ≥ 1000000
 ·rw [show oneMore n = n from if_pos h1]
  have h1' : (1000000 : Int) ≤ n := h1
  go_enter Tryz.func63, Tryz.ntmps63
  go_wp2
  go_ret
  exact ⟨rfl, rfl⟩
 ·rw [show oneMore n = n + 1 from if_neg h1]
  have h1' : ¬ (1000000 : Int) ≤ n := h1
  go_enter Tryz.func63, Tryz.ntmps63
  go_wp2
  go_ret
  exact ⟨rfl, rfl⟩

theorem flushTo_len (bits : Int) (l : List FE) (k : Nat) : (flushTo bits l k).length ≤ l.length := (flushTo_sub bits l k).length_le

set_option maxRecDepth 100000 in
set_option maxHeartbeats 8000000 in
theorem specTurned_made (base : Nat) (a : Option Addr) (n c : Nat) (fa : Option Addr) (fn fc : Nat) (ra : Option Addr) (rn rc : Nat) (oa : Option Addr) (on oc : Nat) (B : BR) (w : World) (h : BrOwn w base a n c fa fn fc ra rn rc oa on oc B) (hbase : base ≤ w.heap.size) (hn : n ≤ 1048576) (hfn : fn ≤ 16777216) (hv : -9223372036854775808 ≤ B.vers ∧ B.vers ≤ 9223372036854775806) :
  Calls Tryz.prog 62 #[.agg #[.int .i64 B.id, .string B.name, .slice a n c, .slice fa fn fc, .slice ra rn rc, .slice oa on oc, .int .i64 B.ticks, .int .i64 B.parse, .int .i64 B.word, .int .i64 B.drops, .int .i64 B.vers]] w fun e w' => ∃ (fa2 : Option Addr) (fn2 fc2 : Nat), e = .returned (.agg #[.int .i64 B.id, .string B.name, .slice a n c, .slice fa2 fn2 fc2, .slice ra rn rc, .slice oa on oc, .int .i64 B.ticks, .int .i64 B.parse, .int .i64 B.word, .int .i64 B.drops, .int .i64 (oneMore B.vers)]) ∧ BrOwn w' base a n c fa2 fn2 fc2 ra rn rc oa on oc (turned B) ∧ Below w.heap.size w w' := by
 have hpl : B.ports.length = n := (grow_own (F := ptF) h.ports).size
 have hfl : B.f.length = fn := (grow_own (F := fentF) h.f).size
 generalize hw1 : w.alloc (Obj.cells #[.int .i64 B.id, .string B.name, .slice a n c, .slice fa fn fc, .slice ra rn rc, .slice oa on oc, .int .i64 B.ticks, .int .i64 B.parse, .int .i64 B.word, .int .i64 B.drops, .int .i64 B.vers] 31) = w1
 generalize hw2 : w1.alloc (Obj.cells #[.int .i64 0, .string ⟨#[]⟩, .slice none 0 0, .slice none 0 0, .slice none 0 0, .slice none 0 0, .int .i64 0, .int .i64 0, .int .i64 0, .int .i64 0, .int .i64 0] 31) = w2
 have b01 : Below w.heap.size w w1 := by rw [← hw1]; exact below_one _ _
 have b12 : Below w1.heap.size w1 w2 := by rw [← hw2]; exact below_one _ _
 have z1 : w.heap.size < w1.heap.size := by rw [← hw1]; simp
 have st2 : BcSt w w2 w1.heap.size w.heap.size #[.int .i64 B.id, .string B.name, .slice a n c, .slice fa fn fc, .slice ra rn rc, .slice oa on oc, .int .i64 B.ticks, .int .i64 B.parse, .int .i64 B.word, .int .i64 B.drops, .int .i64 B.vers] := ⟨kept_block (by rw [← hw1]; exact block_last _ _) b12, by rw [← hw2]; exact block_last _ _, gr_trans b01 b12, Nat.le_refl _, Nat.le_of_lt z1, Nat.ne_of_gt z1⟩
 have own2 := h.below (gr_trans b01 b12)
 obtain ⟨x0, x1, x2, x3, x4, x5, x6, x7, x8, x9, x10⟩ := cells11 st2.box
 have f10 := frozen8 st2.box 10
 obtain ⟨V, hV⟩ : ∃ V, V = oneMore B.vers := ⟨_, rfl⟩
 have HV := hide hV
 have HVR := hide hv
 clear hv
 go_enter Tryz.func62, Tryz.ntmps62
 go_wp2_with fail
 refine (specOne_any B.vers _ HVR.out.2 HVR.out.1).mono ?_
 rintro e w3 ⟨rfl, e3⟩
 obtain rfl := e3.symm
 rw [← hV]
 clear hV hw1 hw2
 generalize hR : w1.heap.size = R at *
 generalize hw4 : w2.setCell ⟨w.heap.size, 10, none⟩ (.int .i64 V) = w4
 have st4 := st2.put 10 (.int .i64 V) (cs' := #[.int .i64 B.id, .string B.name, .slice a n c, .slice fa fn fc, .slice ra rn rc, .slice oa on oc, .int .i64 B.ticks, .int .i64 B.parse, .int .i64 B.word, .int .i64 B.drops, .int .i64 V]) rfl
 have own4 := own2.boxed st2.box 10 (.int .i64 V)
 rw [hw4] at st4 own4
 go_upto_region 2 with fail
 clear x0 x1 x2 x3 x4 x5 x6 x7 x8 x9 x10 f10 st2 own2 hw4
 obtain ⟨x0, x1, x2, x3, x4, x5, x6, x7, x8, x9, x10⟩ := cells11 st4.box
 go_wp2_with fail
 refine (specSends_any B.id a n c B.ports _ (grow_own (F := ptF) own4.ports)).mono ?_
 rintro e w5 ⟨rfl, hb5⟩
 have st5 := st4.later hb5
 have own5 := own4.below hb5
 generalize hbits : sendsOf B.id B.ports = bits
 have HBI := hide hbits
 clear x0 x1 x2 x3 x4 x5 x6 x7 x8 x9 x10 st4 own4 hb5 hbits
 have HFL := hide hfl
 clear hfl
 go_wp2_with fail
 go_loopw [4] (fun i wr => ∃ (k : Nat) (fa2 : Option Addr) (fn2 fc2 : Nat), k ≤ n ∧ i = .int .i64 k ∧ fn2 ≤ fn ∧ BcSt w wr R w.heap.size #[.int .i64 B.id, .string B.name, .slice a n c, .slice fa2 fn2 fc2, .slice ra rn rc, .slice oa on oc, .int .i64 B.ticks, .int .i64 B.parse, .int .i64 B.word, .int .i64 B.drops, .int .i64 V] ∧ BrOwn wr base a n c fa2 fn2 fc2 ra rn rc oa on oc { B with f := flushTo bits B.f k }) (fun i _ => n - (intOf i).toNat)
 case atStart => exact ⟨0, fa, fn, fc, Nat.zero_le _, rfl, Nat.le_refl _, st5, own5⟩
 case round =>
  obtain ⟨k, fa2, fn2, fc2, hk, rfl, hf2, st, own⟩ := hrel
  clear st5 own5
  obtain ⟨x0, x1, x2, x3, x4, x5, x6, x7, x8, x9, x10⟩ := cells11 st.box
  by_cases hlt : k < n
  ·have i1 : (0 : Int) ≤ (k : Int) := by omega
   have i2 : (k : Int) < (n : Int) := by omega
   go_wp2_with fail
   refine (specBit_any bits (k : Int) _).mono ?_
   rintro e w6 ⟨rfl, e6⟩
   obtain rfl := e6.symm
   cases hb : bitOf bits (k : Int)
   ·have HF : Hid (flushTo bits B.f (k + 1) = flushF (flushTo bits B.f k) (k : Int)) := hide (by rw [flushTo, if_neg (by rw [hb]; decide)])
    clear hb
    go_wp2_with fail
    refine (specFlush_any fa2 fn2 fc2 (flushTo bits B.f k) (k : Int) _ (grow_own (F := fentF) own.f) (by omega)).mono ?_
    rintro e w7 ⟨fa7, fc7, rfl, o7, -, hb7⟩
    have hlen : (flushF (flushTo bits B.f k) (k : Int)).length ≤ fn := by
     have h1 : (flushF (flushTo bits B.f k) (k : Int)).length ≤ (flushTo bits B.f k).length := List.length_filter_le _ _
     have h2 := flushTo_len bits B.f k
     have h3 := HFL.out
     omega
    have st7 := st.later hb7
    have o7 := gown_lt o7 (base' := base) (Nat.le_trans hbase st.below.size)
    have own7 := (own.below hb7).putF (Below.refl _ _) o7
    clear x0 x1 x2 x3 x4 x5 x6 x7 x8 x9 x10 hb7 o7 st own
    obtain ⟨x0, x1, x2, x3, x4, x5, x6, x7, x8, x9, x10⟩ := cells11 st7.box
    have f3 := frozen8 st7.box 3
    rw [← HF.out] at own7 hlen ⊢
    generalize hL : (flushTo bits B.f (k + 1)).length = L at *
    have HST := hide (st7.put 3 (.slice fa7 L fc7) (cs' := #[.int .i64 B.id, .string B.name, .slice a n c, .slice fa7 L fc7, .slice ra rn rc, .slice oa on oc, .int .i64 B.ticks, .int .i64 B.parse, .int .i64 B.word, .int .i64 B.drops, .int .i64 V]) rfl)
    have HOW := hide (own7.boxed st7.box 3 (.slice fa7 L fc7))
    clear st7 own7
    go_wp2
    go_roundw
    case rel => exact ⟨k + 1, fa7, L, fc7, by omega, by go_num, hlen, HST.out, HOW.out⟩
    case measure => simp [intOf]; omega
   ·have HF : Hid (flushTo bits B.f (k + 1) = flushTo bits B.f k) := hide (by rw [flushTo, if_pos hb])
    have HOW : Hid (BrOwn wr base a n c fa2 fn2 fc2 ra rn rc oa on oc { B with f := flushTo bits B.f (k + 1) }) := hide (by rw [HF.out]; exact own)
    have HST := hide st
    clear hb st own x0 x1 x2 x3 x4 x5 x6 x7 x8 x9 x10
    go_wp2
    go_roundw
    case rel => exact ⟨k + 1, fa2, fn2, fc2, by omega, by go_num, hf2, HST.out, HOW.out⟩
    case measure => simp [intOf]; omega
  ·obtain rfl : n = k := by omega
   obtain ⟨y0, y1, y2, y3, y4, y5, y6, y7, y8, y9, y10⟩ := cells11 st.res
   have fr := frozen8 st.res
   have f0 := fr 0
   have f1 := fr 1
   have f2 := fr 2
   have f3 := fr 3
   have f4 := fr 4
   have f5 := fr 5
   have f6 := fr 6
   have f7 := fr 7
   have f8 := fr 8
   have f9 := fr 9
   have f10 := fr 10
   have ne1 : ¬ R = w.heap.size := st.ne
   have ne2 : ¬ w.heap.size = R := fun e => st.ne e.symm
   have HT : Hid (turned B = { B with vers := V, f := flushTo bits B.f n }) := hide (by unfold turned; rw [HBI.out, hpl, HV.out])
   obtain ⟨HO0, HB0⟩ := st.out own (.int .i64 B.id) (.string B.name) (.slice a n c) (.slice fa2 fn2 fc2) (.slice ra rn rc) (.slice oa on oc) (.int .i64 B.ticks) (.int .i64 B.parse) (.int .i64 B.word) (.int .i64 B.drops) (.int .i64 V)
   have HO := hide HO0
   have HB := hide HB0
   clear st own fr HO0 HB0
   go_wp2
   exact bodyPost_ret (v := .agg #[.int .i64 B.id, .string B.name, .slice a n c, .slice fa2 fn2 fc2, .slice ra rn rc, .slice oa on oc, .int .i64 B.ticks, .int .i64 B.parse, .int .i64 B.word, .int .i64 B.drops, .int .i64 V]) (by simp [results, Tryz.results62, go_sem, *]) rfl ⟨fa2, fn2, fc2, (by rw [HV.out]), (by rw [HT.out]; exact ⟨HO.out.ports, HO.out.f, HO.out.v⟩), HB.out⟩

set_option maxRecDepth 100000 in
set_option maxHeartbeats 1000000 in
theorem cloneI_any (ao : Option Addr) (n cap : Nat) (l : List Int) (w : World) (h : GRow intF w ao n cap l) (hn : n ≤ 16777216) :
  Calls Tryz.prog 123 #[.slice ao n cap] w fun r w' => ∃ ao' cap', r = .returned (.slice ao' n cap') ∧ w'.ownsRow w.heap.size 3 1 (.slice ao' n cap') n (intF.all l) ∧ Below w.heap.size w w' := by
 cases ao with
 | none =>
  have hc0 := h.nil rfl
  have hn0 : n = 0 := by have := h.le; omega
  subst hc0 hn0
  have hl : l = [] := List.eq_nil_of_length_eq_zero h.size
  subst hl
  have heq : ∀ W, (binOp .eql 27 (.slice none 0 0) (.slice none 0 0)).run Tryz.prog W = .ok (.bool true) W := fun _ => by kernel_rfl
  go_enter Tryz.func123, Tryz.ntmps123
  go_wp2
  go_ret
  exact ⟨none, 0, rfl, World.ownsRow_nil _ _ _ _, Below.refl _ _⟩
 | some a =>
  have heq : ∀ W, (binOp .eql 27 (.slice (some a) n cap) (.slice none 0 0)).run Tryz.prog W = .ok (.bool false) W := fun _ => by kernel_rfl
  go_enter Tryz.func123, Tryz.ntmps123
  go_wp2_with (at_builtin; refine wpList_append_flat (F := intF) _ rfl _ _ 27 3 rfl w.heap.size Tryz.underlying27 Tryz.infoI64 rfl (by decide) _ 0 [] rfl (flat_nil intF w _ 3 w.heap.size (block_last w _) (Nat.le_refl _)) (some a) n cap l rfl (h.below (below_one _ _)) (by omega) (by simp) ?_)
  intro ao' cap' w' how hr hgr hb
  have how : w'.ownsRow w.heap.size 3 1 (.slice ao' n cap') n (intF.all l) := by
   try simp only [Nat.zero_add, List.nil_append] at how
   exact how
  have HO := hide how
  have HB := hide ((below_one w _).trans hb)
  clear how hgr hb hr
  go_wp2
  go_ret
  exact ⟨ao', cap', (by simp), HO.out, HB.out⟩

set_option maxRecDepth 100000 in
set_option maxHeartbeats 1000000 in
theorem cloneV_any (ao : Option Addr) (n cap : Nat) (l : List VR) (w : World) (h : GRow vrowF w ao n cap l) (hn : n ≤ 16777216) :
  Calls Tryz.prog 122 #[.slice ao n cap] w fun r w' => ∃ ao' cap', r = .returned (.slice ao' n cap') ∧ w'.ownsRow w.heap.size 81 3 (.slice ao' n cap') n (vrowF.all l) ∧ Below w.heap.size w w' := by
 cases ao with
 | none =>
  have hc0 := h.nil rfl
  have hn0 : n = 0 := by have := h.le; omega
  subst hc0 hn0
  have hl : l = [] := List.eq_nil_of_length_eq_zero h.size
  subst hl
  have heq : ∀ W, (binOp .eql 26 (.slice none 0 0) (.slice none 0 0)).run Tryz.prog W = .ok (.bool true) W := fun _ => by kernel_rfl
  go_enter Tryz.func122, Tryz.ntmps122
  go_wp2
  go_ret
  exact ⟨none, 0, rfl, World.ownsRow_nil _ _ _ _, Below.refl _ _⟩
 | some a =>
  have heq : ∀ W, (binOp .eql 26 (.slice (some a) n cap) (.slice none 0 0)).run Tryz.prog W = .ok (.bool false) W := fun _ => by kernel_rfl
  go_enter Tryz.func122, Tryz.ntmps122
  go_wp2_with (at_builtin; refine wpList_append_flat (F := vrowF) _ rfl _ _ 26 81 rfl w.heap.size Tryz.underlying26 vrowInfo rfl (by decide) _ 0 [] rfl (flat_nil vrowF w _ 81 w.heap.size (block_last w _) (Nat.le_refl _)) (some a) n cap l rfl (h.below (below_one _ _)) (by omega) (by simp) ?_)
  intro ao' cap' w' how hr hgr hb
  have how : w'.ownsRow w.heap.size 81 3 (.slice ao' n cap') n (vrowF.all l) := by
   try simp only [Nat.zero_add, List.nil_append] at how
   exact how
  have HO := hide how
  have HB := hide ((below_one w _).trans hb)
  clear how hgr hb hr
  go_wp2
  go_ret
  exact ⟨ao', cap', (by simp), HO.out, HB.out⟩

set_option maxRecDepth 100000 in
set_option maxHeartbeats 4000000 in
theorem implCopyV_made (a : Option Addr) (n c : Nat) (o : Option Addr) (p q : Nat) (v : VT) (w : World) (h : VTab w a n c o p q v) (hn : n ≤ 16777216) (hp : p ≤ 16777216) :
  Calls Tryz.prog 85 #[.agg #[.slice a n c, .slice o p q]] w fun r w' => ∃ a' c' o' q', r = .returned (.agg #[.slice a' n c', .slice o' p q']) ∧ VOwn w' w.heap.size a' n c' o' p q' v ∧ Below w.heap.size w w' := by
 generalize hw1 : w.alloc (Obj.cells #[Value.slice a n c, Value.slice o p q] 29) = w1
 generalize hw2 : w1.alloc (Obj.cells #[Value.slice none 0 0, Value.slice none 0 0] 29) = w2
 have s1 : w1.heap.size = w.heap.size + 1 := by subst hw1; simp
 have s2 : w2.heap.size = w.heap.size + 1 + 1 := by subst hw2; simp [s1]
 have hk1 : w2.heap[w1.heap.size]? = some (.cells #[.slice none 0 0, .slice none 0 0] 29) := by rw [← hw2]; exact block_last _ _
 have b01 : Below w.heap.size w w1 := by subst hw1; exact below_one _ _
 have vb : Below w1.heap.size w1 w2.drew := by subst hw2; exact gr_drew (below_one _ _)
 have bw : Below w.heap.size w w2 := by subst hw2; exact gr_trans b01 (below_one _ _)
 have vv : Below w2.heap.size w2 w2.drew := gr_drew (Below.refl _ _)
 have HL : Hid (∀ b, some w1.heap.size = some b → b < w2.heap.size) := hide (by intro b hb; cases hb; omega)
 clear s1 s2
 go_enter Tryz.func85, Tryz.ntmps85
 go_wp2_with fail
 refine wp_region_held_drew (S := (fun W => W.cell? ⟨w.heap.size, 0, none⟩ = some (.slice a n c) ∧ W.cell? ⟨w.heap.size, 1, none⟩ = some (.slice o p q))) (by kernel_rfl) (box_two hw1 vb) (fun hHeld => ?_)
 refine kK 0 ⟨some 3, .fieldAddr 29 (.tmp 1) 0, 0, "l09_vlan.go:115", #[], none⟩ ?_
 refine kK 1 ⟨some 4, .load 26 (.tmp 3), 26, "l09_vlan.go:115", #[⟨0, .data⟩], none⟩ ?_
 refine kK 3 ⟨some 6, .fieldAddr 29 (.tmp 1) 1, 0, "l09_vlan.go:115", #[], none⟩ ?_
 refine kK 4 ⟨some 7, .load 27 (.tmp 6), 27, "l09_vlan.go:115", #[⟨3, .data⟩], none⟩ ?_
 refine tR [2] ?_
 refine AllReadyH.cons (o := ⟨some 5, .call ⟨.value (.func 122), #[.tmp 4], #[26]⟩, 26, "l09_vlan.go:115", #[⟨1, .data⟩], none⟩) rfl (fun K hK => ?_) ?_
 ·go_simp
  refine (cloneV_any a n c v.rows _ (h.rows.below (gr_trans bw vv)) hn).mono ?_
  rintro e wx ⟨aR, cR, rfl, how, hbx⟩
  have hR := gown_lt how (base' := w2.heap.size) vv.size
  try have hI := gown_below hI hbx
  have vv := gr_trans vv hbx
  have vb := gr_trans vb hbx
  clear how hbx
  go_wp2_with fail
  refine hK.out _ _ (box_two hw1 vb) (fun hHeld => ?_)
  clear hK K
  try simp only [Act.put, lA, lB, lC]
  refine tR [5] ?_
  refine AllReadyH.cons (o := ⟨some 8, .call ⟨.value (.func 123), #[.tmp 7], #[27]⟩, 27, "l09_vlan.go:115", #[⟨4, .data⟩, ⟨2, .chain⟩], none⟩) rfl (fun K hK => ?_) ?_
  ·go_simp
   refine (cloneI_any o p q v.own _ ((h.own.below (gr_trans bw vv)).flat) hp).mono ?_
   rintro e wx ⟨aI, cI', rfl, how, hbx⟩
   have hI := gown_lt how (base' := w2.heap.size) vv.size
   try have hR := gown_below hR hbx
   have vv := gr_trans vv hbx
   have vb := gr_trans vb hbx
   clear how hbx
   go_wp2_with fail
   refine hK.out _ _ (box_two hw1 vb) (fun hHeld => ?_)
   clear hK K
   try simp only [Act.put, lA, lB, lC]
   refine kK 6 ⟨some 9, .build 29 #[(0, .tmp 5), (1, .tmp 8)], 29, "l09_vlan.go:115", #[⟨2, .data⟩, ⟨5, .data⟩], none⟩ ?_
   refine tR [7] ?_
   refine AllReadyH.cons (o := ⟨none, .store 29 (.tmp 2) (.tmp 9), 0, "l09_vlan.go:115", #[⟨6, .data⟩, ⟨5, .chain⟩, ⟨0, .phase⟩, ⟨1, .phase⟩, ⟨2, .phase⟩, ⟨3, .phase⟩, ⟨4, .phase⟩, ⟨5, .phase⟩, ⟨6, .phase⟩], none⟩) rfl (fun K hK => ?_) ?_
   ·obtain ⟨⟨g0, g1⟩, f0, f1⟩ := cells2 (kept_block hk1 vv)
    go_simp
    have hR := gown_apart (gown_apart hR (grown_set (rb := w1.heap.size) 0 (.slice aR n cR)) HL.out) (grown_set (rb := w1.heap.size) 1 (.slice aI p cI')) HL.out
    have hI := gown_apart (gown_apart hI (grown_set (rb := w1.heap.size) 0 (.slice aR n cR)) HL.out) (grown_set (rb := w1.heap.size) 1 (.slice aI p cI')) HL.out
    have vb := below_set (below_set vb (Nat.le_refl _) 0 (.slice aR n cR)) (Nat.le_refl _) 1 (.slice aI p cI')
    refine hK.out _ _ (box_two hw1 vb) (fun hHeld => ?_)
    clear hK K
    try simp only [Act.put, lA, lB, lC]
    refine wpAnyH_done (by kernel_rfl) ?_ _
    have HR := hide hR
    have HI := hide hI
    clear hR hI
    go_wp2
    refine bodyPost_ret (v := .agg #[.slice aR n cR, .slice aI p cI']) (by simp [results, Tryz.results85, go_sem, *]) rfl ⟨_, _, _, _, rfl, ⟨gown_lt HR.out bw.size, gown_lt (by rw [← intF_all]; exact HI.out) bw.size, h.own.byte⟩, gr_trans b01 vb⟩
   exact AllReadyH.nil
  exact AllReadyH.nil
 exact AllReadyH.nil

end Go.Proofs.YtfknffdlmcckkaaGreat
