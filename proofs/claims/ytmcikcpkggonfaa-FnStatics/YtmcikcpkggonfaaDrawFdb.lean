/-
  Entries that are drawn: right ones, and bent ones; and what the laws of chapter 8 draw.
-/
import Derived.Test.YtmcikcpkggonfaaDrawb
import Derived.Test.YtmcikcpkggonfaaFdbRestS
import Derived.Test.YtmcikcpkggonfaaFlatOwn
import Derived.Test.YtmcikcpkggonfaaFdbEnt
namespace Go.Proofs.Ytmcikcpkggonfaa
open Go.RowKit

set_option maxRecDepth 100000 in
set_option maxHeartbeats 400000 in
theorem mac_any (C : Nat) (a0 : Option Addr) (l0 c0 : Nat) (z0 : List Int) (w : World) (hc : Cur w C a0 l0 c0 z0) :
    Calls Try.prog 38 #[.pointer (some ⟨C, 0, none⟩)] w fun e w' => ∃ y : Int, e = .returned (.int .i64 y) ∧ 11 ≤ y ∧ y ≤ 14 ∧ Went w w' C a0 l0 c0 z0 := by
  go_enter Try.func38, Try.ntmps38
  go_wp2_with fail
  refine (pick_any C a0 l0 c0 z0 [11, 12, 13, 14] _ _ w hc rfl rfl (by simp) (by simp)).mono ?_
  rintro e w2 ⟨y, hy, rfl, went2⟩
  have hy : 11 ≤ y ∧ y ≤ 14 := by simp at hy; omega
  go_wp2
  go_ret
  exact ⟨_, rfl, hy.1, hy.2, went2⟩

/-- Entries that were drawn and are right. -/
def DrawnL (w w' : World) (C : Nat) (a0 : Option Addr) (l0 c0 : Nat) (z0 : List Int) (e : Ending) : Prop :=
  ∃ (ao : Option Addr) (n cap : Nat) (l : List FE), e = .returned (.slice ao n cap) ∧ l.length = n ∧ fdbOk l = true ∧ w'.ownsRow w.heap.size 30 5 (.slice ao n cap) n (fentF.all l) ∧ Went w w' C a0 l0 c0 z0

theorem ok_len {l : List FE} (h : fdbOk l = true) : l.length ≤ 12 := ((fdbOk_iff l).1 h).2
theorem ok_rng {l : List FE} (h : fdbOk l = true) : ∀ x ∈ l, x.Rng := fun x hx => ent_rng ((((fdbOk_iff l).1 h).1).1 x hx)

set_option maxRecDepth 100000 in
set_option maxHeartbeats 4000000 in
theorem l8Draw_any (C : Nat) (a0 : Option Addr) (l0 c0 : Nat) (z0 : List Int) (w : World) (hc : Cur w C a0 l0 c0 z0) :
    Calls Try.prog 36 #[.pointer (some ⟨C, 0, none⟩)] w fun e w' => DrawnL w w' C a0 l0 c0 z0 e := by
  have hlt := hc.lt
  have wn0 := Went.start hc (below_one w (.cells #[] 30))
  have o0 := flat_nil fentF w _ 30 _ (block_last w (.cells #[] 30)) (Nat.le_refl _)
  go_enter Try.func36, Try.ntmps36
  go_wp2_with fail
  refine (below_any C a0 l0 c0 z0 10 _ wn0.cur (by omega)).mono ?_
  rintro e w1 ⟨x, rfl, hx0, hx1, -, wtx⟩
  have hx1 := hx1 (by omega)
  obtain ⟨mx, rfl⟩ : ∃ m : Nat, x = m := ⟨x.toNat, by omega⟩
  have wn1 := wn0.trans wtx
  have o1 := gown_apart o0 wtx.grown (fun b hb => by cases hb; exact hlt)
  clear wtx wn0 o0
  go_wp2
  go_loopw [3, 4] (fun o i wr => ∃ (k : Nat) (ao : Option Addr) (n cap : Nat) (l : List FE), k ≤ 10 ∧ i = .int .i64 k ∧ o = .slice ao n cap ∧ l.length = n ∧ fdbOk l = true ∧ wr.ownsRow w.heap.size 30 5 (.slice ao n cap) n (fentF.all l) ∧ Went w wr C a0 l0 c0 z0) (fun _ i _ => (intOf i).toNat)
  case atStart => exact ⟨mx, _, _, _, [], by omega, rfl, rfl, rfl, rfl, o1, wn1⟩
  case round =>
    obtain ⟨k, ao, n, cap, l, hk, rfl, rfl, hl, hok, o2, wn2⟩ := hrel
    clear wn1 o1
    have h12 := ok_len hok
    have HOK := hide hok
    clear hok
    by_cases hk0 : 0 < k
    · go_wp2_with fail
      refine (below_any C a0 l0 c0 z0 6 _ wn2.cur (by omega)).mono ?_
      rintro e w3 ⟨x, rfl, hx0, -, -, wtx⟩
      have wn3 := wn2.trans wtx
      have o3 := gown_apart o2 wtx.grown (fun b hb => by cases hb; exact hlt)
      clear wtx wn2 o2
      by_cases e0 : x = 0
      · subst e0
        go_wp2_with fail
        refine (below_any C a0 l0 c0 z0 3 _ wn3.cur (by omega)).mono ?_
        rintro e w4 ⟨u, rfl, hu0, hu1, -, wtu⟩
        have hu1 := hu1 (by omega)
        have wn4 := wn3.trans wtu
        have o4 := gown_apart o3 wtu.grown (fun b hb => by cases hb; exact hlt)
        clear wtu wn3 o3
        have hwu : IntKind.i64.wrap (1 + u) = 1 + u := wrap_at _ (by omega)
        go_wp2_with fail
        refine (mac_any C a0 l0 c0 z0 _ wn4.cur).mono ?_
        rintro e w5 ⟨v, rfl, hv0, hv1, wtv⟩
        have wn5 := wn4.trans wtv
        have o5 := gown_apart o4 wtv.grown (fun b hb => by cases hb; exact hlt)
        clear wtv wn4 o4
        go_wp2_with fail
        refine (below_any C a0 l0 c0 z0 4 _ wn5.cur (by omega)).mono ?_
        rintro e w6 ⟨q, rfl, hq0, hq1, -, wtq⟩
        have hq1 := hq1 (by omega)
        have wnz := wn5.trans wtq
        have oz := gown_apart o5 wtq.grown (fun b hb => by cases hb; exact hlt)
        clear wtq wn5 o5
        have r9 := grow_own (F := fentF) oz
        go_wp2_with fail
        refine (specSet_any _ _ _ l (1 + u) v q _ r9 (by omega)).mono ?_
        rintro e w9 ⟨ao9, cap9, rfl, ho9, -, hb9⟩
        have o9 := gown_lt ho9 (base' := w.heap.size) wnz.grown.size
        have HO := hide o9
        have HW := hide (wnz.made hb9)
        have HF := hide (set_ok HOK.out (1 + u) v q)
        clear ho9 hb9 o9 r9 oz wnz
        go_wp2
        go_roundw
        case rel => exact ⟨k - 1, ao9, _, cap9, setF l (1 + u) v q, by omega, by go_num, rfl, rfl, HF.out, HO.out, HW.out⟩
        case measure => simp [intOf]; omega
      · have t0 : (x == 0) = false := by simp [e0]
        by_cases e1 : x = 1
        · subst e1
          have wnz := wn3
          have oz := o3
          clear wn3 o3
          have r9 := grow_own (F := fentF) oz
          go_wp2_with fail
          refine (specAge_any _ _ _ l _ r9 (by omega) (ok_rng HOK.out)).mono ?_
          rintro e w9 ⟨ao9, cap9, rfl, ho9, -, hb9⟩
          have o9 := gown_lt ho9 (base' := w.heap.size) wnz.grown.size
          have HO := hide o9
          have HW := hide (wnz.made hb9)
          have HF := hide (age_ok HOK.out)
          clear ho9 hb9 o9 r9 oz wnz
          go_wp2
          go_roundw
          case rel => exact ⟨k - 1, ao9, _, cap9, ageF l, by omega, by go_num, rfl, rfl, HF.out, HO.out, HW.out⟩
          case measure => simp [intOf]; omega
        · have t1 : (x == 1) = false := by simp [e1]
          go_wp2_with fail
          refine (below_any C a0 l0 c0 z0 3 _ wn3.cur (by omega)).mono ?_
          rintro e w4 ⟨u, rfl, hu0, hu1, -, wtu⟩
          have hu1 := hu1 (by omega)
          have wn4 := wn3.trans wtu
          have o4 := gown_apart o3 wtu.grown (fun b hb => by cases hb; exact hlt)
          clear wtu wn3 o3
          have hwu : IntKind.i64.wrap (1 + u) = 1 + u := wrap_at _ (by omega)
          go_wp2_with fail
          refine (mac_any C a0 l0 c0 z0 _ wn4.cur).mono ?_
          rintro e w5 ⟨v, rfl, hv0, hv1, wtv⟩
          have wn5 := wn4.trans wtv
          have o5 := gown_apart o4 wtv.grown (fun b hb => by cases hb; exact hlt)
          clear wtv wn4 o4
          go_wp2_with fail
          refine (below_any C a0 l0 c0 z0 3 _ wn5.cur (by omega)).mono ?_
          rintro e w6 ⟨c, rfl, hc0, hc1, -, wtc⟩
          have hc1 := hc1 (by omega)
          have wn6 := wn5.trans wtc
          have o6 := gown_apart o5 wtc.grown (fun b hb => by cases hb; exact hlt)
          clear wtc wn5 o5
          have hwv : IntKind.i64.wrap (v + c) = v + c := wrap_at _ (by omega)
          go_wp2_with fail
          refine (below_any C a0 l0 c0 z0 4 _ wn6.cur (by omega)).mono ?_
          rintro e w7 ⟨q, rfl, hq0, hq1, -, wtq⟩
          have hq1 := hq1 (by omega)
          have wnz := wn6.trans wtq
          have oz := gown_apart o6 wtq.grown (fun b hb => by cases hb; exact hlt)
          clear wtq wn6 o6
          have r9 := grow_own (F := fentF) oz
          go_wp2_with fail
          refine (specLearn_any _ _ _ l (1 + u) (v + c) q _ r9 (by omega)).mono ?_
          rintro e w9 ⟨ao9, cap9, rfl, ho9, -, hb9⟩
          have o9 := gown_lt ho9 (base' := w.heap.size) wnz.grown.size
          have HO := hide o9
          have HW := hide (wnz.made hb9)
          have HF := hide (learn_ok HOK.out (1 + u) (v + c) q)
          clear ho9 hb9 o9 r9 oz wnz
          go_wp2
          go_roundw
          case rel => exact ⟨k - 1, ao9, _, cap9, learnF l (1 + u) (v + c) q, by omega, by go_num, rfl, rfl, HF.out, HO.out, HW.out⟩
          case measure => simp [intOf]; omega
    · have hk1 : k = 0 := by omega
      subst hk1
      go_wp2
      go_ret
      exact ⟨ao, n, cap, l, rfl, hl, HOK.out, o2, wn2⟩

/-- Entries that were drawn, right or not. -/
def DrawnA (w w' : World) (C : Nat) (a0 : Option Addr) (l0 c0 : Nat) (z0 : List Int) (e : Ending) : Prop :=
  ∃ (ao : Option Addr) (n cap : Nat) (l : List FE), e = .returned (.slice ao n cap) ∧ l.length = n ∧ n ≤ 100 ∧ (∀ x ∈ l, x.Rng) ∧ w'.ownsRow w.heap.size 30 5 (.slice ao n cap) n (fentF.all l) ∧ Went w w' C a0 l0 c0 z0

theorem rng_snoc {l : List FE} {e : FE} (h : ∀ x ∈ l, x.Rng) (he : e.Rng) : ∀ x ∈ l ++ [e], x.Rng := by
  intro x hx
  rcases List.mem_append.1 hx with hx | hx
  · exact h x hx
  · simp at hx
    subst hx
    exact he

set_option maxRecDepth 100000 in
set_option maxHeartbeats 4000000 in
theorem l8Any_any (C : Nat) (a0 : Option Addr) (l0 c0 : Nat) (z0 : List Int) (w : World) (hc : Cur w C a0 l0 c0 z0) :
    Calls Try.prog 52 #[.pointer (some ⟨C, 0, none⟩)] w fun e w' => DrawnA w w' C a0 l0 c0 z0 e := by
  have hlt := hc.lt
  go_enter Try.func52, Try.ntmps52
  go_wp2_with fail
  refine (l8Draw_any C a0 l0 c0 z0 _ hc).mono ?_
  rintro e w1 ⟨ao, n, cap, l, rfl, hl, hok, o1, wn1⟩
  have h12 := ok_len hok
  have HR := hide (ok_rng hok)
  clear hok
  go_wp2_with fail
  refine (below_any C a0 l0 c0 z0 12 _ wn1.cur (by omega)).mono ?_
  rintro e w2 ⟨x, rfl, hx0, -, -, wtx⟩
  have wn2 := wn1.trans wtx
  have o2 := gown_apart o1 wtx.grown (fun b hb => by cases hb; exact hlt)
  clear wtx wn1 o1
  by_cases e0 : x = 0
  · subst e0
    go_wp2_with fail
    refine (pick_any C a0 l0 c0 z0 [0, 1, 99, 100] _ _ w2 wn2.cur rfl rfl (by simp) (by simp)).mono ?_
    rintro e w3 ⟨pt, hpt, rfl, wtpt⟩
    have hpt : -1 ≤ pt ∧ pt ≤ 10000 := by simp at hpt; omega
    have wn3 := wn2.trans wtpt
    have o3 := gown_apart o2 wtpt.grown (fun b hb => by cases hb; exact hlt)
    clear wtpt wn2 o2
    go_wp2_with fail
    refine (pick_any C a0 l0 c0 z0 [0, 1, 9999] _ _ w3 wn3.cur rfl rfl (by simp) (by simp)).mono ?_
    rintro e w4 ⟨pm, hpm, rfl, wtpm⟩
    have hpm : -1 ≤ pm ∧ pm ≤ 10000 := by simp at hpm; omega
    have wn4 := wn3.trans wtpm
    have o4 := gown_apart o3 wtpm.grown (fun b hb => by cases hb; exact hlt)
    clear wtpm wn3 o3
    go_wp2_with fail
    refine (pick_any C a0 l0 c0 z0 [-1, 7, 8] _ _ w4 wn4.cur rfl rfl (by simp) (by simp)).mono ?_
    rintro e w5 ⟨pp, hpp, rfl, wtpp⟩
    have hpp : -1 ≤ pp ∧ pp ≤ 10000 := by simp at hpp; omega
    have wn5 := wn4.trans wtpp
    have o5 := gown_apart o4 wtpp.grown (fun b hb => by cases hb; exact hlt)
    clear wtpp wn4 o4
    go_wp2_with fail
    refine (pick_any C a0 l0 c0 z0 [-1, 4, 5] _ _ w5 wn5.cur rfl rfl (by simp) (by simp)).mono ?_
    rintro e w6 ⟨pa, hpa, rfl, wtpa⟩
    have hpa : -1 ≤ pa ∧ pa ≤ 10000 := by simp at hpa; omega
    have wn6 := wn5.trans wtpa
    have o6 := gown_apart o5 wtpa.grown (fun b hb => by cases hb; exact hlt)
    clear wtpa wn5 o5
    have b7 := below_one w6 (.cells #[.int .i64 pt, .int .i64 pm, .int .i64 pp, .int .i64 pa, .bool false] 30)
    have o7 := gown_below o6 b7
    have wn7 := wn6.made b7
    have HWN := hide wn7
    have hbase9 : w.heap.size ≤ (w6.alloc (.cells #[.int .i64 pt, .int .i64 pm, .int .i64 pp, .int .i64 pa, .bool false] 30)).heap.size := wn7.grown.size
    have HR2 := hide (rng_snoc HR.out (e := ⟨pt, pm, pp, pa, false⟩) ⟨by simp only; omega, by simp only; omega, by simp only; omega, by simp only; omega⟩)
    clear wn6 o6 b7 wn7
    go_wp2_with (at_builtin; refine fent_append _ rfl _ _ rfl w.heap.size _ n l rfl o7 _ 1 1 [⟨pt, pm, pp, pa, false⟩] rfl (grow_one fentF _ ⟨pt, pm, pp, pa, false⟩ _ _ rfl) (by omega) hbase9 ?_)
    intro ao9 cap9 w9 how9 hr9 hgr9 hb9
    have HO := hide how9
    have HW := hide (HWN.out.madeAt hb9 hlt (Nat.le_refl _))
    have hl9 : (l ++ [(⟨pt, pm, pp, pa, false⟩ : FE)]).length = n + 1 := by simp [hl]
    have HL := hide hl9
    clear how9 hr9 hgr9 hb9 o7 hl9
    go_wp2
    go_ret
    exact ⟨ao9, n + 1, cap9, _, rfl, HL.out, by omega, HR2.out, HO.out, HW.out⟩
  have t0 : (x == 0) = false := by simp [e0]
  by_cases e1 : x = 1
  · subst e1
    go_wp2
    go_loopw [3, 4] (fun o i wr => ∃ (k : Nat) (ao : Option Addr) (n cap : Nat) (l : List FE), k ≤ 13 ∧ i = .int .i64 k ∧ o = .slice ao n cap ∧ l.length = n ∧ n ≤ 12 + k ∧ (∀ x ∈ l, x.Rng) ∧ wr.ownsRow w.heap.size 30 5 (.slice ao n cap) n (fentF.all l) ∧ Went w wr C a0 l0 c0 z0) (fun _ i _ => 14 - (intOf i).toNat)
    case atStart => exact ⟨0, ao, n, cap, l, by omega, rfl, rfl, hl, by omega, HR.out, o2, wn2⟩
    case round =>
      clear o2 wn2 hl h12 HR
      obtain ⟨k, ao, n, cap, l, hk, rfl, rfl, hl, hn, hR, o3, wn3⟩ := hrel
      have HR := hide hR
      clear hR
      go_wp2_with fail
      refine (below_any C a0 l0 c0 z0 3 _ wn3.cur (by omega)).mono ?_
      rintro e w4 ⟨c, rfl, hc0, hc1, -, wtc⟩
      have hc1 := hc1 (by omega)
      have wn4 := wn3.trans wtc
      have o4 := gown_apart o3 wtc.grown (fun b hb => by cases hb; exact hlt)
      have hw1 : IntKind.i64.wrap (11 + c) = 11 + c := wrap_at _ (by omega)
      clear wtc wn3 o3
      by_cases hkc : (k : Int) < 11 + c
      · have hw2 : IntKind.i64.wrap (100 + (k : Int)) = 100 + (k : Int) := wrap_at _ (by omega)
        have b5 := below_one w4 (.cells #[.int .i64 50, .int .i64 (100 + (k : Int)), .int .i64 1, .int .i64 0, .bool false] 30)
        have o5 := gown_below o4 b5
        have wn5 := wn4.made b5
        have HWN := hide wn5
        have hbase9 : w.heap.size ≤ (w4.alloc (.cells #[.int .i64 50, .int .i64 (100 + (k : Int)), .int .i64 1, .int .i64 0, .bool false] 30)).heap.size := wn5.grown.size
        have HR2 := hide (rng_snoc HR.out (e := ⟨50, 100 + (k : Int), 1, 0, false⟩) ⟨by simp only; omega, by simp only; omega, by simp only; omega, by simp only; omega⟩)
        clear wn4 o4 b5 wn5
        go_wp2_with (at_builtin; refine fent_append _ rfl _ _ rfl w.heap.size _ n l rfl o5 _ 1 1 [⟨50, 100 + (k : Int), 1, 0, false⟩] rfl (grow_one fentF _ ⟨50, 100 + (k : Int), 1, 0, false⟩ _ _ rfl) (by omega) hbase9 ?_)
        intro ao9 cap9 w9 how9 hr9 hgr9 hb9
        have HO := hide how9
        have HW := hide (HWN.out.madeAt hb9 hlt (Nat.le_refl _))
        have hl9 : (l ++ [(⟨50, 100 + (k : Int), 1, 0, false⟩ : FE)]).length = n + 1 := by simp [hl]
        have HL := hide hl9
        clear how9 hr9 hgr9 hb9 o5 hl9
        go_wp2
        go_roundw
        case rel => exact ⟨k + 1, ao9, n + 1, cap9, _, by omega, by go_num, rfl, HL.out, by omega, HR2.out, HO.out, HW.out⟩
        case measure => simp [intOf]; omega
      · go_wp2
        go_ret
        exact ⟨ao, n, cap, l, rfl, hl, by omega, HR.out, o4, wn4⟩
  have t1 : (x == 1) = false := by simp [e1]
  go_wp2
  go_ret
  exact ⟨ao, n, cap, l, rfl, hl, by omega, HR.out, o2, wn2⟩

set_option maxRecDepth 100000 in
set_option maxHeartbeats 2000000 in
theorem drawFdb_any (a0 : Option Addr) (l0 c0 : Nat) (z0 : List Int) (w : World) (h0 : Row w a0 l0 c0 z0) (hs : l0 ≤ 1048576) :
    Calls Try.prog 10 #[.slice a0 l0 c0] w fun e w' => ∃ (ao : Option Addr) (n cap : Nat) (l : List FE) (t m p : Int), e = .returned (.tuple #[.slice ao n cap, .int .i64 t, .int .i64 m, .int .i64 p]) ∧ l.length = n ∧ fdbOk l = true ∧ w'.ownsRow w.heap.size 30 5 (.slice ao n cap) n (fentF.all l) ∧ (1 ≤ t ∧ t ≤ 3) ∧ (11 ≤ m ∧ m ≤ 14) ∧ (0 ≤ p ∧ p ≤ 3) ∧ Below w.heap.size w w' := by
  go_enter Try.func10, Try.ntmps10
  go_wp2_with fail
  refine (new_any a0 l0 c0 z0 _ h0 hs).mono ?_
  rintro e w1 ⟨rfl, cur1, hb1⟩
  have hlt := cur1.lt
  go_wp2_with fail
  refine (l8Draw_any _ a0 l0 c0 z0 _ cur1).mono ?_
  rintro e w2 ⟨ao, n, cap, l, rfl, hl, hok, o2, wn2⟩
  have HOK := hide hok
  clear hok
  go_wp2_with fail
  refine (below_any _ a0 l0 c0 z0 3 _ wn2.cur (by omega)).mono ?_
  rintro e w3 ⟨u, rfl, hu0, hu1, -, wtu⟩
  have hu1 := hu1 (by omega)
  have hwu : IntKind.i64.wrap (1 + u) = 1 + u := wrap_at _ (by omega)
  have wn3 := wn2.trans wtu
  have o3 := gown_apart o2 wtu.grown (fun b hb => by cases hb; exact hlt)
  clear wtu wn2 o2
  go_wp2_with fail
  refine (mac_any _ a0 l0 c0 z0 _ wn3.cur).mono ?_
  rintro e w4 ⟨v, rfl, hv0, hv1, wtv⟩
  have wn4 := wn3.trans wtv
  have o4 := gown_apart o3 wtv.grown (fun b hb => by cases hb; exact hlt)
  clear wtv wn3 o3
  go_wp2_with fail
  refine (below_any _ a0 l0 c0 z0 4 _ wn4.cur (by omega)).mono ?_
  rintro e w5 ⟨q, rfl, hq0, hq1, -, wtq⟩
  have hq1 := hq1 (by omega)
  have wn5 := wn4.trans wtq
  have o5 := gown_apart o4 wtq.grown (fun b hb => by cases hb; exact hlt)
  clear wtq wn4 o4
  have HO := hide (gown_lt o5 (base' := w.heap.size) hb1.size)
  have HB := hide (hb1.trans (below_of_grown wn5.grown (Nat.le_refl _) (Nat.le_of_lt hlt)))
  clear wn5 o5
  go_wp2
  exact bodyPost_ret (v := .tuple #[.slice ao n cap, .int .i64 (1 + u), .int .i64 v, .int .i64 q]) (by simp [results, Try.results10, go_sem, *]) rfl ⟨ao, n, cap, l, (1 + u), v, q, rfl, hl, HOK.out, HO.out, by omega, by omega, by omega, HB.out⟩

set_option maxRecDepth 100000 in
set_option maxHeartbeats 2000000 in
theorem drawLearn_any (a0 : Option Addr) (l0 c0 : Nat) (z0 : List Int) (w : World) (h0 : Row w a0 l0 c0 z0) (hs : l0 ≤ 1048576) :
    Calls Try.prog 22 #[.slice a0 l0 c0] w fun e w' => ∃ (ao : Option Addr) (n cap : Nat) (l : List FE) (t m p : Int), e = .returned (.tuple #[.slice ao n cap, .int .i64 t, .int .i64 m, .int .i64 p]) ∧ l.length = n ∧ n ≤ 100 ∧ (∀ x ∈ l, x.Rng) ∧ w'.ownsRow w.heap.size 30 5 (.slice ao n cap) n (fentF.all l) ∧ Below w.heap.size w w' := by
  go_enter Try.func22, Try.ntmps22
  go_wp2_with fail
  refine (new_any a0 l0 c0 z0 _ h0 hs).mono ?_
  rintro e w1 ⟨rfl, cur1, hb1⟩
  have hlt := cur1.lt
  go_wp2_with fail
  refine (l8Any_any _ a0 l0 c0 z0 _ cur1).mono ?_
  rintro e w2 ⟨ao, n, cap, l, rfl, hl, hn, hR, o2, wn2⟩
  have HR := hide hR
  clear hR
  go_wp2_with fail
  refine (pick_any _ a0 l0 c0 z0 [1, 2, 3, 0, 100] _ _ w2 wn2.cur rfl rfl (by simp) (by simp)).mono ?_
  rintro e w3 ⟨u, -, rfl, wtu⟩
  have wn3 := wn2.trans wtu
  have o3 := gown_apart o2 wtu.grown (fun b hb => by cases hb; exact hlt)
  clear wtu wn2 o2
  go_wp2_with fail
  refine (pick_any _ a0 l0 c0 z0 [11, 12, 15, 0, 10000] _ _ w3 wn3.cur rfl rfl (by simp) (by simp)).mono ?_
  rintro e w4 ⟨v, -, rfl, wtv⟩
  have wn4 := wn3.trans wtv
  have o4 := gown_apart o3 wtv.grown (fun b hb => by cases hb; exact hlt)
  clear wtv wn3 o3
  go_wp2_with fail
  refine (pick_any _ a0 l0 c0 z0 [0, 1, 7, 8, -1] _ _ w4 wn4.cur rfl rfl (by simp) (by simp)).mono ?_
  rintro e w5 ⟨q, -, rfl, wtq⟩
  have wn5 := wn4.trans wtq
  have o5 := gown_apart o4 wtq.grown (fun b hb => by cases hb; exact hlt)
  clear wtq wn4 o4
  have HO := hide (gown_lt o5 (base' := w.heap.size) hb1.size)
  have HB := hide (hb1.trans (below_of_grown wn5.grown (Nat.le_refl _) (Nat.le_of_lt hlt)))
  clear wn5 o5
  go_wp2
  exact bodyPost_ret (v := .tuple #[.slice ao n cap, .int .i64 u, .int .i64 v, .int .i64 q]) (by simp [results, Try.results22, go_sem, *]) rfl ⟨ao, n, cap, l, u, v, q, rfl, hl, hn, HR.out, HO.out, HB.out⟩

set_option maxRecDepth 100000 in
set_option maxHeartbeats 2000000 in
theorem drawLookUp_any (a0 : Option Addr) (l0 c0 : Nat) (z0 : List Int) (w : World) (h0 : Row w a0 l0 c0 z0) (hs : l0 ≤ 1048576) :
    Calls Try.prog 54 #[.slice a0 l0 c0] w fun e w' => ∃ (ao : Option Addr) (n cap : Nat) (l : List FE) (t m : Int), e = .returned (.tuple #[.slice ao n cap, .int .i64 t, .int .i64 m]) ∧ l.length = n ∧ n ≤ 100 ∧ (∀ x ∈ l, x.Rng) ∧ w'.ownsRow w.heap.size 30 5 (.slice ao n cap) n (fentF.all l) ∧ Below w.heap.size w w' := by
  go_enter Try.func54, Try.ntmps54
  go_wp2_with fail
  refine (new_any a0 l0 c0 z0 _ h0 hs).mono ?_
  rintro e w1 ⟨rfl, cur1, hb1⟩
  have hlt := cur1.lt
  go_wp2_with fail
  refine (l8Any_any _ a0 l0 c0 z0 _ cur1).mono ?_
  rintro e w2 ⟨ao, n, cap, l, rfl, hl, hn, hR, o2, wn2⟩
  have HR := hide hR
  clear hR
  go_wp2_with fail
  refine (below_any _ a0 l0 c0 z0 3 _ wn2.cur (by omega)).mono ?_
  rintro e w3 ⟨u, rfl, hu0, hu1, -, wtu⟩
  have hu1 := hu1 (by omega)
  have hwu : IntKind.i64.wrap (1 + u) = 1 + u := wrap_at _ (by omega)
  have wn3 := wn2.trans wtu
  have o3 := gown_apart o2 wtu.grown (fun b hb => by cases hb; exact hlt)
  clear wtu wn2 o2
  go_wp2_with fail
  refine (mac_any _ a0 l0 c0 z0 _ wn3.cur).mono ?_
  rintro e w4 ⟨v, rfl, hv0, hv1, wtv⟩
  have wn4 := wn3.trans wtv
  have o4 := gown_apart o3 wtv.grown (fun b hb => by cases hb; exact hlt)
  clear wtv wn3 o3
  have HO := hide (gown_lt o4 (base' := w.heap.size) hb1.size)
  have HB := hide (hb1.trans (below_of_grown wn4.grown (Nat.le_refl _) (Nat.le_of_lt hlt)))
  clear wn4 o4
  go_wp2
  exact bodyPost_ret (v := .tuple #[.slice ao n cap, .int .i64 (1 + u), .int .i64 v]) (by simp [results, Try.results54, go_sem, *]) rfl ⟨ao, n, cap, l, (1 + u), v, rfl, hl, hn, HR.out, HO.out, HB.out⟩

set_option maxRecDepth 100000 in
set_option maxHeartbeats 2000000 in
theorem drawNextEnt_any (a0 : Option Addr) (l0 c0 : Nat) (z0 : List Int) (w : World) (h0 : Row w a0 l0 c0 z0) (hs : l0 ≤ 1048576) :
    Calls Try.prog 26 #[.slice a0 l0 c0] w fun e w' => ∃ (ao : Option Addr) (n cap : Nat) (l : List FE) (t m : Int), e = .returned (.tuple #[.slice ao n cap, .int .i64 t, .int .i64 m]) ∧ l.length = n ∧ n ≤ 100 ∧ (∀ x ∈ l, x.Rng) ∧ w'.ownsRow w.heap.size 30 5 (.slice ao n cap) n (fentF.all l) ∧ Below w.heap.size w w' := by
  go_enter Try.func26, Try.ntmps26
  go_wp2_with fail
  refine (new_any a0 l0 c0 z0 _ h0 hs).mono ?_
  rintro e w1 ⟨rfl, cur1, hb1⟩
  have hlt := cur1.lt
  go_wp2_with fail
  refine (l8Any_any _ a0 l0 c0 z0 _ cur1).mono ?_
  rintro e w2 ⟨ao, n, cap, l, rfl, hl, hn, hR, o2, wn2⟩
  have HR := hide hR
  clear hR
  go_wp2_with fail
  refine (below_any _ a0 l0 c0 z0 5 _ wn2.cur (by omega)).mono ?_
  rintro e w3 ⟨u, rfl, hu0, hu1, -, wtu⟩
  have hu1 := hu1 (by omega)
  have wn3 := wn2.trans wtu
  have o3 := gown_apart o2 wtu.grown (fun b hb => by cases hb; exact hlt)
  clear wtu wn2 o2
  go_wp2_with fail
  refine (pick_any _ a0 l0 c0 z0 [0, 11, 12, 13, 99] _ _ w3 wn3.cur rfl rfl (by simp) (by simp)).mono ?_
  rintro e w4 ⟨v, -, rfl, wtv⟩
  have wn4 := wn3.trans wtv
  have o4 := gown_apart o3 wtv.grown (fun b hb => by cases hb; exact hlt)
  clear wtv wn3 o3
  have HO := hide (gown_lt o4 (base' := w.heap.size) hb1.size)
  have HB := hide (hb1.trans (below_of_grown wn4.grown (Nat.le_refl _) (Nat.le_of_lt hlt)))
  clear wn4 o4
  go_wp2
  exact bodyPost_ret (v := .tuple #[.slice ao n cap, .int .i64 u, .int .i64 v]) (by simp [results, Try.results26, go_sem, *]) rfl ⟨ao, n, cap, l, u, v, rfl, hl, hn, HR.out, HO.out, HB.out⟩

set_option maxRecDepth 100000 in
set_option maxHeartbeats 2000000 in
theorem drawFlushPort_any (a0 : Option Addr) (l0 c0 : Nat) (z0 : List Int) (w : World) (h0 : Row w a0 l0 c0 z0) (hs : l0 ≤ 1048576) :
    Calls Try.prog 27 #[.slice a0 l0 c0] w fun e w' => ∃ (ao : Option Addr) (n cap : Nat) (l : List FE) (p : Int), e = .returned (.tuple #[.slice ao n cap, .int .i64 p]) ∧ l.length = n ∧ n ≤ 100 ∧ (∀ x ∈ l, x.Rng) ∧ w'.ownsRow w.heap.size 30 5 (.slice ao n cap) n (fentF.all l) ∧ Below w.heap.size w w' := by
  go_enter Try.func27, Try.ntmps27
  go_wp2_with fail
  refine (new_any a0 l0 c0 z0 _ h0 hs).mono ?_
  rintro e w1 ⟨rfl, cur1, hb1⟩
  have hlt := cur1.lt
  go_wp2_with fail
  refine (l8Any_any _ a0 l0 c0 z0 _ cur1).mono ?_
  rintro e w2 ⟨ao, n, cap, l, rfl, hl, hn, hR, o2, wn2⟩
  have HR := hide hR
  clear hR
  go_wp2_with fail
  refine (pick_any _ a0 l0 c0 z0 [0, 1, 2, 3, -1] _ _ w2 wn2.cur rfl rfl (by simp) (by simp)).mono ?_
  rintro e w3 ⟨u, -, rfl, wtu⟩
  have wn3 := wn2.trans wtu
  have o3 := gown_apart o2 wtu.grown (fun b hb => by cases hb; exact hlt)
  clear wtu wn2 o2
  have HO := hide (gown_lt o3 (base' := w.heap.size) hb1.size)
  have HB := hide (hb1.trans (below_of_grown wn3.grown (Nat.le_refl _) (Nat.le_of_lt hlt)))
  clear wn3 o3
  go_wp2
  exact bodyPost_ret (v := .tuple #[.slice ao n cap, .int .i64 u]) (by simp [results, Try.results27, go_sem, *]) rfl ⟨ao, n, cap, l, u, rfl, hl, hn, HR.out, HO.out, HB.out⟩

set_option maxRecDepth 100000 in
set_option maxHeartbeats 1000000 in
theorem drawDropStatic_any (a0 : Option Addr) (l0 c0 : Nat) (z0 : List Int) (w : World) (h0 : Row w a0 l0 c0 z0) (hs : l0 ≤ 1048576) :
    Calls Try.prog 24 #[.slice a0 l0 c0] w fun e w' => ∃ (ao : Option Addr) (n cap : Nat) (l : List FE) (t m : Int), e = .returned (.tuple #[.slice ao n cap, .int .i64 t, .int .i64 m]) ∧ l.length = n ∧ n ≤ 100 ∧ (∀ x ∈ l, x.Rng) ∧ w'.ownsRow w.heap.size 30 5 (.slice ao n cap) n (fentF.all l) ∧ Below w.heap.size w w' := by
  go_enter Try.func24, Try.ntmps24
  go_wp2_with fail
  refine (drawLookUp_any a0 l0 c0 z0 _ h0 hs).mono ?_
  rintro e w1 ⟨ao, n, cap, l, t, m, rfl, hl, hn, hR, o1, hb1⟩
  have HR := hide hR
  have HO := hide o1
  have HB := hide hb1
  clear hR o1 hb1
  go_wp2
  exact bodyPost_ret (v := .tuple #[.slice ao n cap, .int .i64 t, .int .i64 m]) (by simp [results, Try.results24, go_sem, *]) rfl ⟨ao, n, cap, l, t, m, rfl, hl, hn, HR.out, HO.out, HB.out⟩

end Go.Proofs.Ytmcikcpkggonfaa
