/-
  A row dropped, as the specification has it: the whole.
-/
import Derived.Test.YtafonmfgeecopaaVtabDrop
namespace Go.Proofs.Ytafonmfgeecopaa
open Go.RowKit

set_option maxRecDepth 100000 in
set_option maxHeartbeats 4000000 in
theorem specDropRow_no (a : Option Addr) (n c : Nat) (o : Option Addr) (p q : Nat) (v : VT) (id : Int) (w : World) (h : VTab w a n c o p q v) (hn : n ≤ 16777216) (hp : p ≤ 16777216) (hno : vtabOk v p = false ∨ rowIdx v.rows id = none) :
    Calls Try.prog 22 #[.agg #[.slice a n c, .slice o p q], .int .i64 id] w fun e w' => ∃ a' c' o' q', e = .returned (.tuple #[.agg #[.slice a' n c', .slice o' p q'], .bool false]) ∧ VOwn w' w.heap.size a' n c' o' p q' v ∧ Below w.heap.size w w' := by
  generalize hw1 : w.alloc (Obj.cells #[Value.slice a n c, Value.slice o p q] 27) = w1
  generalize hw2 : w1.alloc (Obj.cells #[Value.slice none 0 0, Value.slice none 0 0] 27) = w2
  have b01 : Below w.heap.size w w1 := by subst hw1; exact below_one _ _
  have b12 : Below w1.heap.size w1 w2 := by subst hw2; exact below_one _ _
  have b02 := gr_trans b01 b12
  have k1 : w2.heap[w1.heap.size]? = some (.cells #[.slice none 0 0, .slice none 0 0] 27) := by rw [← hw2]; exact block_last _ _
  have z2 : Hid (w1.heap.size < w2.heap.size) := hide (by rw [← hw2]; simp)
  have hc2 := box_two hw1 b12
  have h2 := h.below b02
  cases hok : vtabOk v p
  · generalize hat : rowAt v.rows id = k
    have HA := hide hat
    clear hat
    go_enter Try.func22, Try.ntmps22
    go_wp2_with (refine (specRowAt_any a n c v.rows o p q id _ h2.rows).mono ?_; rintro e w3 ⟨rfl, hb3⟩; rw [HA.out]; have hc3 := box_two hw1 (gr_trans b12 hb3))
    go_wp2_with (refine (specVtabOk_any a n c o p q v (p : Int) _ (h2.below hb3)).mono ?_; rintro e w4 ⟨rfl, hb4⟩; rw [hok]; have hc4 := box_two hw1 (gr_trans b12 (gr_trans hb3 hb4)))
    go_wp2_with fail
    refine (specCopyV_made a n c o p q v _ (h2.below (gr_trans hb3 hb4)) hn hp).mono ?_
    rintro e w5 ⟨a', c', o', q', rfl, hO, hb5⟩
    have b25 := gr_trans hb3 (gr_trans hb4 hb5)
    obtain ⟨⟨g0, g1⟩, f0, f1⟩ := cells2 (kept_block k1 b25)
    have HB := hide (below_set (below_set (gr_trans b02 b25) b01.size 0 (.slice a' n c')) b01.size 1 (.slice o' p q'))
    have HO := hide ((hO.set2 (g := w1.heap.size) (Nat.lt_of_lt_of_le z2.out (gr_trans hb3 hb4).size) (.slice a' n c') (.slice o' p q')).lt (base' := w.heap.size) (Nat.le_trans b02.size (gr_trans hb3 hb4).size))
    clear hO
    go_wp2
    exact bodyPost_ret (v := .tuple #[.agg #[.slice a' n c', .slice o' p q'], .bool false]) (by simp [results, Try.results22, go_sem, *]) rfl ⟨_, _, _, _, rfl, HO.out, HB.out⟩
  · have hr : rowIdx v.rows id = none := by
      rcases hno with h | h
      · rw [hok] at h; cases h
      · exact h
    have HA : Hid (rowAt v.rows id = -1) := hide (by unfold rowAt; rw [hr])
    clear hr hno
    go_enter Try.func22, Try.ntmps22
    go_wp2_with (refine (specRowAt_any a n c v.rows o p q id _ h2.rows).mono ?_; rintro e w3 ⟨rfl, hb3⟩; rw [HA.out]; have hc3 := box_two hw1 (gr_trans b12 hb3))
    go_wp2_with (refine (specVtabOk_any a n c o p q v (p : Int) _ (h2.below hb3)).mono ?_; rintro e w4 ⟨rfl, hb4⟩; rw [hok]; have hc4 := box_two hw1 (gr_trans b12 (gr_trans hb3 hb4)))
    go_wp2_with fail
    refine (specCopyV_made a n c o p q v _ (h2.below (gr_trans hb3 hb4)) hn hp).mono ?_
    rintro e w5 ⟨a', c', o', q', rfl, hO, hb5⟩
    have b25 := gr_trans hb3 (gr_trans hb4 hb5)
    obtain ⟨⟨g0, g1⟩, f0, f1⟩ := cells2 (kept_block k1 b25)
    have HB := hide (below_set (below_set (gr_trans b02 b25) b01.size 0 (.slice a' n c')) b01.size 1 (.slice o' p q'))
    have HO := hide ((hO.set2 (g := w1.heap.size) (Nat.lt_of_lt_of_le z2.out (gr_trans hb3 hb4).size) (.slice a' n c') (.slice o' p q')).lt (base' := w.heap.size) (Nat.le_trans b02.size (gr_trans hb3 hb4).size))
    clear hO
    go_wp2
    exact bodyPost_ret (v := .tuple #[.agg #[.slice a' n c', .slice o' p q'], .bool false]) (by simp [results, Try.results22, go_sem, *]) rfl ⟨_, _, _, _, rfl, HO.out, HB.out⟩

theorem specDropRow_made (a : Option Addr) (n c : Nat) (o : Option Addr) (p q : Nat) (v : VT) (id : Int) (w : World) (h : VTab w a n c o p q v) (hn : n ≤ 16777216) (hp : p ≤ 16777216) :
    Calls Try.prog 22 #[.agg #[.slice a n c, .slice o p q], .int .i64 id] w fun e w' => ∃ a' n' c' o' p' q', e = .returned (.tuple #[.agg #[.slice a' n' c', .slice o' p' q'], .bool (dropRow v id).2]) ∧ VOwn w' w.heap.size a' n' c' o' p' q' (dropRow v id).1 ∧ Below w.heap.size w w' := by
  have hl := h.own.size
  by_cases hno : vtabOk v p = false ∨ rowIdx v.rows id = none
  · have hd : dropRow v id = (v, false) := by
      unfold dropRow
      rw [hl]
      rcases hno with h | h
      · rw [h]
        cases rowIdx v.rows id <;> rfl
      · rw [h]
    rw [hd]
    refine (specDropRow_no a n c o p q v id w h hn hp hno).mono ?_
    rintro e w' ⟨a', c', o', q', rfl, hO, hb⟩
    exact ⟨a', n, c', o', p, q', rfl, hO, hb⟩
  · have hok : vtabOk v p = true := by
      cases h1 : vtabOk v p
      · exact absurd (Or.inl h1) hno
      · rfl
    cases hr : rowIdx v.rows id with
    | none => exact absurd (Or.inr hr) hno
    | some k =>
      have hd : dropRow v id = orV ⟨v.rows.take k ++ v.rows.drop (k + 1), v.own⟩ v := by
        unfold dropRow
        rw [hl, hr, hok]
        rfl
      rw [hd]
      have hkn : k < n := by
        have := (List.findIdx?_eq_some_iff_getElem.1 hr).1
        have := h.rows.size
        omega
      obtain ⟨x, b, off, -, rfl, -⟩ := vrow_at h.rows k hkn
      exact specDropRow_yes b off n c o p q v id k w h hn hp hr hok

end Go.Proofs.Ytafonmfgeecopaa
