/-
  A port's own network set anew, as the specification has it.
-/
import Derived.Test.YtafonmfgeecopaaVtabOr
namespace Go.Proofs.Ytafonmfgeecopaa
open Go.RowKit

/-- A table, if it is right for as many ports as the other one has; else the other one. -/
def orV (x v : VT) : VT × Bool := if vtabOk x v.own.length then (x, true) else (v, false)

def setPvid (v : VT) (port id : Int) : VT × Bool :=
  if vtabOk v v.own.length && (decide (0 ≤ port) && decide (port ≤ (v.own.length : Int) - 1)) then orV ⟨v.rows, v.own.set port.toNat id⟩ v else (v, false)

theorem VOwn.len {w : World} {base : Nat} {a : Option Addr} {n c : Nat} {o : Option Addr} {p q : Nat} {v : VT} (h : VOwn w base a n c o p q v) : v.rows.length = n ∧ v.own.length = p := ⟨h.tab.rows.size, h.tab.own.size⟩

theorem VOwn.addr {w : World} {base : Nat} {a : Option Addr} {n c : Nat} {o : Option Addr} {p q : Nat} {v : VT} (h : VOwn w base a n c o p q v) (hp : 0 < p) : ∃ g, o = some ⟨g, 0, none⟩ ∧ base ≤ g ∧ g < w.heap.size :=
  flat_addr (F := intF) (by rw [intF_all]; exact h.own) hp

/-- A port's own network is written. -/
theorem VOwn.setOwn {w : World} {base : Nat} {a : Option Addr} {n c g p q : Nat} {v : VT} (h : VOwn w base a n c (some ⟨g, 0, none⟩) p q v) {k : Nat} (hk : k < p) {id : Int} (hid : -9223372036854775808 ≤ id ∧ id ≤ 9223372036854775807) :
    ((∃ u, w.cell? ⟨g, k, none⟩ = some u) ∧ w.frozen? ⟨g, k, none⟩ = false) ∧ VOwn (w.setCell ⟨g, k, none⟩ (.int .i64 id)) base a n c (some ⟨g, 0, none⟩) p q ⟨v.rows, v.own.set k id⟩ := by
  have hl := h.len.2
  refine ⟨⟨?_, h.own.frozenAt k⟩, gown_type h.rows h.own (by decide) (grown_set (rb := g) k _), ?_, ?_⟩
  · rw [h.own.cellAt k (by omega)]
    exact ⟨_, List.getElem?_eq_getElem (by rw [cI_length]; omega)⟩
  · have := (h.own.stored k (.int .i64 id)).1
    rw [show (cI v.own).set k (.int .i64 id) = cI (v.own.set k id) by simp [cI, List.map_set]] at this
    exact this
  · intro z hz
    rcases List.mem_or_eq_of_mem_set hz with hz | rfl
    · exact h.i64 z hz
    · exact hid

theorem specOr_made (base : Nat) (a : Option Addr) (n c : Nat) (o : Option Addr) (p q : Nat) (x : VT) (a2 : Option Addr) (n2 c2 : Nat) (o2 : Option Addr) (p2 q2 : Nat) (v : VT) (w : World) (h : VOwn w base a n c o p q x) (h2 : VTab w a2 n2 c2 o2 p2 q2 v) (hn : n2 ≤ 16777216) (hp : p2 ≤ 16777216) (hbase : base ≤ w.heap.size) :
    Calls Try.prog 55 #[.agg #[.slice a n c, .slice o p q], .agg #[.slice a2 n2 c2, .slice o2 p2 q2]] w fun r w' => ∃ a' n' c' o' p' q', r = .returned (.tuple #[.agg #[.slice a' n' c', .slice o' p' q'], .bool (orV x v).2]) ∧ VOwn w' base a' n' c' o' p' q' (orV x v).1 ∧ Below w.heap.size w w' := by
  have hl := h2.own.size
  unfold orV
  rw [hl]
  cases hok : vtabOk x p2
  · refine (specOr_no a n c o p q x a2 n2 c2 o2 p2 q2 v w h.tab h2 hok hn hp).mono ?_
    rintro r w' ⟨a', c', o', q', rfl, hO, hb⟩
    exact ⟨a', n2, c', o', p2, q', rfl, hO.lt hbase, hb⟩
  · refine (specOr_yes a n c o p q x a2 n2 c2 o2 p2 q2 w h.tab hok).mono ?_
    rintro r w' ⟨rfl, hb⟩
    exact ⟨a, n, c, o, p, q, rfl, h.below hb, hb⟩

set_option maxRecDepth 100000 in
set_option maxHeartbeats 2000000 in
theorem specSetPvid_made (a : Option Addr) (n c : Nat) (o : Option Addr) (p q : Nat) (v : VT) (port id : Int) (w : World) (h : VTab w a n c o p q v) (hn : n ≤ 16777216) (hp : p ≤ 16777216) (hid : -9223372036854775808 ≤ id ∧ id ≤ 9223372036854775807) :
    Calls Try.prog 25 #[.agg #[.slice a n c, .slice o p q], .int .i64 port, .int .i64 id] w fun r w' => ∃ a' n' c' o' p' q', r = .returned (.tuple #[.agg #[.slice a' n' c', .slice o' p' q'], .bool (setPvid v port id).2]) ∧ VOwn w' w.heap.size a' n' c' o' p' q' (setPvid v port id).1 ∧ Below w.heap.size w w' := by
  generalize hw1 : w.alloc (Obj.cells #[Value.slice a n c, Value.slice o p q] 27) = w1
  generalize hw2 : w1.alloc (Obj.cells #[Value.slice none 0 0, Value.slice none 0 0] 27) = w2
  have b01 : Below w.heap.size w w1 := by subst hw1; exact below_one _ _
  have b12 : Below w1.heap.size w1 w2 := by subst hw2; exact below_one _ _
  have b02 := gr_trans b01 b12
  have k1 : w2.heap[w1.heap.size]? = some (.cells #[.slice none 0 0, .slice none 0 0] 27) := by rw [← hw2]; exact block_last _ _
  have z2 : w1.heap.size < w2.heap.size := by rw [← hw2]; simp
  have hb1 := box_two hw1 b12
  have h2 := h.below b02
  have hl := h.own.size
  have hsub : IntKind.i64.wrap ((p : Int) - 1) = (p : Int) - 1 := by rw [IntKind.wrap_i64]; omega
  have Z2 := hide z2
  clear z2
  unfold setPvid
  rw [hl]
  cases hok : vtabOk v p
  · rw [Bool.false_and, if_neg Bool.false_ne_true]
    go_enter Try.func25, Try.ntmps25
    go_wp2_with (refine (specVtabOk_any a n c o p q v (p : Int) _ h2).mono ?_; rintro r w3 ⟨rfl, hb3⟩; rw [hok]; have hc1 := box_two hw1 (gr_trans b12 hb3))
    go_wp2_with (refine (specCopyV_made a n c o p q v _ (h2.below hb3) hn hp).mono ?_; rintro r w4 ⟨a', c', o', q', rfl, hO, hb4⟩; obtain ⟨⟨g0, g1⟩, f0, f1⟩ := cells2 (kept_block k1 (gr_trans hb3 hb4)))
    have hbW : Below w.heap.size w ((w4.setCell ⟨w1.heap.size, 0, none⟩ (.slice a' n c')).setCell ⟨w1.heap.size, 1, none⟩ (.slice o' p q')) := below_set (below_set (gr_trans b02 (gr_trans hb3 hb4)) b01.size _ _) b01.size _ _
    have hO' := (hO.set2 (g := w1.heap.size) (by have := hb3.size; have := Z2.out; omega) (.slice a' n c') (.slice o' p q')).lt (base' := w.heap.size) (by have := hb3.size; have := b02.size; omega)
    have HO := hide hO'
    clear hO hO'
    exact bodyPost_ret (v := .tuple #[.agg #[.slice a' n c', .slice o' p q'], .bool false]) (by simp [results, Try.results25, go_sem, *]) rfl ⟨_, _, _, _, _, _, rfl, HO.out, hbW⟩
  · rw [Bool.true_and]
    cases hin : (decide (0 ≤ port) && decide (port ≤ (p : Int) - 1))
    · rw [if_neg Bool.false_ne_true]
      have HIN := hide hin
      clear hin
      go_enter Try.func25, Try.ntmps25
      go_wp2_with (refine (specVtabOk_any a n c o p q v (p : Int) _ h2).mono ?_; rintro r w3 ⟨rfl, hb3⟩; rw [hok]; have hc1 := box_two hw1 (gr_trans b12 hb3))
      go_wp2_with (refine (within_any port 0 ((p : Int) - 1) _).mono ?_; rintro r wy ⟨rfl, rfl⟩; rw [HIN.out])
      go_wp2_with (refine (specCopyV_made a n c o p q v _ (h2.below hb3) hn hp).mono ?_; rintro r w4 ⟨a', c', o', q', rfl, hO, hb4⟩; obtain ⟨⟨g0, g1⟩, f0, f1⟩ := cells2 (kept_block k1 (gr_trans hb3 hb4)))
      have hbW : Below w.heap.size w ((w4.setCell ⟨w1.heap.size, 0, none⟩ (.slice a' n c')).setCell ⟨w1.heap.size, 1, none⟩ (.slice o' p q')) := below_set (below_set (gr_trans b02 (gr_trans hb3 hb4)) b01.size _ _) b01.size _ _
      have hO' := (hO.set2 (g := w1.heap.size) (by have := hb3.size; have := Z2.out; omega) (.slice a' n c') (.slice o' p q')).lt (base' := w.heap.size) (by have := hb3.size; have := b02.size; omega)
      have HO := hide hO'
      clear hO hO'
      exact bodyPost_ret (v := .tuple #[.agg #[.slice a' n c', .slice o' p q'], .bool false]) (by simp [results, Try.results25, go_sem, *]) rfl ⟨_, _, _, _, _, _, rfl, HO.out, hbW⟩
    · rw [if_pos rfl]
      obtain ⟨k, rfl⟩ : ∃ k : Nat, port = (k : Int) := ⟨port.toNat, by simp at hin; omega⟩
      have hk : k < p := by simp at hin; omega
      rw [Int.toNat_natCast]
      have HIN := hide hin
      clear hin
      have i1 : (0 : Int) ≤ (k : Int) := by omega
      have i2 : (k : Int) < (p : Int) := by omega
      go_enter Try.func25, Try.ntmps25
      go_wp2_with (refine (specVtabOk_any a n c o p q v (p : Int) _ h2).mono ?_; rintro r w3 ⟨rfl, hb3⟩; rw [hok]; have hc1 := box_two hw1 (gr_trans b12 hb3))
      go_wp2_with (refine (within_any (k : Int) 0 ((p : Int) - 1) _).mono ?_; rintro r wy ⟨rfl, rfl⟩; rw [HIN.out])
      go_wp2_with fail
      refine (specCopyV_made a n c o p q v _ (h2.below hb3) hn hp).mono ?_
      rintro r w4 ⟨a', c', o', q', rfl, hO, hb4⟩
      obtain ⟨g, hg0, hg1, hg2⟩ := hO.addr (by omega)
      subst hg0
      generalize hw5 : w4.alloc (Obj.cells #[Value.slice a' n c', Value.slice (some ⟨g, 0, none⟩) p q'] 27) = w5
      have b45 : Below w4.heap.size w4 w5 := by subst hw5; exact below_one _ _
      have hO5 := hO.below b45
      obtain ⟨⟨⟨u, cu⟩, cf⟩, hO6⟩ := hO5.setOwn hk hid
      have b25 := gr_trans hb3 (gr_trans hb4 b45)
      have hgw : w.heap.size ≤ g ∧ w1.heap.size < g := by have := hb3.size; have := b01.size; have := Z2.out; omega
      have b16 : Below w1.heap.size w1 (w5.setCell ⟨g, k, none⟩ (.int .i64 id)) := below_set (gr_trans b12 b25) (by omega) _ _
      have b06 : Below w.heap.size w (w5.setCell ⟨g, k, none⟩ (.int .i64 id)) := below_set (gr_trans b02 b25) hgw.1 _ _
      have b26 : Below w2.heap.size w2 (w5.setCell ⟨g, k, none⟩ (.int .i64 id)) := below_set b25 (by have := hb3.size; omega) _ _
      have hc5 := cells2 (by rw [← hw5]; exact block_last w4 _ : w5.heap[w4.heap.size]? = some (.cells #[.slice a' n c', .slice (some ⟨g, 0, none⟩) p q'] 27))
      have hc6 := cells2 (kept_set (b := g) (j := k) (u := .int .i64 id) (by rw [← hw5]; exact block_last w4 _ : w5.heap[w4.heap.size]? = some (.cells #[.slice a' n c', .slice (some ⟨g, 0, none⟩) p q'] 27)) (by omega))
      have hd6 := box_two hw1 b16
      have k6 := kept_set (b := g) (j := k) (u := .int .i64 id) (kept_block k1 b25) (by omega)
      have z6 : w1.heap.size < w5.heap.size := by have := b25.size; have := Z2.out; omega
      generalize hw6 : w5.setCell ⟨g, k, none⟩ (.int .i64 id) = w6 at *
      have HO6 := hide hO6
      clear hO hO5 hO6
      go_wp2_with fail
      refine (specOr_made w2.heap.size a' n c' (some ⟨g, 0, none⟩) p q' _ a n c o p q v _ (HO6.out.lt hb3.size) (h.below b06) hn hp b26.size).mono ?_
      rintro r w7 ⟨a7, n7, c7, o7, p7, q7, rfl, hO7, hb7⟩
      obtain ⟨⟨g0, g1⟩, f0, f1⟩ := cells2 (kept_block k6 hb7)
      have hbW : Below w.heap.size w ((w7.setCell ⟨w1.heap.size, 0, none⟩ (.slice a7 n7 c7)).setCell ⟨w1.heap.size, 1, none⟩ (.slice o7 p7 q7)) := below_set (below_set (gr_trans b06 hb7) b01.size _ _) b01.size _ _
      have hO' := (hO7.set2 (g := w1.heap.size) Z2.out (.slice a7 n7 c7) (.slice o7 p7 q7)).lt (base' := w.heap.size) b02.size
      have HO := hide hO'
      clear hO7 hO' hw5 hw6
      go_wp2
      exact bodyPost_ret (v := .tuple #[.agg #[.slice a7 n7 c7, .slice o7 p7 q7], .bool (orV ⟨v.rows, v.own.set k id⟩ v).2]) (by simp [results, Try.results25, go_sem, *]) rfl ⟨_, _, _, _, _, _, rfl, HO.out, hbW⟩

end Go.Proofs.Ytafonmfgeecopaa
