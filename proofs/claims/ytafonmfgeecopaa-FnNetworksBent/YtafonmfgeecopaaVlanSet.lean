/-
  A port's own network set anew, the program's own.
-/
import Derived.Test.YtafonmfgeecopaaVlanCopy
namespace Go.Proofs.Ytafonmfgeecopaa
open Go.RowKit

theorem setPvid_is (v : VT) (port id : Int) : setPvid v port id = if (decide (0 ≤ port) && decide (port ≤ (v.own.length : Int) - 1)) then ifRight v ⟨v.rows, v.own.set port.toNat id⟩ else (v, false) := by
  unfold setPvid ifRight orV
  cases h1 : vtabOk v v.own.length <;> cases h2 : (decide (0 ≤ port) && decide (port ≤ (v.own.length : Int) - 1)) <;> simp

set_option maxRecDepth 100000 in
set_option maxHeartbeats 4000000 in
theorem implSetPvid_made (a : Option Addr) (n c : Nat) (o : Option Addr) (p q : Nat) (v : VT) (port id : Int) (w : World) (h : VTab w a n c o p q v) (hn : n ≤ 16777216) (hp : p ≤ 16777216) (hid : -9223372036854775808 ≤ id ∧ id ≤ 9223372036854775807) (hR : ∀ r ∈ v.rows, r.Rng) :
    Calls Try.prog 24 #[.agg #[.slice a n c, .slice o p q], .int .i64 port, .int .i64 id] w fun r w' => ∃ a' n' c' o' p' q', r = .returned (.tuple #[.agg #[.slice a' n' c', .slice o' p' q'], .bool (setPvid v port id).2]) ∧ VOwn w' w.heap.size a' n' c' o' p' q' (setPvid v port id).1 ∧ Below w.heap.size w w' := by
  rw [setPvid_is]
  generalize hw1 : w.alloc (Obj.cells #[Value.slice a n c, Value.slice o p q] 27) = w1
  generalize hw2 : w1.alloc (Obj.cells #[Value.slice none 0 0, Value.slice none 0 0] 27) = w2
  have b01 : Below w.heap.size w w1 := by subst hw1; exact below_one _ _
  have b12 : Below w1.heap.size w1 w2 := by subst hw2; exact below_one _ _
  have b02 := gr_trans b01 b12
  have k1 : w2.heap[w1.heap.size]? = some (.cells #[.slice none 0 0, .slice none 0 0] 27) := by rw [← hw2]; exact block_last _ _
  have z2 : w1.heap.size < w2.heap.size := by rw [← hw2]; simp
  have hb1 := box_two hw1 b12
  have h2 := h.below b02
  have hl := h.own.size
  have hsub : IntKind.i64.wrap ((p : Int) - 1) = (p : Int) - 1 := by rw [IntKind.wrap_i64]; omega
  have Z2 := hide z2
  clear z2
  rw [hl]
  have HL := hide hl
  clear hl
  cases hin : (decide (0 ≤ port) && decide (port ≤ (p : Int) - 1))
  · rw [if_neg Bool.false_ne_true]
    have HIN := hide hin
    clear hin
    go_enter Try.func24, Try.ntmps24
    go_wp2_with fail
    refine (implCopyV_made a n c o p q v _ h2 hn hp).mono ?_
    rintro r w4 ⟨a', c', o', q', rfl, hO, hb4⟩
    generalize hw5 : w4.alloc (Obj.cells #[Value.slice a' n c', Value.slice o' p q'] 27) = w5
    have b45 : Below w4.heap.size w4 w5 := by subst hw5; exact below_one _ _
    have b25 := gr_trans hb4 b45
    obtain ⟨⟨x0, x1⟩, -⟩ := cells2 (by rw [← hw5]; exact block_last w4 _ : w5.heap[w4.heap.size]? = some (.cells #[.slice a' n c', .slice o' p q'] 27))
    obtain ⟨y0, y1⟩ := box_two hw1 (gr_trans b12 b25)
    obtain ⟨⟨g0, g1⟩, f0, f1⟩ := cells2 (kept_block k1 b25)
    have HB := hide (below_set (below_set (gr_trans b02 b25) b01.size 0 (.slice a' n c')) b01.size 1 (.slice o' p q'))
    have HO := hide (((hO.below b45).set2 (g := w1.heap.size) Z2.out (.slice a' n c') (.slice o' p q')).lt (base' := w.heap.size) b02.size)
    clear hO hb1
    go_wp2_with fail
    refine (implIn9_any port 0 ((p : Int) - 1) _).mono ?_
    rintro r wy ⟨rfl, ey⟩
    obtain rfl := ey.symm
    rw [HIN.out]
    go_wp2
    exact bodyPost_ret (v := .tuple #[.agg #[.slice a' n c', .slice o' p q'], .bool false]) (by simp [results, Try.results24, go_sem, *]) rfl ⟨_, _, _, _, _, _, rfl, HO.out, HB.out⟩
  · rw [if_pos rfl]
    obtain ⟨k, rfl⟩ : ∃ k : Nat, port = (k : Int) := ⟨port.toNat, by simp at hin; omega⟩
    have hk : k < p := by simp at hin; omega
    rw [Int.toNat_natCast]
    have HIN := hide hin
    clear hin
    have i1 : (0 : Int) ≤ (k : Int) := by omega
    have i2 : (k : Int) < (p : Int) := by omega
    go_enter Try.func24, Try.ntmps24
    go_wp2_with fail
    refine (implCopyV_made a n c o p q v _ h2 hn hp).mono ?_
    rintro r w4 ⟨a', c', o', q', rfl, hO, hb4⟩
    obtain ⟨g, hg0, hg1, hg2⟩ := hO.addr (by omega)
    subst hg0
    generalize hw5 : w4.alloc (Obj.cells #[Value.slice a' n c', Value.slice (some ⟨g, 0, none⟩) p q'] 27) = w5
    have b45 : Below w4.heap.size w4 w5 := by subst hw5; exact below_one _ _
    have hO5 := hO.below b45
    obtain ⟨⟨⟨u, cu⟩, cf⟩, hO6⟩ := hO5.setOwn hk hid
    have b25 := gr_trans hb4 b45
    have hgw : w.heap.size ≤ g ∧ w1.heap.size < g := by have := b01.size; have := Z2.out; omega
    have b16 : Below w1.heap.size w1 (w5.setCell ⟨g, k, none⟩ (.int .i64 id)) := below_set (gr_trans b12 b25) (by omega) _ _
    have b06 : Below w.heap.size w (w5.setCell ⟨g, k, none⟩ (.int .i64 id)) := below_set (gr_trans b02 b25) hgw.1 _ _
    have b26 : Below w2.heap.size w2 (w5.setCell ⟨g, k, none⟩ (.int .i64 id)) := below_set b25 (by omega) _ _
    have k5 : w5.heap[w4.heap.size]? = some (.cells #[.slice a' n c', .slice (some ⟨g, 0, none⟩) p q'] 27) := by rw [← hw5]; exact block_last w4 _
    obtain ⟨⟨x0, x1⟩, -⟩ := cells2 k5
    obtain ⟨y0, y1⟩ := box_two hw1 (gr_trans b12 b25)
    have hc6 := cells2 (kept_set (b := g) (j := k) (u := .int .i64 id) k5 (by omega))
    have hd6 := box_two hw1 b16
    have k6 := kept_set (b := g) (j := k) (u := .int .i64 id) (kept_block k1 b25) (by omega)
    clear hb1
    go_wp2_with fail
    refine (implIn9_any (k : Int) 0 ((p : Int) - 1) _).mono ?_
    rintro r wy ⟨rfl, ey⟩
    obtain rfl := ey.symm
    rw [HIN.out]
    go_wp2_with fail
    generalize hw6 : w5.setCell ⟨g, k, none⟩ (.int .i64 id) = w6 at *
    refine (implIfRight_made w2.heap.size a n c o p q v a' n c' (some ⟨g, 0, none⟩) p q' _ _ (h.below b06) (hO6.lt (Nat.le_refl _)) b26.size hn hp hR hR).mono ?_
    rintro r w7 ⟨a7, n7, c7, o7, p7, q7, rfl, hO7, hb7⟩
    obtain ⟨⟨g0, g1⟩, f0, f1⟩ := cells2 (kept_block k6 hb7)
    have HB := hide (below_set (below_set (gr_trans b06 hb7) b01.size 0 (.slice a7 n7 c7)) b01.size 1 (.slice o7 p7 q7))
    have HO := hide ((hO7.set2 (g := w1.heap.size) Z2.out (.slice a7 n7 c7) (.slice o7 p7 q7)).lt (base' := w.heap.size) b02.size)
    clear hO7 hw5 hw6 hO hO5 hO6 x0 x1 y0 y1 hc6 hd6 cu
    go_wp2
    exact bodyPost_ret (v := .tuple #[.agg #[.slice a7 n7 c7, .slice o7 p7 q7], .bool (ifRight v ⟨v.rows, v.own.set k id⟩).2]) (by simp [results, Try.results24, go_sem, *]) rfl ⟨_, _, _, _, _, _, rfl, HO.out, HB.out⟩

end Go.Proofs.Ytafonmfgeecopaa
