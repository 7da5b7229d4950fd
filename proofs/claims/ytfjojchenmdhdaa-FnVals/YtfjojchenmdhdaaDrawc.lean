/-
  Bytes that are bent, and the four draws of the first chapter, each by what may come.
-/
import Derived.Test.YtfjojchenmdhdaaDrawb
import Derived.Test.YtfjojchenmdhdaaTlv
namespace Go.Proofs.Ytfjojchenmdhdaa
open Go.RowKit

/-- What is left where the bytes that were handed in may be written, too. -/
structure Left2 (w w' : World) (C base : Nat) (a0 : Option Addr) (l0 c0 : Nat) (z0 : List Int) : Prop where
  cur : Cur w' C a0 l0 c0 z0
  low : Below C w w'
  size : w.heap.size ≤ w'.heap.size

theorem own_take {w : World} {base : Nat} {ao : Option Addr} {n cap : Nat} {zs : List Int} (h : w.ownsRow base 5 1 (.slice ao n cap) n (cB zs)) (k : Nat) (hk : k ≤ n) : w.ownsRow base 5 1 (.slice ao k cap) k (cB (zs.take k)) := by
  have hl : zs.length = n := by have := h.1; simpa [cB] using this
  refine ⟨by simp [cB]; omega, ?_⟩
  rcases h.2 with ⟨e, h0⟩ | ⟨g, cap', cur, e, hg, hh, h1, h2, h3, h4⟩
  · cases e
    exact .inl ⟨by simp; omega, by omega⟩
  · cases e
    refine .inr ⟨g, cap, cur, rfl, hg, hh, by omega, h2, h3, ?_⟩
    have e2 : cB (zs.take k) = (cB zs).take k := by simp [cB]
    rw [e2, ← h4, List.take_take]
    congr 1
    omega

theorem byte_set {zs : List Int} (h : Byt zs) (j : Nat) {x : Int} (hx : 0 ≤ x ∧ x ≤ 255) : Byt (zs.set j x) := by
  intro z hz
  rcases List.mem_or_eq_of_mem_set hz with hm | rfl
  · exact h z hm
  · exact hx

theorem byte_take {zs : List Int} (h : Byt zs) (k : Nat) : Byt (zs.take k) := fun z hz => h z (List.mem_of_mem_take hz)

set_option maxRecDepth 100000 in
set_option maxHeartbeats 800000 in
theorem bend_any (C : Nat) (a0 : Option Addr) (l0 c0 : Nat) (z0 : List Int) (base : Nat) (ao : Option Addr) (n cap : Nat) (zs : List Int) (w : World) (hc : Cur w C a0 l0 c0 z0) (hCb : C < base) (hbw : base ≤ w.heap.size) (how : w.ownsRow base 5 1 (.slice ao n cap) n (cB zs)) (hby : Byt zs) (hn : n ≤ 2000) :
    Calls Try.prog 37 #[.pointer (some ⟨C, 0, none⟩), .slice ao n cap] w fun e w' => ∃ ao' n' cap' zs', e = .returned (.slice ao' n' cap') ∧ n' ≤ 2001 ∧ Byt zs' ∧ zs'.length = n' ∧ w'.ownsRow base 5 1 (.slice ao' n' cap') n' (cB zs') ∧ Cur w' C a0 l0 c0 z0 ∧ Below C w w' := by
  have hz : zs.length = n := by have := how.1; simpa [cB] using this
  by_cases h0 : n = 0
  · subst h0
    go_enter Try.func37, Try.ntmps37
    go_wp2
    go_ret
    exact ⟨ao, 0, cap, zs, rfl, by omega, hby, hz, how, hc, Below.refl _ _⟩
  have hne : ((n : Int) == 0) = false := by simp; omega
  obtain ⟨g, rfl, hgb, hcap⟩ : ∃ g, ao = some ⟨g, 0, none⟩ ∧ base ≤ g ∧ n ≤ cap := by
    rcases how.2 with ⟨e, h⟩ | ⟨g, cap', cur, e, hg, hh, h1, h2⟩
    · exact absurd h h0
    · cases e; exact ⟨g, rfl, hg, h1⟩
  go_enter Try.func37, Try.ntmps37
  go_wp2_with fail
  refine (below_any C a0 l0 c0 z0 5 _ hc (by omega)).mono ?_
  rintro e w1 ⟨d, rfl, hd0, hd1, -, went1⟩
  have hd1 := hd1 (by omega)
  have how1 := went1.own how hCb
  have low1 : Below C w w1 := below_of_grown went1.grown (Nat.le_refl _) (Nat.le_of_lt hc.lt)
  have hs1 := went1.grown.size
  clear how
  have hd : d = 0 ∨ d = 1 ∨ d = 2 ∨ (d = 3 ∨ d = 4) := by omega
  clear hd0 hd1
  rcases hd with rfl | rfl | rfl | hd
  · go_wp2_with fail
    refine (below_any C a0 l0 c0 z0 _ _ went1.cur (by omega)).mono ?_
    rintro e w2 ⟨x, rfl, hx0, hx1, -, went2⟩
    have hx1 := hx1 (by omega)
    obtain ⟨j, rfl⟩ : ∃ j : Nat, x = j := ⟨x.toNat, by omega⟩
    go_wp2_with fail
    refine (pick_any C a0 l0 c0 z0 [0, 1, 2, 4, 5, 6, 48, 127, 128, 129, 160, 255] _ _ w2 went2.cur rfl rfl (by simp) (by simp)).mono ?_
    rintro e w3 ⟨x, hx, rfl, went3⟩
    have hx' : 0 ≤ x ∧ x ≤ 255 := by simp at hx; omega
    clear hx
    have wn := went2.trans went3
    have how3 := wn.own how1 hCb
    have low3 : Below C w w3 := low1.trans (below_of_grown wn.grown (Nat.le_refl _) (Nat.le_of_lt went1.cur.lt))
    have cf := how3.frozenAt j
    have cc : w3.cell? ⟨g, j, none⟩ = some (.int .u8 (zs.getD j 0)) := by rw [how3.cellAt j (by omega)]; exact cB_get zs j (by omega)
    have R := (how3.stored j (.int .u8 x)).1
    have hst : Below base w3 (w3.setCell ⟨g, j, none⟩ (.int .u8 x)) := (Below.refl _ _).setCell hgb _
    have cur3 := went3.cur
    clear how1 how3 went2 went3 wn
    go_wp2
    go_ret
    exact ⟨_, n, cap, zs.set j x, rfl, by omega, byte_set hby j hx', by simp; exact hz, by simpa [cB, List.map_set] using R, cur3.belowAt hst hCb, low3.trans (hst.mono (Nat.le_of_lt hCb))⟩
  · go_wp2_with (at_builtin; refine wpList_append_row _ rfl _ _ 22 rfl base Try.underlying22 Try.infoU8 _ n zs rfl (own_below how1 ((Below.refl _ _).alloc (Nat.le_refl _) _)) hby _ 1 1 [3] rfl (row_one w1 3 (by omega)) (by omega) (by simp; omega) ?_)
    intro ao2 cp2 w2 how2 row2 hb2
    have hba : Below w1.heap.size w1 (w1.alloc (.cells #[.int .u8 3] 5)) := (Below.refl _ _).alloc (Nat.le_refl _) _
    have cur2 := (went1.cur.below hba).belowAt hb2 hCb
    have low2 : Below C w w2 := (low1.trans (hba.mono (Nat.le_of_lt went1.cur.lt))).trans (hb2.mono (Nat.le_of_lt hCb))
    have hz2 := row2.size
    have hby2 := row2.byte
    clear how1 hb2 hba row2
    go_wp2
    go_ret
    exact ⟨ao2, n + 1, cp2, _, rfl, by omega, hby2, hz2, how2, cur2, low2⟩
  · go_wp2_with fail
    refine (below_any C a0 l0 c0 z0 _ _ went1.cur (by omega)).mono ?_
    rintro e w2 ⟨x, rfl, hx0, hx1, -, went2⟩
    have hx1 := hx1 (by omega)
    obtain ⟨j, rfl⟩ : ∃ j : Nat, x = j := ⟨x.toNat, by omega⟩
    have how2 := went2.own how1 hCb
    have low2 : Below C w w2 := low1.trans (below_of_grown went2.grown (Nat.le_refl _) (Nat.le_of_lt went1.cur.lt))
    have hjc : (j : Int) ≤ cap := by omega
    have hc0 : ¬ cap = 0 := by omega
    go_wp2
    go_ret
    exact ⟨_, j, cap, zs.take j, rfl, by omega, byte_take hby j, by simp; omega, own_take how2 j (by omega), went2.cur, low2⟩
  · have e0 : (d == 0) = false := by simp; omega
    have e1 : (d == 1) = false := by simp; omega
    have e2 : (d == 2) = false := by simp; omega
    clear hd
    go_wp2
    go_ret
    exact ⟨_, n, cap, zs, rfl, by omega, hby, hz, how1, went1.cur, low1⟩

end Go.Proofs.Ytfjojchenmdhdaa
