/-
  The four draws of the first chapter, each by what may come.
-/
import Derived.Test.YtjpfoofijjgpcaaDrawc
namespace Go.Proofs.Ytjpfoofijjgpcaa
open Go.RowKit

set_option maxRecDepth 100000 in
set_option maxHeartbeats 400000 in
theorem drawPutTlv_any (a0 : Option Addr) (l0 c0 : Nat) (z0 : List Int) (w : World) (h0 : Row w a0 l0 c0 z0) (hs : l0 ≤ 1048576) :
    Calls Try.prog 10 #[.slice a0 l0 c0] w fun e w' => ∃ ao1 n1 cp1 zs1 tag ao2 n2 cp2 zs2, e = .returned (.tuple #[.slice ao1 n1 cp1, .int .i64 tag, .slice ao2 n2 cp2]) ∧ n1 ≤ 9 ∧ n2 ≤ 251 ∧ Row w' ao1 n1 cp1 zs1 ∧ Row w' ao2 n2 cp2 zs2 ∧ Below w.heap.size w w' := by
  go_enter Try.func10, Try.ntmps10
  go_wp2_with fail
  refine (new_any a0 l0 c0 z0 _ h0 hs).mono ?_
  rintro e w1 ⟨rfl, cur1, hb1⟩
  have hlt := cur1.lt
  go_wp2_with fail
  refine (some_any _ a0 l0 c0 z0 _ cur1).mono ?_
  rintro e w2 ⟨ao1, n1, cp1, zs1, rfl, hn1, hby1, hz1, how1, went2⟩
  go_wp2_with fail
  refine (pick_any _ a0 l0 c0 z0 [2, 4, 48, 255, 0, -1, 256] _ _ w2 went2.cur rfl rfl (by simp) (by simp)).mono ?_
  rintro e w3 ⟨tag, -, rfl, went3⟩
  go_wp2_with fail
  refine (body_any _ a0 l0 c0 z0 _ went3.cur).mono ?_
  rintro e w4 ⟨ao2, n2, cp2, zs2, rfl, hn2, hby2, hz2, how2, went4⟩
  have how1 := (went3.trans went4).own how1 hlt
  have hb : Below w.heap.size w w4 := hb1.trans (below_of_grown ((went2.trans went3).trans went4).grown (Nat.le_refl _) (Nat.le_of_lt hlt))
  go_wp2
  go_ret3
  exact ⟨ao1, n1, cp1, zs1, tag, ao2, n2, cp2, zs2, rfl, hn1, hn2, row_own how1 hby1, row_own how2 hby2, hb⟩

set_option maxRecDepth 100000 in
set_option maxHeartbeats 400000 in
theorem drawGetTlv_any (a0 : Option Addr) (l0 c0 : Nat) (z0 : List Int) (w : World) (h0 : Row w a0 l0 c0 z0) (hs : l0 ≤ 1048576) :
    Calls Try.prog 14 #[.slice a0 l0 c0] w fun e w' => ∃ ao1 n1 cp1 zs1 t, e = .returned (.tuple #[.slice ao1 n1 cp1, .int .i64 t]) ∧ n1 ≤ 2001 ∧ -9223372036854775808 ≤ t ∧ t ≤ 9223372036854775807 ∧ Row w' ao1 n1 cp1 zs1 ∧ Below w.heap.size w w' := by
  go_enter Try.func14, Try.ntmps14
  go_wp2_with fail
  refine (new_any a0 l0 c0 z0 _ h0 hs).mono ?_
  rintro e w1 ⟨rfl, cur1, hb1⟩
  have hlt := cur1.lt
  have hba : Below w1.heap.size w1 (w1.alloc (.cells #[] 5)) := (Below.refl _ _).alloc (Nat.le_refl _) _
  have re : Row (w1.alloc (.cells #[] 5)) (some ⟨w1.heap.size, 0, none⟩) 0 0 [] := row_lit w1 _ [] 0 rfl rfl (by omega) byte_nil
  go_wp2_with fail
  refine (pick_any _ a0 l0 c0 z0 [2, 4, 48] _ _ (w1.alloc (.cells #[] 5)) (cur1.below hba) (by simp) rfl (by simp) (by simp)).mono ?_
  rintro e w2 ⟨tag, -, rfl, went2⟩
  go_wp2_with fail
  refine (body_any _ a0 l0 c0 z0 _ went2.cur).mono ?_
  rintro e w3 ⟨ao2, n2, cp2, zs2, rfl, hn2, hby2, hz2, how2, went3⟩
  have wn := (Went.start cur1 hba).trans (went2.trans went3)
  have hs3 := wn.grown.size
  have g23 := (went2.trans went3).grown
  have re3 : Row w3 (some ⟨w1.heap.size, 0, none⟩) 0 0 [] := ⟨rfl, Nat.le_refl _, Nat.zero_le _, (by intro h; cases h), byte_nil, .inl rfl⟩
  go_wp2_with fail
  refine (specTlv_any _ _ _ [] tag _ _ _ zs2 _ re3 (row_own how2 hby2) (by omega)).mono ?_
  rintro e w4 ⟨ao4, n4, cp4, rfl, how4, hb4⟩
  have hlen : n4 ≤ 2000 := by
    have h1 := how4.1
    rw [cB_length] at h1
    have := putTlv_length [] tag zs2
    simp at this
    omega
  have cur4 := wn.cur.below hb4
  have low4 : Below w.heap.size w w4 := (hb1.trans (below_of_grown wn.grown (Nat.le_refl _) (Nat.le_of_lt hlt))).trans (hb4.mono (by omega))
  go_wp2_with fail
  refine (bend_any _ a0 l0 c0 z0 w3.heap.size _ _ _ _ _ cur4 (by omega) hb4.size how4 (putTlv_byte _ _ _ byte_nil hby2) hlen).mono ?_
  rintro e w5 ⟨ao5, n5, cp5, zs5, rfl, hn5, hby5, hz5, how5, cur5, low5⟩
  go_wp2_with fail
  refine (at_any _ a0 l0 c0 z0 _ _ _ _ cur5 (by omega)).mono ?_
  rintro e w6 ⟨t, rfl, ht0, ht1, went6⟩
  have how6 := went6.own how5 (by omega)
  go_wp2
  go_ret2
  exact ⟨ao5, n5, cp5, zs5, t, rfl, hn5, ht0, ht1, row_own how6 hby5, (low4.trans low5).trans (below_of_grown went6.grown (Nat.le_refl _) (Nat.le_of_lt cur5.lt))⟩

set_option maxRecDepth 100000 in
set_option maxHeartbeats 400000 in
theorem drawPutInt_any (a0 : Option Addr) (l0 c0 : Nat) (z0 : List Int) (w : World) (h0 : Row w a0 l0 c0 z0) (hs : l0 ≤ 1048576) :
    Calls Try.prog 16 #[.slice a0 l0 c0] w fun e w' => ∃ t, e = .returned (.int .i64 t) ∧ -9223372036854775808 ≤ t ∧ t ≤ 9223372036854775807 ∧ Below w.heap.size w w' := by
  go_enter Try.func16, Try.ntmps16
  go_wp2_with fail
  refine (new_any a0 l0 c0 z0 _ h0 hs).mono ?_
  rintro e w1 ⟨rfl, cur1, hb1⟩
  go_wp2_with fail
  refine (num_any _ a0 l0 c0 z0 _ cur1).mono ?_
  rintro e w2 ⟨t, rfl, ht0, ht1, went2⟩
  go_wp2
  go_ret
  exact ⟨t, rfl, ht0, ht1, hb1.trans (below_of_grown went2.grown (Nat.le_refl _) (Nat.le_of_lt cur1.lt))⟩

set_option maxRecDepth 100000 in
set_option maxHeartbeats 400000 in
theorem drawGetInt_any (a0 : Option Addr) (l0 c0 : Nat) (z0 : List Int) (w : World) (h0 : Row w a0 l0 c0 z0) (hs : l0 ≤ 1048576) :
    Calls Try.prog 19 #[.slice a0 l0 c0] w fun e w' => ∃ ao1 n1 cp1 zs1, e = .returned (.slice ao1 n1 cp1) ∧ n1 ≤ 2001 ∧ Row w' ao1 n1 cp1 zs1 ∧ Below w.heap.size w w' := by
  go_enter Try.func19, Try.ntmps19
  go_wp2_with fail
  refine (new_any a0 l0 c0 z0 _ h0 hs).mono ?_
  rintro e w1 ⟨rfl, cur1, hb1⟩
  have hlt := cur1.lt
  go_wp2_with fail
  refine (num_any _ a0 l0 c0 z0 _ cur1).mono ?_
  rintro e w2 ⟨t, rfl, ht0, ht1, went2⟩
  have hlp := putInt_length t
  have hbp := putInt_byte t
  have hs2 := went2.grown.size
  go_wp2_with fail
  refine (specInt_made t (putInt t) rfl _).mono ?_
  rintro e w3 ⟨ao3, cp3, rfl, how3, -, hb3⟩
  generalize putInt t = P at *
  have wn3 := went2.made hb3
  have hs3 := wn3.grown.size
  go_wp2_with fail
  refine (once_any _ a0 l0 c0 z0 4 _ wn3.cur (by omega)).mono ?_
  rintro e w4 ⟨x, rfl, went4⟩
  have wn4 := wn3.trans went4
  have how4 := went4.own how3 (by omega)
  have hs4 := wn4.grown.size
  have n34 := went4.grown.size
  have low4 : Below w.heap.size w w4 := hb1.trans (below_of_grown wn4.grown (Nat.le_refl _) (Nat.le_of_lt hlt))
  cases x
  · go_wp2_with fail
    refine (bend_any _ a0 l0 c0 z0 w2.heap.size _ _ _ _ _ wn4.cur (by omega) (by have := hb3.size; omega) how4 hbp (by omega)).mono ?_
    rintro e w5 ⟨ao5, n5, cp5, zs5, rfl, hn5, hby5, hz5, how5, cur5, low5⟩
    go_wp2
    go_ret
    exact ⟨ao5, n5, cp5, zs5, rfl, hn5, row_own how5 hby5, low4.trans low5⟩
  · go_wp2_with fail
    refine (pick_any _ a0 l0 c0 z0 [0, 255, 1] _ _ w4 wn4.cur rfl rfl (by simp) (by simp)).mono ?_
    rintro e w5 ⟨y, hy, rfl, went5⟩
    have hy' : 0 ≤ y ∧ y ≤ 255 := by simp at hy; omega
    clear hy
    have how5 := went5.own how4 (by omega)
    have low5 : Below w.heap.size w w5 := low4.trans (below_of_grown went5.grown (Nat.le_refl _) (Nat.le_of_lt wn4.cur.lt))
    have hs5 := low5.size
    have n45 := went5.grown.size
    go_wp2_with (at_builtin; refine wpList_append_row _ rfl _ _ 22 rfl w5.heap.size Try.underlying22 Try.infoU8 _ 1 [y] rfl (World.ownsRow_lit w5 #[_] 1 (Nat.le_refl _) (by unfold maxLen; omega) rfl) (byte_cons hy' byte_nil) _ _ _ P rfl ((row_own how5 hbp).below ((Below.refl _ _).alloc (Nat.le_refl _) _)) (by omega) (by simp) ?_)
    intro ao6 cp6 w6 how6 row6 hb6
    have low6 : Below w.heap.size w w6 := (low5.alloc hs5 _).trans (hb6.mono hs5)
    clear how6
    go_wp2
    go_ret
    exact ⟨ao6, 1 + P.length, cp6, _, rfl, by omega, row6, low6⟩

end Go.Proofs.Ytjpfoofijjgpcaa
