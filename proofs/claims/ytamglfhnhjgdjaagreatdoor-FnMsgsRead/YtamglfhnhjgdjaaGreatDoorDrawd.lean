/-
  The four draws of the first chapter, each by what may come.
-/
import Derived.Test.YtamglfhnhjgdjaaGreatDoorQI
namespace Go.Proofs.YtamglfhnhjgdjaaGreatDoor
open Go.RowKit

set_option maxRecDepth 100000 in
set_option maxHeartbeats 400000 in
theorem drawGetTlv_any (a0 : Option Addr) (l0 c0 : Nat) (z0 : List Int) (w : World) (h0 : Row w a0 l0 c0 z0) (hs : l0 ≤ 1048576) :
    Calls Tryz.prog 15 #[.slice a0 l0 c0] w fun e w' => ∃ ao1 n1 cp1 zs1 t, e = .returned (.tuple #[.slice ao1 n1 cp1, .int .i64 t]) ∧ n1 ≤ 2001 ∧ -9223372036854775808 ≤ t ∧ t ≤ 9223372036854775807 ∧ Row w' ao1 n1 cp1 zs1 ∧ Below w.heap.size w w' := by
  go_enter Tryz.func15, Tryz.ntmps15
  go_wp2_with fail
  refine (new_any a0 l0 c0 z0 _ h0 hs).mono ?_
  rintro e w1 ⟨rfl, cur1, hb1⟩
  have hlt := cur1.lt
  have hba : Below w1.heap.size w1 (w1.alloc (.cells #[] 5)) := (Below.refl _ _).alloc (Nat.le_refl _) _
  have re : Row (w1.alloc (.cells #[] 5)) (some ⟨w1.heap.size, 0, none⟩) 0 0 [] := row_lit w1 _ [] 0 rfl rfl (by omega) byte_nil
  go_wp2_with fail
  refine (pick_any _ a0 l0 c0 z0 [2, 4, 48] _ _ (w1.alloc (.cells #[] 5)) (cur1.below hba) (by simp) rfl (by simp) (by simp)).mono ?_
  rintro e w2 ⟨tag, -, rfl, went2⟩
  go_wp2_with fail
  refine (body_any _ a0 l0 c0 z0 _ went2.cur).mono ?_
  rintro e w3 ⟨ao2, n2, cp2, zs2, rfl, hn2, hby2, hz2, how2, went3⟩
  have wn := (Went.start cur1 hba).trans (went2.trans went3)
  have hs3 := wn.grown.size
  have g23 := (went2.trans went3).grown
  have re3 : Row w3 (some ⟨w1.heap.size, 0, none⟩) 0 0 [] := ⟨rfl, Nat.le_refl _, Nat.zero_le _, (by intro h; cases h), byte_nil, .inl rfl⟩
  go_wp2_with fail
  refine (specTlv_any _ _ _ [] tag _ _ _ zs2 _ re3 (row_own how2 hby2) (by omega)).mono ?_
  rintro e w4 ⟨ao4, n4, cp4, rfl, how4, hb4⟩
  have hlen : n4 ≤ 2000 := by
    have h1 := how4.1
    rw [cB_length] at h1
    have := putTlv_length [] tag zs2
    simp at this
    omega
  have cur4 := wn.cur.below hb4
  have low4 : Below w.heap.size w w4 := (hb1.trans (below_of_grown wn.grown (Nat.le_refl _) (Nat.le_of_lt hlt))).trans (hb4.mono (by omega))
  go_wp2_with fail
  refine (bend_any _ a0 l0 c0 z0 w3.heap.size _ _ _ _ _ cur4 (by omega) hb4.size how4 (putTlv_byte _ _ _ byte_nil hby2) hlen).mono ?_
  rintro e w5 ⟨ao5, n5, cp5, zs5, rfl, hn5, hby5, hz5, how5, cur5, low5⟩
  go_wp2_with fail
  refine (at_any _ a0 l0 c0 z0 _ _ _ _ cur5 (by omega)).mono ?_
  rintro e w6 ⟨t, rfl, ht0, ht1, went6⟩
  have how6 := went6.own how5 (by omega)
  go_wp2
  go_ret2
  exact ⟨ao5, n5, cp5, zs5, t, rfl, hn5, ht0, ht1, row_own how6 hby5, (low4.trans low5).trans (below_of_grown went6.grown (Nat.le_refl _) (Nat.le_of_lt cur5.lt))⟩

end Go.Proofs.YtamglfhnhjgdjaaGreatDoor
