/-
  Ports that are drawn.
-/
import Derived.Test.YtmlcjdfnoipihaaPtOkS
import Derived.Test.YtmlcjdfnoipihaaDrawVec
import Derived.Deep.CutRange
namespace Go.Proofs.Ytmlcjdfnoipihaa
open Go.RowKit

theorem ptInfo : (Try.prog.info? 33).map (fun i => (i.zero, i.size, i.bytes)) = some (some (.agg #[.bool false, .int .i64 0, .bool false, .int .i64 0, .int .i64 0, .int .i64 0, .int .i64 0, .int .i64 0]), ptF.k, 64) := by kernel_rfl

theorem pt_append (w : World) {ops : Array Oper} {rest : List Oper} {o : Oper} {a : Act} {Q : Exit → Act → World → Prop} (hgd : o.guard = none)
    (s x : Operand) (ho : o.op = Op.call { callee := Callee.builtin Builtin.append, args := #[s, x], argTypes := #[24, 24] }) (base : Nat)
    (v : Value) (n : Nat) (xs : List PT) (hs : a.eval s = v) (hown : w.ownsRow base 33 8 v n (ptF.all xs)) (ao : Option Addr) (m c : Nat) (zs : List PT)
    (hx : a.eval x = .slice ao m c) (hrow : GRow ptF w ao m c zs) (hsm : n + m ≤ 137438953472) (hbase : base ≤ w.heap.size)
    (h : ∀ ao' cap' w', w'.ownsRow base 33 8 (.slice ao' (n + m) cap') (n + m) (ptF.all (xs ++ zs)) → GRow ptF w' ao' (n + m) cap' (xs ++ zs) → w.grownBy w' v.ownBlock → Below base w w' → wpList Try.prog ops Q rest (a.put o.dst (.slice ao' (n + m) cap')) w') :
    wpList Try.prog ops Q (o :: rest) a w :=
  wpList_append_flat (F := ptF) w hgd s x 24 33 ho base Try.underlying24 ptInfo rfl (by decide) v n xs hs hown ao m c zs hx hrow hsm hbase h

theorem set_block8 {w : World} {g : Nat} {T : TypeId} {c0 c1 c2 c3 c4 c5 c6 c7 : Value} (h : w.heap[g]? = some (.cells #[c0, c1, c2, c3, c4, c5, c6, c7] T)) (u : Value) : (w.setCell ⟨g, 2, none⟩ u).heap[g]? = some (.cells #[c0, c1, u, c3, c4, c5, c6, c7] T) := set_block5 (j := 2) h u

theorem set_heard {w : World} {g : Nat} {T : TypeId} {c0 c1 c2 c3 c4 c5 c6 c7 : Value} (h : w.heap[g]? = some (.cells #[c0, c1, c2, c3, c4, c5, c6, c7] T)) (u3 u4 u5 u6 u7 : Value) : (((((w.setCell ⟨g, 3, none⟩ u3).setCell ⟨g, 4, none⟩ u4).setCell ⟨g, 5, none⟩ u5).setCell ⟨g, 6, none⟩ u6).setCell ⟨g, 7, none⟩ u7).heap[g]? = some (.cells #[c0, c1, c2, u3, u4, u5, u6, u7] T) :=
  set_block5 (j := 7) (set_block5 (j := 6) (set_block5 (j := 5) (set_block5 (j := 4) (set_block5 (j := 3) h u3) u4) u5) u6) u7

theorem frozen8 {w : World} {g : Nat} {T : TypeId} {cs : Array Value} (h : w.heap[g]? = some (.cells cs T)) (j : Nat) : w.frozen? ⟨g, j, none⟩ = false := by
  simp [World.frozen?, h]

/-- A box that is younger than the row's first block, and none of its own: its type is another's or it was made later. -/
theorem own_box8 {w : World} {base k : Nat} {e : TypeId} {v : Value} {n : Nat} {xs : List Value} (h : w.ownsRow base e k v n xs) : ∀ b, v.ownBlock = some b → b < w.heap.size := fun b hb => (h.lt b hb).2

set_option maxRecDepth 100000 in
set_option maxHeartbeats 4000000 in
theorem l10Draw_any (C : Nat) (a0 : Option Addr) (l0 c0 : Nat) (z0 : List Int) (N : Int) (m : Nat) (w : World) (hc : Cur w C a0 l0 c0 z0) (hN : N = m) (hm : m ≤ 1000) :
    Calls Try.prog 33 #[.pointer (some ⟨C, 0, none⟩), .int .i64 N] w fun e w' => ∃ (ao : Option Addr) (cap : Nat) (l : List PT), e = .returned (.slice ao m cap) ∧ l.length = m ∧ (∀ x ∈ l, ptOk x = true) ∧ w'.ownsRow w.heap.size 33 8 (.slice ao m cap) m (ptF.all l) ∧ Went w w' C a0 l0 c0 z0 := by
  subst hN
  have hlt := hc.lt
  go_enter Try.func33, Try.ntmps33
  go_wp2_with fail
  generalize hw1 : w.alloc (Obj.cells #[] 33) = w1
  have b1 : Below w.heap.size w w1 := by rw [← hw1]; exact below_one _ _
  have o1 : w1.ownsRow w.heap.size 33 8 (.slice (some ⟨w.heap.size, 0, none⟩) 0 0) 0 (ptF.all []) := flat_nil ptF w w1 33 w.heap.size (by rw [← hw1]; exact block_last _ _) (Nat.le_refl _)
  have wn1 := Went.start hc b1
  clear hw1 b1
  go_loopw [5, 6] (fun o i wr => ∃ (k : Nat) (ao : Option Addr) (cap : Nat) (l : List PT), k ≤ m ∧ i = .int .i64 k ∧ o = .slice ao k cap ∧ l.length = k ∧ (∀ x ∈ l, ptOk x = true) ∧ wr.ownsRow w.heap.size 33 8 (.slice ao k cap) k (ptF.all l) ∧ Went w wr C a0 l0 c0 z0) (fun _ i _ => m - (intOf i).toNat)
  case atStart => exact ⟨0, _, _, [], Nat.zero_le _, rfl, rfl, rfl, (by intro x hx; cases hx), o1, wn1⟩
  case round =>
    obtain ⟨k, ao, cap, l, hk, rfl, rfl, hl, hall, o2, wn2⟩ := hrel
    have HA := hide hall
    clear hall
    clear wn1 o1
    have HL := hide hl
    clear hl
    by_cases hk0 : k < m
    · go_wp2_with fail
      refine (once_any C a0 l0 c0 z0 4 _ wn2.cur (by omega)).mono ?_
      rintro e w3 ⟨q, rfl, wt⟩
      have wn3 := wn2.trans wt
      have o3 := gown_apart o2 wt.grown (fun b hb => by cases hb; exact hlt)
      clear wt wn2 o2
      go_wp2_with fail
      refine (pick_any C a0 l0 c0 z0 [1, 1, 2, 5, 10] _ _ w3 wn3.cur rfl rfl (by simp) (by simp)).mono ?_
      rintro e w4 ⟨K, hK, rfl, wt⟩
      have HK : Hid ((decide (1 ≤ K) && decide (K ≤ 1000)) = true) := hide (by simp at hK; simp; omega)
      clear hK
      have wn4 := wn3.trans wt
      have o4 := gown_apart o3 wt.grown (fun b hb => by cases hb; exact hlt)
      clear wt wn3 o3
      have ob := hide (own_box8 o4)
      have hX : w.heap.size ≤ w4.heap.size := wn4.grown.size
      have HX := hide hX
      have hCX : C ≠ w4.heap.size := by omega
      have HCX := hide hCX
      clear hX hCX
      cases q
      · go_upto_region 6 with fail
        generalize hw5 : w4.alloc (.cells #[.bool true, .int .i64 K, .bool false, .int .i64 0, .int .i64 0, .int .i64 0, .int .i64 0, .int .i64 0] 33) = w5
        have b5 : Below w4.heap.size w4 w5 := by rw [← hw5]; exact below_one _ _
        have kX : w5.heap[w4.heap.size]? = some (.cells #[.bool true, .int .i64 K, .bool false, .int .i64 0, .int .i64 0, .int .i64 0, .int .i64 0, .int .i64 0] 33) := by rw [← hw5]; exact block_last _ _
        have o5 := gown_below o4 b5
        have wn5 := wn4.made b5
        obtain ⟨d0, d1, d2, d3, d4, d5, d6, d7⟩ := cells8 kX
        clear o4 wn4 b5
        go_wp2_with fail
        refine (once_any C a0 l0 c0 z0 4 _ wn5.cur (by omega)).mono ?_
        rintro e w6 ⟨r, rfl, wt⟩
        have wn6 := wn5.trans wt
        have o6 := gown_apart o5 wt.grown (fun b hb => by cases hb; exact hlt)
        have kX := kept_grown kX wt.grown (fun i e => by cases e; exact HCX.out)
        clear wt wn5 o5 hw5 d0 d1 d2 d3 d4 d5 d6 d7
        cases r
        · obtain ⟨d0, d1, d2, d3, d4, d5, d6, d7⟩ := cells8 kX
          have f2 := frozen8 kX 2
          generalize hw7 : w6.setCell ⟨w4.heap.size, 2, none⟩ (.bool true) = w7
          have kY : w7.heap[w4.heap.size]? = some (.cells #[.bool true, .int .i64 K, .bool true, .int .i64 0, .int .i64 0, .int .i64 0, .int .i64 0, .int .i64 0] 33) := by rw [← hw7]; exact set_block8 kX _
          have o7 := gown_other o6 (grown_set (rb := w4.heap.size) 2 (.bool true)) (fun b hb => Nat.ne_of_lt (ob.out b hb))
          rw [hw7] at o7
          have wn7 := wn6.madeAt (below_set (Below.refl w.heap.size w6) (g := w4.heap.size) HX.out 2 (.bool true)) hlt (Nat.le_refl _)
          rw [hw7] at wn7
          clear wn6 o6 kX
          go_wp2_with fail
          refine (l7Draw_ok C a0 l0 c0 z0 _ wn7.cur).mono ?_
          rintro e w8 ⟨vr, vc, vh, vb, vp, rfl, hok, wt⟩
          have HV := hide hok
          clear hok
          have wn8 := wn7.trans wt
          have o8 := gown_apart o7 wt.grown (fun b hb => by cases hb; exact hlt)
          have kX := kept_grown kY wt.grown (fun i e => by cases e; exact HCX.out)
          clear wt wn7 o7 hw7 kY d0 d1 d2 d3 d4 d5 d6 d7 f2
          obtain ⟨d0, d1, d2, d3, d4, d5, d6, d7⟩ := cells8 kX
          have f3 := frozen8 kX 3
          have f4 := frozen8 kX 4
          have f5 := frozen8 kX 5
          have f6 := frozen8 kX 6
          have f7 := frozen8 kX 7
          generalize hw9 : ((((w8.setCell ⟨w4.heap.size, 3, none⟩ (.int .i64 vr)).setCell ⟨w4.heap.size, 4, none⟩ (.int .i64 vc)).setCell ⟨w4.heap.size, 5, none⟩ (.int .i64 vh)).setCell ⟨w4.heap.size, 6, none⟩ (.int .i64 vb)).setCell ⟨w4.heap.size, 7, none⟩ (.int .i64 vp) = w9
          have kY : w9.heap[w4.heap.size]? = some (.cells #[.bool true, .int .i64 K, .bool true, .int .i64 vr, .int .i64 vc, .int .i64 vh, .int .i64 vb, .int .i64 vp] 33) := by rw [← hw9]; exact set_heard kX _ _ _ _ _
          have hne : ∀ b, (Value.slice ao k cap).ownBlock = some b → b ≠ w4.heap.size := fun b hb => Nat.ne_of_lt (ob.out b hb)
          have o9' := gown_other (gown_other (gown_other (gown_other (gown_other o8 (grown_set (rb := w4.heap.size) 3 (.int .i64 vr)) hne) (grown_set (rb := w4.heap.size) 4 (.int .i64 vc)) hne) (grown_set (rb := w4.heap.size) 5 (.int .i64 vh)) hne) (grown_set (rb := w4.heap.size) 6 (.int .i64 vb)) hne) (grown_set (rb := w4.heap.size) 7 (.int .i64 vp)) hne
          rw [hw9] at o9'
          have wn9 := wn8.madeAt (below_set (below_set (below_set (below_set (below_set (Below.refl w.heap.size w8) (g := w4.heap.size) HX.out 3 (.int .i64 vr)) HX.out 4 (.int .i64 vc)) HX.out 5 (.int .i64 vh)) HX.out 6 (.int .i64 vb)) HX.out 7 (.int .i64 vp)) hlt (Nat.le_refl _)
          rw [hw9] at wn9
          clear wn8 o8 kX hne
          go_upto_region 9 with fail
          clear d0 d1 d2 d3 d4 d5 d6 d7 f3 f4 f5 f6 f7 hw9
          have HCS : Hid (#[Value.bool true, .int .i64 K, .bool true, .int .i64 vr, .int .i64 vc, .int .i64 vh, .int .i64 vb, .int .i64 vp].toList = ptF.cs ⟨true, K, true, ⟨vr, vc, vh, vb, vp⟩⟩) := hide rfl
          obtain ⟨d0, d1, d2, d3, d4, d5, d6, d7⟩ := cells8 kY
          have o9 := gown_below o9' (below_one w9 (.cells #[.bool true, .int .i64 K, .bool true, .int .i64 vr, .int .i64 vc, .int .i64 vh, .int .i64 vb, .int .i64 vp] 33))
          have hbase9 : w.heap.size ≤ (w9.alloc (.cells #[.bool true, .int .i64 K, .bool true, .int .i64 vr, .int .i64 vc, .int .i64 vh, .int .i64 vb, .int .i64 vp] 33)).heap.size := by have := wn9.grown.size; simp; omega
          have HW9 : Hid (Went w (w9.alloc (.cells #[.bool true, .int .i64 K, .bool true, .int .i64 vr, .int .i64 vc, .int .i64 vh, .int .i64 vb, .int .i64 vp] 33)) C a0 l0 c0 z0) := hide (wn9.made (below_one w9 _))
          go_wp2_with (at_builtin; refine pt_append _ rfl _ _ rfl w.heap.size _ k l rfl o9 _ 1 1 [⟨true, K, true, ⟨vr, vc, vh, vb, vp⟩⟩] rfl (grow_one ptF _ _ _ _ HCS.out) (by omega) hbase9 ?_)
          rintro ao' cap' wz oz - gz bz
          have HO := hide oz
          have HWZ := hide (HW9.out.madeAt bz hlt (Nat.le_refl _))
          have HLN : Hid ((l ++ [(⟨true, K, true, ⟨vr, vc, vh, vb, vp⟩⟩ : PT)]).length = k + 1) := hide (by simp [HL.out])
          have HAN : Hid (∀ y ∈ l ++ [(⟨true, K, true, ⟨vr, vc, vh, vb, vp⟩⟩ : PT)], ptOk y = true) := hide (by
            intro y hy
            rcases List.mem_append.1 hy with hy | hy
            · exact HA.out y hy
            · have e : y = _ := List.mem_singleton.1 hy
              subst e
              unfold ptOk
              simp only
              rw [HK.out]
              exact HV.out)
          clear oz gz bz o9 hbase9 d0 d1 d2 d3 d4 d5 d6 d7
          go_wp2
          go_roundw
          case rel => exact ⟨k + 1, ao', cap', _, by omega, by go_num, rfl, HLN.out, HAN.out, HO.out, HWZ.out⟩
          case measure => simp [intOf]; omega

        · go_upto_region 9 with fail
          have HCS : Hid (#[Value.bool true, .int .i64 K, .bool false, .int .i64 0, .int .i64 0, .int .i64 0, .int .i64 0, .int .i64 0].toList = ptF.cs ⟨true, K, false, ⟨0, 0, 0, 0, 0⟩⟩) := hide rfl
          obtain ⟨d0, d1, d2, d3, d4, d5, d6, d7⟩ := cells8 kX
          have o9 := gown_below o6 (below_one w6 (.cells #[.bool true, .int .i64 K, .bool false, .int .i64 0, .int .i64 0, .int .i64 0, .int .i64 0, .int .i64 0] 33))
          have hbase9 : w.heap.size ≤ (w6.alloc (.cells #[.bool true, .int .i64 K, .bool false, .int .i64 0, .int .i64 0, .int .i64 0, .int .i64 0, .int .i64 0] 33)).heap.size := by have := wn6.grown.size; simp; omega
          have HW9 : Hid (Went w (w6.alloc (.cells #[.bool true, .int .i64 K, .bool false, .int .i64 0, .int .i64 0, .int .i64 0, .int .i64 0, .int .i64 0] 33)) C a0 l0 c0 z0) := hide (wn6.made (below_one w6 _))
          go_wp2_with (at_builtin; refine pt_append _ rfl _ _ rfl w.heap.size _ k l rfl o9 _ 1 1 [⟨true, K, false, ⟨0, 0, 0, 0, 0⟩⟩] rfl (grow_one ptF _ _ _ _ HCS.out) (by omega) hbase9 ?_)
          rintro ao' cap' wz oz - gz bz
          have HO := hide oz
          have HWZ := hide (HW9.out.madeAt bz hlt (Nat.le_refl _))
          have HLN : Hid ((l ++ [(⟨true, K, false, ⟨0, 0, 0, 0, 0⟩⟩ : PT)]).length = k + 1) := hide (by simp [HL.out])
          have HAN : Hid (∀ y ∈ l ++ [(⟨true, K, false, ⟨0, 0, 0, 0, 0⟩⟩ : PT)], ptOk y = true) := hide (by
            intro y hy
            rcases List.mem_append.1 hy with hy | hy
            · exact HA.out y hy
            · have e : y = _ := List.mem_singleton.1 hy
              subst e
              unfold ptOk
              simp only
              rw [HK.out]
              rfl)
          clear oz gz bz o9 hbase9 d0 d1 d2 d3 d4 d5 d6 d7
          go_wp2
          go_roundw
          case rel => exact ⟨k + 1, ao', cap', _, by omega, by go_num, rfl, HLN.out, HAN.out, HO.out, HWZ.out⟩
          case measure => simp [intOf]; omega

      · go_upto_region 6 with fail
        generalize hw5 : w4.alloc (.cells #[.bool false, .int .i64 K, .bool false, .int .i64 0, .int .i64 0, .int .i64 0, .int .i64 0, .int .i64 0] 33) = w5
        have b5 : Below w4.heap.size w4 w5 := by rw [← hw5]; exact below_one _ _
        have kX : w5.heap[w4.heap.size]? = some (.cells #[.bool false, .int .i64 K, .bool false, .int .i64 0, .int .i64 0, .int .i64 0, .int .i64 0, .int .i64 0] 33) := by rw [← hw5]; exact block_last _ _
        have o5 := gown_below o4 b5
        have wn5 := wn4.made b5
        obtain ⟨e0, e1, e2, e3, e4, e5, e6, e7⟩ := cells8 kX
        clear o4 wn4 b5
        go_upto_region 9 with fail
        clear e0 e1 e2 e3 e4 e5 e6 e7 hw5
        have HCS : Hid (#[Value.bool false, .int .i64 K, .bool false, .int .i64 0, .int .i64 0, .int .i64 0, .int .i64 0, .int .i64 0].toList = ptF.cs ⟨false, K, false, ⟨0, 0, 0, 0, 0⟩⟩) := hide rfl
        obtain ⟨d0, d1, d2, d3, d4, d5, d6, d7⟩ := cells8 kX
        have o9 := gown_below o5 (below_one w5 (.cells #[.bool false, .int .i64 K, .bool false, .int .i64 0, .int .i64 0, .int .i64 0, .int .i64 0, .int .i64 0] 33))
        have hbase9 : w.heap.size ≤ (w5.alloc (.cells #[.bool false, .int .i64 K, .bool false, .int .i64 0, .int .i64 0, .int .i64 0, .int .i64 0, .int .i64 0] 33)).heap.size := by have := wn5.grown.size; simp; omega
        have HW9 : Hid (Went w (w5.alloc (.cells #[.bool false, .int .i64 K, .bool false, .int .i64 0, .int .i64 0, .int .i64 0, .int .i64 0, .int .i64 0] 33)) C a0 l0 c0 z0) := hide (wn5.made (below_one w5 _))
        go_wp2_with (at_builtin; refine pt_append _ rfl _ _ rfl w.heap.size _ k l rfl o9 _ 1 1 [⟨false, K, false, ⟨0, 0, 0, 0, 0⟩⟩] rfl (grow_one ptF _ _ _ _ HCS.out) (by omega) hbase9 ?_)
        rintro ao' cap' wz oz - gz bz
        have HO := hide oz
        have HWZ := hide (HW9.out.madeAt bz hlt (Nat.le_refl _))
        have HLN : Hid ((l ++ [(⟨false, K, false, ⟨0, 0, 0, 0, 0⟩⟩ : PT)]).length = k + 1) := hide (by simp [HL.out])
        have HAN : Hid (∀ y ∈ l ++ [(⟨false, K, false, ⟨0, 0, 0, 0, 0⟩⟩ : PT)], ptOk y = true) := hide (by
          intro y hy
          rcases List.mem_append.1 hy with hy | hy
          · exact HA.out y hy
          · have e : y = _ := List.mem_singleton.1 hy
            subst e
            unfold ptOk
            simp only
            rw [HK.out]
            rfl)
        clear oz gz bz o9 hbase9 d0 d1 d2 d3 d4 d5 d6 d7
        go_wp2
        go_roundw
        case rel => exact ⟨k + 1, ao', cap', _, by omega, by go_num, rfl, HLN.out, HAN.out, HO.out, HWZ.out⟩
        case measure => simp [intOf]; omega

    · have hkm : k = m := by omega
      subst hkm
      go_wp2
      go_ret
      exact ⟨ao, cap, l, rfl, HL.out, HA.out, o2, wn2⟩

end Go.Proofs.Ytmlcjdfnoipihaa
