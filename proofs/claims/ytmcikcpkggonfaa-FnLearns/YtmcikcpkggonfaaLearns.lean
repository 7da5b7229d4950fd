/-
  FnLearns answers true at all bytes: of drawn entries, one that is learned is there at its port, or is static and stays, or there is no room; all others stay; what is made is right and as the specification has it.
-/
import Derived.Test.YtmcikcpkggonfaaDrawFdb
import Derived.Test.YtmcikcpkggonfaaFdbImplL
import Derived.Test.YtmcikcpkggonfaaSameFdb
import Derived.Test.YtmcikcpkggonfaaBig
import Derived.Deep.RegionHeld3
import Derived.WalkKit
import Derived.ProofKit
import Derived.OpenShut
import Derived.ShutString
import Derived.ChangeOld
import Derived.Below
namespace Go.Proofs.Ytmcikcpkggonfaa
open Go.RowKit

theorem take_static {l : List FE} (h : Sorted l) {t m : Int} {k : Nat} {x : FE} (hx : l[k]? = some x) (hb : both x t m = true) : staticF (l.take (k + 1)) t m = x.s := by
  have hk := (List.getElem?_eq_some_iff.1 hx).1
  have hm : x ∈ l.take (k + 1) := by
    rw [List.take_add_one, hx]
    simp
  have hs : Sorted (l.take (k + 1)) := sub_sorted h (List.take_sublist _ _)
  obtain ⟨e1, e2⟩ := both_iff.1 hb
  have := look_mem hs hm
  rw [e1, e2] at this
  unfold staticF
  rw [this]

theorem take_other {l : List FE} {t m : Int} {k : Nat} {x : FE} (hx : l[k]? = some x) (hb : both x t m = false) : staticF (l.take (k + 1)) t m = staticF (l.take k) t m := by
  unfold staticF lookE
  rw [List.take_add_one, hx]
  simp only [Option.toList_some, List.find?_append, List.find?_cons, hb, List.find?_nil, Option.or_none]

set_option maxRecDepth 100000 in
set_option maxHeartbeats 8000000 in
theorem learns_walk (a0 : Option Addr) (l0 c0 : Nat) (z0 : List Int) (w : World) (h0 : Row w a0 l0 c0 z0) :
    Calls Try.prog 3 #[.slice a0 l0 c0] w fun e w' => e = .returned (.bool true) ∧ Below w.heap.size w w' := by
  by_cases g0 : 1048576 < l0
  · have i1 : (1048576 : Int) < l0 := by omega
    go_enter Try.func3, Try.ntmps3
    go_wp2
    go_ret
    exact ⟨rfl, Below.refl _ _⟩
  go_enter Try.func3, Try.ntmps3
  go_wp2_with fail
  refine (big_no _ _ _ _ g0).mono ?_
  rintro e w0 ⟨rfl, rfl⟩
  go_wp2_with fail
  refine (drawFdb_any _ _ _ z0 _ h0 (by omega)).mono ?_
  rintro e w1 ⟨ao, n, cap, l, t, m, p, rfl, hl, hok, o1, ht, hm, hp, hb1⟩
  obtain rfl := hl
  have r1 := grow_own (F := fentF) o1
  have h12 := ok_len hok
  have HOK := hide hok
  have HR := hide (ok_rng hok)
  have hent : entOk ⟨t, m, p, 0, false⟩ = true := (entOk_iff _).2 ⟨by simp only; omega, by simp only; omega, by simp only; omega, by simp only; omega, by simp⟩
  have HSL := hide ((fdbOk_iff l).1 hok).1
  have HSY := hide (learn_says hok hent)
  have HXO := hide (learn_ok hok t m p)
  have HOT := hide (fun (x : FE) (hx : x ∈ l) hn => learn_others hok t m p (x := x) hx hn)
  have hlx := learn_len l t m p
  clear hok hent o1
  go_wp2_with fail
  refine (implLearn_made _ _ _ l t m p _ r1 (by omega) HR.out).mono ?_
  rintro e w2 ⟨ao2, cap2, rfl, -, r2, hb2⟩
  generalize hX : learnF l t m p = X at *
  have HX := hide hX
  clear hX
  go_wp2_with fail
  refine (implLookUp_all _ _ _ X t m _ r2 (by omega)).mono ?_
  rintro e w3 ⟨rfl, hb3⟩
  generalize hkk : lookUp X t m = kk at *
  clear hkk
  have q3 := gr_trans hb1 (gr_trans hb2 hb3)
  have r1 := r1.below (gr_trans hb2 hb3)
  have r2 := r2.below hb3
  clear hb1 hb2 hb3
  go_wp2
  go_loopw [9, 10] (fun s i wr => ∃ (k : Nat) (st : Bool), k ≤ l.length ∧ i = .int .i64 k ∧ s = .bool st ∧ st = staticF (l.take k) t m ∧ Below w3.heap.size w3 wr) (fun _ i _ => l.length - (intOf i).toNat)
  case atStart => exact ⟨0, false, Nat.zero_le _, rfl, rfl, by simp [staticF, lookE], Below.refl _ _⟩
  case round =>
    obtain ⟨k, st, hk, rfl, rfl, hst, hb⟩ := hrel
    have HST := hide hst
    clear hst
    by_cases hlt : k < l.length
    · obtain ⟨x, b, off, hx, rfl, a0', a1, a2, a3, a4⟩ := fent_at (r1.below hb) k hlt
      have HB := hide (gr_trans hb (below_one wr (.cells #[.int .i64 x.t, .int .i64 x.m, .int .i64 x.p, .int .i64 x.a, .bool x.s] 30)))
      cases t1 : (x.t == t)
      · have hbo : both x t m = false := by unfold both; rw [t1]; rfl
        have HNX := hide ((take_other hx hbo).symm)
        have HLO := hide (HOT.out x (List.mem_of_getElem? hx) (both_not.1 hbo))
        have kx := block_last wr (.cells #[.int .i64 x.t, .int .i64 x.m, .int .i64 x.p, .int .i64 x.a, .bool x.s] 30)
        have vv : Below (wr.alloc (.cells #[.int .i64 x.t, .int .i64 x.m, .int .i64 x.p, .int .i64 x.a, .bool x.s] 30)).heap.size (wr.alloc (.cells #[.int .i64 x.t, .int .i64 x.m, .int .i64 x.p, .int .i64 x.a, .bool x.s] 30)) (wr.alloc (.cells #[.int .i64 x.t, .int .i64 x.m, .int .i64 x.p, .int .i64 x.a, .bool x.s] 30)).drew := gr_drew (Below.refl _ _)
        have rX := (r2.below hb).below (below_one wr (.cells #[.int .i64 x.t, .int .i64 x.m, .int .i64 x.p, .int .i64 x.a, .bool x.s] 30))
        clear hx hb
        go_wp2_with fail
        refine wp_region_held_drew (S := (fun W => (W.cell? ⟨wr.heap.size, 0, none⟩ = some (.int .i64 x.t) ∧ W.cell? ⟨wr.heap.size, 1, none⟩ = some (.int .i64 x.m) ∧ W.cell? ⟨wr.heap.size, 2, none⟩ = some (.int .i64 x.p) ∧ W.cell? ⟨wr.heap.size, 3, none⟩ = some (.int .i64 x.a) ∧ W.cell? ⟨wr.heap.size, 4, none⟩ = some (.bool x.s)))) (by kernel_rfl) ((cells5 (kept_block kx vv)).1) (fun hHeld => ?_)
        refine wpAnyH_take (i := 0) (oi := { dst := some 52, op := Op.move (Operand.tmp 7), type := 24, pos := "laws.go:434", after := #[], guard := none }) (v := ?_) rfl (by kernel_rfl) (by kernel_rfl) (by kernel_rfl) (fun _ _ _ h => h) (Or.inl ⟨by rfl, ?_⟩) (by assumption) ?_
        rotate_left
        · (intro wY hSw; (try dsimp only at hSw); go_simp; try with_reducible rfl)
        simp only [Act.put, List.setIfInBounds_toArray, List.set_cons_zero, List.set_cons_succ]
        refine wpAnyH_take (i := 1) (oi := { dst := some 53, op := Op.fieldAddr 30 (Operand.tmp 11) 0, type := 0, pos := "laws.go:434", after := #[], guard := none }) (v := ?_) rfl (by kernel_rfl) (by kernel_rfl) (by kernel_rfl) (fun _ _ _ h => h) (Or.inl ⟨by rfl, ?_⟩) (by assumption) ?_
        rotate_left
        · (intro wY hSw; (try dsimp only at hSw); go_simp; try with_reducible rfl)
        simp only [Act.put, List.setIfInBounds_toArray, List.set_cons_zero, List.set_cons_succ]
        refine wpAnyH_take (i := 2) (oi := { dst := some 54, op := Op.load 3 (Operand.tmp 53), type := 3, pos := "laws.go:434", after := #[{ on := 1, ground := Ground.data }], guard := none }) (v := ?_) rfl (by kernel_rfl) (by kernel_rfl) (by kernel_rfl) (fun _ _ _ h => h) (Or.inl ⟨by rfl, ?_⟩) (by assumption) ?_
        rotate_left
        · (intro wY hSw; (try dsimp only at hSw); go_simp; try with_reducible rfl)
        simp only [Act.put, List.setIfInBounds_toArray, List.set_cons_zero, List.set_cons_succ]
        refine wpAnyH_take (i := 3) (oi := { dst := some 55, op := Op.fieldAddr 30 (Operand.tmp 11) 1, type := 0, pos := "laws.go:434", after := #[], guard := none }) (v := ?_) rfl (by kernel_rfl) (by kernel_rfl) (by kernel_rfl) (fun _ _ _ h => h) (Or.inl ⟨by rfl, ?_⟩) (by assumption) ?_
        rotate_left
        · (intro wY hSw; (try dsimp only at hSw); go_simp; try with_reducible rfl)
        simp only [Act.put, List.setIfInBounds_toArray, List.set_cons_zero, List.set_cons_succ]
        refine wpAnyH_take (i := 4) (oi := { dst := some 56, op := Op.load 3 (Operand.tmp 55), type := 3, pos := "laws.go:434", after := #[{ on := 3, ground := Ground.data }], guard := none }) (v := ?_) rfl (by kernel_rfl) (by kernel_rfl) (by kernel_rfl) (fun _ _ _ h => h) (Or.inl ⟨by rfl, ?_⟩) (by assumption) ?_
        rotate_left
        · (intro wY hSw; (try dsimp only at hSw); go_simp; try with_reducible rfl)
        simp only [Act.put, List.setIfInBounds_toArray, List.set_cons_zero, List.set_cons_succ]
        refine wpAnyH_take (i := 6) (oi := { dst := some 58, op := Op.fieldAddr 30 (Operand.tmp 11) 2, type := 0, pos := "laws.go:434", after := #[], guard := none }) (v := ?_) rfl (by kernel_rfl) (by kernel_rfl) (by kernel_rfl) (fun _ _ _ h => h) (Or.inl ⟨by rfl, ?_⟩) (by assumption) ?_
        rotate_left
        · (intro wY hSw; (try dsimp only at hSw); go_simp; try with_reducible rfl)
        simp only [Act.put, List.setIfInBounds_toArray, List.set_cons_zero, List.set_cons_succ]
        refine wpAnyH_take (i := 7) (oi := { dst := some 59, op := Op.load 3 (Operand.tmp 58), type := 3, pos := "laws.go:434", after := #[{ on := 6, ground := Ground.data }], guard := none }) (v := ?_) rfl (by kernel_rfl) (by kernel_rfl) (by kernel_rfl) (fun _ _ _ h => h) (Or.inl ⟨by rfl, ?_⟩) (by assumption) ?_
        rotate_left
        · (intro wY hSw; (try dsimp only at hSw); go_simp; try with_reducible rfl)
        simp only [Act.put, List.setIfInBounds_toArray, List.set_cons_zero, List.set_cons_succ]
        refine wpAnyH_ready (rs := [5]) (by kernel_rfl) (by simp) ?_
        refine AllReadyH.cons (o := { dst := some 57, op := Op.call { callee := Callee.value (Operand.func 12), args := #[Operand.tmp 52, Operand.tmp 54, Operand.tmp 56], argTypes := #[24, 3, 3] }, type := 3, pos := "laws.go:434", after := #[{ on := 0, ground := Ground.data }, { on := 2, ground := Ground.data }, { on := 4, ground := Ground.data }], guard := none }) rfl (fun K hK => ?_) ?_
        · go_simp
          refine (implLookUp_all _ _ _ X x.t x.m _ (rX.below vv) (by omega)).mono ?_
          rintro r wx ⟨rfl, hbx⟩
          rw [HLO.out]
          have vv := gr_trans vv hbx
          go_wp2_with fail
          refine hK.out _ _ ((cells5 (kept_block kx vv)).1) (fun hHeld => ?_)
          clear hK K
          try simp only [Act.put, List.setIfInBounds_toArray, List.set_cons_zero, List.set_cons_succ]
          refine wpAnyH_take (i := 8) (oi := { dst := some 60, op := Op.binOp BinOp.neq 3 (Operand.tmp 57) (Operand.tmp 59) 3, type := 4, pos := "laws.go:434", after := #[{ on := 5, ground := Ground.data }, { on := 7, ground := Ground.data }], guard := none }) (v := .bool false) rfl (by kernel_rfl) (by kernel_rfl) (by kernel_rfl) (fun _ _ _ h => h) (Or.inl ⟨by rfl, ?_⟩) (by assumption) ?_
          · (intro wY hSw; (try dsimp only at hSw); go_simp; first | done | omega)
          simp only [Act.put, List.setIfInBounds_toArray, List.set_cons_zero, List.set_cons_succ]
          refine wpAnyH_done (by kernel_rfl) ?_ _
          clear hHeld
          have HB2 := hide (gr_trans HB.out vv)
          clear vv kx rX
          go_wp2
          go_roundw
          case rel => exact ⟨k + 1, st, by omega, by go_num, rfl, HST.out.trans HNX.out, HB2.out⟩
          case measure => simp [intOf]; omega
        exact AllReadyH.nil
      · cases t2 : (x.m == m)
        · have hbo : both x t m = false := by unfold both; rw [t1, t2]; rfl
          have HNX := hide ((take_other hx hbo).symm)
          have HLO := hide (HOT.out x (List.mem_of_getElem? hx) (both_not.1 hbo))
          have kx := block_last wr (.cells #[.int .i64 x.t, .int .i64 x.m, .int .i64 x.p, .int .i64 x.a, .bool x.s] 30)
          have vv : Below (wr.alloc (.cells #[.int .i64 x.t, .int .i64 x.m, .int .i64 x.p, .int .i64 x.a, .bool x.s] 30)).heap.size (wr.alloc (.cells #[.int .i64 x.t, .int .i64 x.m, .int .i64 x.p, .int .i64 x.a, .bool x.s] 30)) (wr.alloc (.cells #[.int .i64 x.t, .int .i64 x.m, .int .i64 x.p, .int .i64 x.a, .bool x.s] 30)).drew := gr_drew (Below.refl _ _)
          have rX := (r2.below hb).below (below_one wr (.cells #[.int .i64 x.t, .int .i64 x.m, .int .i64 x.p, .int .i64 x.a, .bool x.s] 30))
          clear hx hb
          go_wp2_with fail
          refine wp_region_held_drew (S := (fun W => (W.cell? ⟨wr.heap.size, 0, none⟩ = some (.int .i64 x.t) ∧ W.cell? ⟨wr.heap.size, 1, none⟩ = some (.int .i64 x.m) ∧ W.cell? ⟨wr.heap.size, 2, none⟩ = some (.int .i64 x.p) ∧ W.cell? ⟨wr.heap.size, 3, none⟩ = some (.int .i64 x.a) ∧ W.cell? ⟨wr.heap.size, 4, none⟩ = some (.bool x.s)))) (by kernel_rfl) ((cells5 (kept_block kx vv)).1) (fun hHeld => ?_)
          refine wpAnyH_take (i := 0) (oi := { dst := some 52, op := Op.move (Operand.tmp 7), type := 24, pos := "laws.go:434", after := #[], guard := none }) (v := ?_) rfl (by kernel_rfl) (by kernel_rfl) (by kernel_rfl) (fun _ _ _ h => h) (Or.inl ⟨by rfl, ?_⟩) (by assumption) ?_
          rotate_left
          · (intro wY hSw; (try dsimp only at hSw); go_simp; try with_reducible rfl)
          simp only [Act.put, List.setIfInBounds_toArray, List.set_cons_zero, List.set_cons_succ]
          refine wpAnyH_take (i := 1) (oi := { dst := some 53, op := Op.fieldAddr 30 (Operand.tmp 11) 0, type := 0, pos := "laws.go:434", after := #[], guard := none }) (v := ?_) rfl (by kernel_rfl) (by kernel_rfl) (by kernel_rfl) (fun _ _ _ h => h) (Or.inl ⟨by rfl, ?_⟩) (by assumption) ?_
          rotate_left
          · (intro wY hSw; (try dsimp only at hSw); go_simp; try with_reducible rfl)
          simp only [Act.put, List.setIfInBounds_toArray, List.set_cons_zero, List.set_cons_succ]
          refine wpAnyH_take (i := 2) (oi := { dst := some 54, op := Op.load 3 (Operand.tmp 53), type := 3, pos := "laws.go:434", after := #[{ on := 1, ground := Ground.data }], guard := none }) (v := ?_) rfl (by kernel_rfl) (by kernel_rfl) (by kernel_rfl) (fun _ _ _ h => h) (Or.inl ⟨by rfl, ?_⟩) (by assumption) ?_
          rotate_left
          · (intro wY hSw; (try dsimp only at hSw); go_simp; try with_reducible rfl)
          simp only [Act.put, List.setIfInBounds_toArray, List.set_cons_zero, List.set_cons_succ]
          refine wpAnyH_take (i := 3) (oi := { dst := some 55, op := Op.fieldAddr 30 (Operand.tmp 11) 1, type := 0, pos := "laws.go:434", after := #[], guard := none }) (v := ?_) rfl (by kernel_rfl) (by kernel_rfl) (by kernel_rfl) (fun _ _ _ h => h) (Or.inl ⟨by rfl, ?_⟩) (by assumption) ?_
          rotate_left
          · (intro wY hSw; (try dsimp only at hSw); go_simp; try with_reducible rfl)
          simp only [Act.put, List.setIfInBounds_toArray, List.set_cons_zero, List.set_cons_succ]
          refine wpAnyH_take (i := 4) (oi := { dst := some 56, op := Op.load 3 (Operand.tmp 55), type := 3, pos := "laws.go:434", after := #[{ on := 3, ground := Ground.data }], guard := none }) (v := ?_) rfl (by kernel_rfl) (by kernel_rfl) (by kernel_rfl) (fun _ _ _ h => h) (Or.inl ⟨by rfl, ?_⟩) (by assumption) ?_
          rotate_left
          · (intro wY hSw; (try dsimp only at hSw); go_simp; try with_reducible rfl)
          simp only [Act.put, List.setIfInBounds_toArray, List.set_cons_zero, List.set_cons_succ]
          refine wpAnyH_take (i := 6) (oi := { dst := some 58, op := Op.fieldAddr 30 (Operand.tmp 11) 2, type := 0, pos := "laws.go:434", after := #[], guard := none }) (v := ?_) rfl (by kernel_rfl) (by kernel_rfl) (by kernel_rfl) (fun _ _ _ h => h) (Or.inl ⟨by rfl, ?_⟩) (by assumption) ?_
          rotate_left
          · (intro wY hSw; (try dsimp only at hSw); go_simp; try with_reducible rfl)
          simp only [Act.put, List.setIfInBounds_toArray, List.set_cons_zero, List.set_cons_succ]
          refine wpAnyH_take (i := 7) (oi := { dst := some 59, op := Op.load 3 (Operand.tmp 58), type := 3, pos := "laws.go:434", after := #[{ on := 6, ground := Ground.data }], guard := none }) (v := ?_) rfl (by kernel_rfl) (by kernel_rfl) (by kernel_rfl) (fun _ _ _ h => h) (Or.inl ⟨by rfl, ?_⟩) (by assumption) ?_
          rotate_left
          · (intro wY hSw; (try dsimp only at hSw); go_simp; try with_reducible rfl)
          simp only [Act.put, List.setIfInBounds_toArray, List.set_cons_zero, List.set_cons_succ]
          refine wpAnyH_ready (rs := [5]) (by kernel_rfl) (by simp) ?_
          refine AllReadyH.cons (o := { dst := some 57, op := Op.call { callee := Callee.value (Operand.func 12), args := #[Operand.tmp 52, Operand.tmp 54, Operand.tmp 56], argTypes := #[24, 3, 3] }, type := 3, pos := "laws.go:434", after := #[{ on := 0, ground := Ground.data }, { on := 2, ground := Ground.data }, { on := 4, ground := Ground.data }], guard := none }) rfl (fun K hK => ?_) ?_
          · go_simp
            refine (implLookUp_all _ _ _ X x.t x.m _ (rX.below vv) (by omega)).mono ?_
            rintro r wx ⟨rfl, hbx⟩
            rw [HLO.out]
            have vv := gr_trans vv hbx
            go_wp2_with fail
            refine hK.out _ _ ((cells5 (kept_block kx vv)).1) (fun hHeld => ?_)
            clear hK K
            try simp only [Act.put, List.setIfInBounds_toArray, List.set_cons_zero, List.set_cons_succ]
            refine wpAnyH_take (i := 8) (oi := { dst := some 60, op := Op.binOp BinOp.neq 3 (Operand.tmp 57) (Operand.tmp 59) 3, type := 4, pos := "laws.go:434", after := #[{ on := 5, ground := Ground.data }, { on := 7, ground := Ground.data }], guard := none }) (v := .bool false) rfl (by kernel_rfl) (by kernel_rfl) (by kernel_rfl) (fun _ _ _ h => h) (Or.inl ⟨by rfl, ?_⟩) (by assumption) ?_
            · (intro wY hSw; (try dsimp only at hSw); go_simp; first | done | omega)
            simp only [Act.put, List.setIfInBounds_toArray, List.set_cons_zero, List.set_cons_succ]
            refine wpAnyH_done (by kernel_rfl) ?_ _
            clear hHeld
            have HB2 := hide (gr_trans HB.out vv)
            clear vv kx rX
            go_wp2
            go_roundw
            case rel => exact ⟨k + 1, st, by omega, by go_num, rfl, HST.out.trans HNX.out, HB2.out⟩
            case measure => simp [intOf]; omega
          exact AllReadyH.nil
        · have HS2 := hide (take_static HSL.out hx (t := t) (m := m) (by unfold both; rw [t1, t2]; rfl))
          clear hx hb
          go_wp2
          go_roundw
          case rel => exact ⟨k + 1, x.s, by omega, by go_num, rfl, HS2.out.symm, HB.out⟩
          case measure => simp [intOf]; omega
    · have hkn : k = l.length := by omega
      have hst : st = staticF l t m := by rw [HST.out, hkn, List.take_of_length_le (Nat.le_refl _)]
      have HSS := hide hst
      clear hst
      subst hkn
      go_wp2_with fail
      refine (implFdbOk_all _ _ _ l _ (r1.below hb) (by omega)).mono ?_
      rintro e w4 ⟨rfl, hb4⟩
      rw [HOK.out]
      have q4 := gr_trans hb hb4
      go_wp2_with fail
      refine (implFdbOk_all _ _ _ X _ (r2.below q4) (by omega)).mono ?_
      rintro e w5 ⟨rfl, hb5⟩
      rw [HXO.out]
      have q5 := gr_trans q4 hb5
      go_wp2_with fail
      refine (specLearn_any _ _ _ l t m p _ (r1.below q5) (by omega)).mono ?_
      rintro e w6 ⟨ao6, cap6, rfl, -, r6, hb6⟩
      rw [HX.out] at r6 ⊢
      have q6 := gr_trans q5 hb6
      go_wp2_with fail
      refine (sameFdb_same _ _ _ _ _ _ X _ (r2.below q6) r6).mono ?_
      rintro e w7 ⟨rfl, hb7⟩
      have q7 := gr_trans q6 hb7
      have HB7 := hide (gr_trans q3 q7)
      clear hb hb4 hb5 hb6 hb7 q4 q5 q6 r6
      cases c1 : (kk == p)
      · rcases HSY.out with h | ⟨h1, h2⟩ | ⟨h1, h2⟩
        · rw [h] at c1
          simp at c1
        · have hst : st = true := by rw [HSS.out]; exact h1
          subst hst
          have H2 := hide h2
          clear h2 h1
          go_wp2_with fail
          refine (implLookUp_all _ _ _ l t m _ (r1.below q7) (by omega)).mono ?_
          rintro e w8 ⟨rfl, hb8⟩
          rw [← H2.out]
          have HB8 := hide (gr_trans HB7.out hb8)
          have c2 : (kk == kk) = true := by simp
          clear hb8
          go_wp2
          go_ret
          exact ⟨rfl, HB8.out⟩
        · have c3 : (kk == -1) = true := by rw [h1]; rfl
          have c4 : ((l.length : Int) == 12) = true := by rw [h2]; rfl
          cases st
          · clear h1 h2
            go_wp2
            go_ret
            exact ⟨rfl, HB7.out⟩
          · have h5 : lookUp X t m = lookUp X t m := rfl
            clear h1 h2 h5
            go_wp2_with fail
            refine (implLookUp_all _ _ _ l t m _ (r1.below q7) (by omega)).mono ?_
            rintro e w8 ⟨rfl, hb8⟩
            have HB8 := hide (gr_trans HB7.out hb8)
            clear hb8
            cases c5 : (kk == lookUp l t m)
            · go_wp2
              go_ret
              exact ⟨rfl, HB8.out⟩
            · go_wp2
              go_ret
              exact ⟨rfl, HB8.out⟩
      · go_wp2
        go_ret
        exact ⟨rfl, HB7.out⟩

theorem fnLearns_own : ownKnob Try.prog.godebug = none := by kernel_rfl
theorem fnLearns_laid : laidOutB Try.prog = true := by kernel_rfl

open Go.ChangeShapes Go.WideShapes Go.ChangeAt in
open Go.ChangeMaps (open_string shut_string) in
set_option maxRecDepth 100000 in
theorem fnLearns_lifted (os : Os) (started : os.Started) (H : Type) (enc : TypeId × Value → H) :
    ReturnsInHanded {} Try.checked os 3 .any (Rows.fnLearnsSpec.pre6 enc Try.prog Try.f3 Rows.fnLearnsRow.domain false) (Rows.fnLearnsSpec.post enc Try.prog Try.f3 false true false false) := by
  refine returnsInHanded_of_change (C := Try.checked) fnLearns_own started (by kernel_rfl) Try.func3
    (ChangeSpec.witness6 (enc := enc) (C := Try.checked) false ⟨#[], #[.slice none 0 0], []⟩ 8 (by kernel_rfl) (by kernel_rfl) (by kernel_rfl) (by kernel_rfl)) ?_
  intro W base args ds gs before hval0 hW hcnd _
  have hval : ∀ (j : Nat) t v, Try.f3.params[j]? = some t → args[j]? = some v → Value.okWide Try.prog W .any base t v := hval0
  have hW' := hW
  obtain ⟨p, q, hA0, hV, rfl, hfz, hnd⟩ := hW
  have hA : DataW.TrodAll enc Try.prog W 0 (fun _ => true) true Try.f3.params.toList args.toList ds p := hA0
  rw [Try.params3] at hA hval
  obtain ⟨v0, vs0, d0, ds0, p0, q0, hargs, rfl, rfl, h0, r0⟩ := trodAll_cons hA
  obtain ⟨rfl, rfl, rfl⟩ := trodAll_nil r0
  obtain rfl : args = #[v0] := by cases args; simp_all
  obtain ⟨rfl, rfl⟩ := trodVars_none hV
  obtain ⟨a0, len0, cap0, rfl⟩ := okWide_slice Try.underlying22 (hval 0 22 v0 rfl rfl)
  have k0 := h0
  have lt0 : ∀ x ∈ p0, x.block < W.heap.size := by obtain ⟨m, hm⟩ := k0; exact DataW.trod_lt m _ _ _ hm
  obtain ⟨z0, w0⟩ : ∃ zs, Row W a0 len0 cap0 zs := by
    obtain ⟨fuel, hf⟩ := h0
    rcases open_ints Try.underlying22 Try.underlying5 (by kernel_rfl) hf with ⟨hcs, _⟩ | ⟨x, l, c, zs, hcs, _, hl, hm, hz, _, hcell, hwz⟩
    · simp [Value.cells] at hcs
      obtain ⟨rfl, rfl, rfl⟩ := hcs
      exact ⟨[], row_nil W⟩
    · simp [Value.cells] at hcs
      obtain ⟨rfl, rfl, rfl⟩ := hcs
      exact ⟨zs.take len0, row_open hl hm (by simpa using hz) hcell hwz⟩
  clear hA0 hval0
  refine (learns_walk a0 len0 cap0 z0 W w0).mono fun e W' ⟨he, bel⟩ => ?_
  subst he
  exact ⟨_, rfl, _, _, _, [], _, [], hW', trodAll_mk1 (shut_bool Try.underlying4 _), (trodAll_cons_mk (Below.trod fnLearns_laid (by kernel_rfl) (of_decide_eq_true (by kernel_rfl)) k0 bel lt0) trodAll_mk0), rfl, bel.frame _, fun h => by cases h⟩

theorem fnLearns_holds : Rows.FnLearnsSaid :=
  OpenClaim.holds_of_wide 3 Try.f3 rfl rfl rfl rfl rfl rfl rfl ⟨rfl, rfl, rfl, rfl, rfl⟩ rfl rfl rfl rfl rfl (by kernel_rfl) Try.func3 (by kernel_rfl)
    (of_decide_eq_true (by kernel_rfl)) (by unfold Func.isWrapper; first | (rw [if_pos (by decide +kernel)]; kernel_rfl) | (rw [if_neg (by decide +kernel)]; exact ⟨rfl, rfl⟩))
    (fun os started H enc _ => fnLearns_lifted os started H enc)

#print axioms fnLearns_holds

end Go.Proofs.Ytmcikcpkggonfaa
