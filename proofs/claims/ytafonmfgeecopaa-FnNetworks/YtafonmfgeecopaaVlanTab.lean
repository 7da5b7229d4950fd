/-
  Whether a table is right, the program's own: the whole.
-/
import Derived.Test.YtafonmfgeecopaaVlanOk
namespace Go.Proofs.Ytafonmfgeecopaa
open Go.RowKit

theorem rowAt_no {l : List VR} {id : Int} (h : rowIdx l id = none) : rowAt l id = -1 := by unfold rowAt; rw [h]
theorem rowAt_yes {l : List VR} {id : Int} {k : Nat} (h : rowIdx l id = some k) : rowAt l id = k := by unfold rowAt; rw [h]

set_option maxRecDepth 100000 in
set_option maxHeartbeats 4000000 in
theorem implVtabOk_any (a : Option Addr) (n c : Nat) (o : Option Addr) (p q : Nat) (v : VT) (ports : Int) (w : World) (h : VTab w a n c o p q v) (hR : ∀ r ∈ v.rows, r.Rng) :
    Calls Try.prog 16 #[.agg #[.slice a n c, .slice o p q], .int .i64 ports] w fun r w' => r = .returned (.bool (vtabOk v ports)) ∧ Below w.heap.size w w' := by
  have hle := h.rows.le
  have htop := h.rows.top
  have hle2 := h.own.le
  have htop2 := h.own.top
  unfold maxLen at htop htop2
  have hsz := hide h.rows.size
  have hsz2 := hide h.own.size
  generalize hw1 : w.alloc (Obj.cells #[Value.slice a n c, Value.slice o p q] 27) = w1
  have hW : Below w.heap.size w w1 := by subst hw1; exact below_one _ _
  obtain ⟨e0, e1⟩ := box_two hw1 (Below.refl _ w1)
  have h := h.below hW
  generalize hV : vtabOk v ports = V
  have HV := hide hV
  clear hV
  cases t1 : (decide (1 ≤ ports) && decide (ports ≤ 6))
  · have HN := hide (vtab_in (v := v) t1)
    have T1 := hide t1
    clear t1
    go_enter Try.func16, Try.ntmps16
    go_wp2_with (refine (implIn9_any ports 1 6 _).mono ?_; rintro r w2 ⟨rfl, e2⟩; obtain rfl := e2.symm; rw [T1.out])
    go_ret
    exact ⟨ret_bool (by rw [← HV.out, HN.out]), hW⟩
  have T1 := hide t1
  simp only [Bool.and_eq_true, decide_eq_true_eq] at t1
  by_cases t2 : (p : Int) = ports
  case neg =>
    have HN := hide (vtab_len (v := v) (ports := ports) (by rw [hsz2.out]; exact t2))
    go_enter Try.func16, Try.ntmps16
    go_wp2_with (refine (implIn9_any ports 1 6 _).mono ?_; rintro r w2 ⟨rfl, e2⟩; obtain rfl := e2.symm; rw [T1.out])
    go_ret
    exact ⟨ret_bool (by rw [← HV.out, HN.out]), hW⟩
  subst t2
  by_cases t3 : n ≤ 6
  case neg =>
    have HN := hide (vtab_many (v := v) (ports := p) (by rw [hsz.out]; exact t3))
    go_enter Try.func16, Try.ntmps16
    go_wp2_with (refine (implIn9_any (p : Int) 1 6 _).mono ?_; rintro r w2 ⟨rfl, e2⟩; obtain rfl := e2.symm; rw [T1.out])
    go_ret
    exact ⟨ret_bool (by rw [← HV.out, HN.out]), hW⟩
  cases t4 : vrises v.rows
  · have HN := hide (vtab_rise (v := v) (ports := p) t4)
    have T4 := hide t4
    clear t4
    go_enter Try.func16, Try.ntmps16
    go_wp2_with (refine (implIn9_any (p : Int) 1 6 _).mono ?_; rintro r w2 ⟨rfl, e2⟩; obtain rfl := e2.symm; rw [T1.out])
    refine (implRowsOf_any a n c o p q _).mono ?_
    rintro r w2 ⟨rfl, hb2⟩
    go_wp2_with fail
    refine (implAscends_any a n c v.rows _ (h.rows.below hb2)).mono ?_
    rintro r w3 ⟨rfl, hb3⟩
    rw [T4.out]
    have HB := hide (gr_trans hW (gr_trans hb2 hb3))
    clear hb2 hb3
    go_wp2
    go_ret
    exact ⟨ret_bool (by rw [← HV.out, HN.out]), HB.out⟩
  have T4 := hide t4
  clear t4
  go_enter Try.func16, Try.ntmps16
  go_wp2_with (refine (implIn9_any (p : Int) 1 6 _).mono ?_; rintro r w2 ⟨rfl, e2⟩; obtain rfl := e2.symm; rw [T1.out])
  refine (implRowsOf_any a n c o p q _).mono ?_
  rintro r w2 ⟨rfl, hb2⟩
  go_wp2_with fail
  refine (implAscends_any a n c v.rows _ (h.rows.below hb2)).mono ?_
  rintro r w3 ⟨rfl, hb3⟩
  rw [T4.out]
  have b13 := gr_trans hb2 hb3
  obtain ⟨x0, x1⟩ := box_two hw1 b13
  clear hb2 hb3 e0 e1
  go_wp2
  go_loopw [34] (fun i wr => ∃ k : Nat, k ≤ n ∧ i = .int .i64 k ∧ rowsTo (allOf p) v.rows k ∧ Below w1.heap.size w1 wr) (fun i _ => n - (intOf i).toNat)
  case atStart => exact ⟨0, Nat.zero_le _, rfl, fun i x hi => by omega, b13⟩
  case round =>
    obtain ⟨k, hk, rfl, hok, hb⟩ := hrel
    by_cases hlt : k < n
    · obtain ⟨x, b, off, hx, rfl, c0, c1, c2⟩ := vrow_at (h.rows.below hb) k hlt
      have hxr : x.Rng := hR x (List.mem_of_getElem? hx)
      cases t5 : vrowOk (allOf p) x
      · have HN := hide (vtab_row (v := v) (p := p) hx t5)
        have T5 := hide t5
        have HB := hide hb
        clear t5 hok hb hx x0 x1
        go_wp2_with fail
        refine (implVrowOk_any x p _ hxr (by omega) (by omega)).mono ?_
        rintro r w5 ⟨rfl, hb5⟩
        rw [T5.out]
        have HB1 := hide (gr_trans hW (gr_trans HB.out (gr_trans (below_one _ _) hb5)))
        clear hb5 c0 c1 c2
        go_wp2
        go_ret
        exact ⟨ret_bool (by rw [← HV.out, HN.out]), HB1.out⟩
      · have HO := hide (rowsTo_next hok hx t5)
        have T5 := hide t5
        have HB := hide hb
        clear t5 hok hb hx x0 x1
        go_wp2_with fail
        refine (implVrowOk_any x p _ hxr (by omega) (by omega)).mono ?_
        rintro r w5 ⟨rfl, hb5⟩
        rw [T5.out]
        have HB1 := hide (gr_trans HB.out (gr_trans (below_one _ _) hb5))
        clear hb5 c0 c1 c2
        go_wp2
        go_roundw
        case rel => exact ⟨k + 1, by omega, by go_num, HO.out, HB1.out⟩
        case measure => simp [intOf]; omega
    · have HK : Hid (vokTo (allOf p) v.rows v.rows.length) := hide (vokTo_of (fun i x hi hx => hok i x (by have := hsz.out; omega) hx) T4.out)
      obtain ⟨y0, y1⟩ := box_two hw1 hb
      have HB := hide hb
      have hkn : k = n := by omega
      clear hok hb x0 x1
      subst hkn
      go_wp2
      go_loopw [46] (fun i wr => ∃ k : Nat, k ≤ p ∧ i = .int .i64 k ∧ ownTo v k ∧ Below w1.heap.size w1 wr) (fun i _ => p - (intOf i).toNat)
      case atStart => exact ⟨0, Nat.zero_le _, rfl, fun i x hi => by omega, HB.out⟩
      case round =>
        obtain ⟨j, hj, rfl, hto, hb⟩ := hrel
        by_cases hlt : j < p
        · obtain ⟨x, b, off, hx, rfl, c0⟩ := irow_at (h.own.below hb) j hlt
          obtain ⟨z0, z1⟩ := box_two hw1 hb
          clear y0 y1
          cases hr : rowIdx v.rows x with
          | none =>
            have HN := hide (vtab_own (p := p) (List.mem_of_getElem? hx) hr)
            have HA := hide (rowAt_no hr)
            have HB3 := hide hb
            clear hto hb hx hr
            go_wp2_with fail
            refine (implRowAt_any a k c v.rows (some ⟨b, off, none⟩) p q x _ (h.rows.below HB3.out)).mono ?_
            rintro r w5 ⟨rfl, hb5⟩
            rw [HA.out]
            have HB1 := hide (gr_trans hW (gr_trans HB3.out hb5))
            clear hb5 c0 z0 z1
            go_wp2
            go_ret
            exact ⟨ret_bool (by rw [← HV.out, HN.out]), HB1.out⟩
          | some i =>
            have HO := hide (ownTo_next hto hx (by rw [hr]; exact fun h => by cases h))
            have HA := hide (rowAt_yes hr)
            have HB3 := hide hb
            have hneg : ¬ ((i : Int) < 0) := by omega
            clear hto hb hx hr
            go_wp2_with fail
            refine (implRowAt_any a k c v.rows (some ⟨b, off, none⟩) p q x _ (h.rows.below HB3.out)).mono ?_
            rintro r w5 ⟨rfl, hb5⟩
            rw [HA.out]
            have HB1 := hide (gr_trans HB3.out hb5)
            clear hb5 c0 z0 z1
            go_wp2
            go_roundw
            case rel => exact ⟨j + 1, by omega, by go_num, HO.out, HB1.out⟩
            case measure => simp [intOf]; omega
        · have HN : Hid (vtabOk v p = true) := hide (vtab_yes t1.1 t1.2 hsz2.out (by have := hsz.out; omega) HK.out (ownTo_all hto (by have := hsz2.out; omega)))
          have HB3 := hide (gr_trans hW hb)
          have hjn : j = p := by omega
          clear hto hb y0 y1
          subst hjn
          go_wp2
          go_ret
          exact ⟨ret_bool (by rw [← HV.out, HN.out]), HB3.out⟩

end Go.Proofs.Ytafonmfgeecopaa
