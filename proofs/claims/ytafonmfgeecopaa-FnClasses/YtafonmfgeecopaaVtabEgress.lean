/-
  The members of a row, as the specification has them.
-/
import Derived.Test.YtafonmfgeecopaaVtabOkS
namespace Go.Proofs.Ytafonmfgeecopaa
open Go.RowKit

set_option maxRecDepth 100000 in
set_option maxHeartbeats 1000000 in
theorem specEgress_any (a : Option Addr) (n c : Nat) (o : Option Addr) (p q : Nat) (v : VT) (id : Int) (w : World) (h : GRow vrowF w a n c v.rows) :
    Calls Try.prog 37 #[.agg #[.slice a n c, .slice o p q], .int .i64 id] w fun r w' => r = .returned (.int .i64 (egressOf v id)) ∧ Below w.heap.size w w' := by
  have hle := h.le
  have htop := h.top
  unfold maxLen at htop
  have hsz := hide h.size
  generalize hw1 : w.alloc (Obj.cells #[Value.slice a n c, Value.slice o p q] 27) = w1
  have q0 : Below w.heap.size w w1 := by subst hw1; exact below_one _ _
  obtain ⟨x0, x1⟩ := box_two hw1 (Below.refl _ w1)
  cases hr : rowIdx v.rows id with
  | none =>
    rw [show egressOf v id = 0 by unfold egressOf; rw [rowIdx_find hr]]
    have HA : Hid (rowAt v.rows id = -1) := hide (by unfold rowAt; rw [hr])
    clear hr
    go_enter Try.func37, Try.ntmps37
    go_wp2_with fail
    refine (specRowAt_any a n c v.rows o p q id _ (h.below q0)).mono ?_
    rintro r w2 ⟨rfl, hb2⟩
    rw [HA.out]
    have HB := hide (gr_trans q0 hb2)
    clear hb2 x0 x1
    go_wp2
    go_ret
    exact ⟨rfl, HB.out⟩
  | some k =>
    obtain ⟨x, hx, -, hf⟩ := rowIdx_some hr
    rw [show egressOf v id = x.m by unfold egressOf; rw [hf]]
    have HA : Hid (rowAt v.rows id = (k : Int)) := hide (by unfold rowAt; rw [hr])
    have hkn : k < n := by have := (List.getElem?_eq_some_iff.1 hx).1; have := hsz.out; omega
    have hneg : ¬ ((k : Int) < 0) := by omega
    have i1 : (0 : Int) ≤ (k : Int) := by omega
    have i2 : (k : Int) < (n : Int) := by omega
    clear hr hf
    go_enter Try.func37, Try.ntmps37
    go_wp2_with fail
    refine (specRowAt_any a n c v.rows o p q id _ (h.below q0)).mono ?_
    rintro r w2 ⟨rfl, hb2⟩
    rw [HA.out]
    obtain ⟨y, b, off, hy, rfl, c0, c1, c2⟩ := vrow_at (h.below (gr_trans q0 hb2)) k hkn
    rw [hx] at hy
    cases hy
    obtain ⟨y0, y1⟩ := box_two hw1 hb2
    have HB := hide (gr_trans q0 hb2)
    clear hb2 x0 x1 hx
    go_wp2
    go_ret
    exact ⟨rfl, HB.out⟩

end Go.Proofs.Ytafonmfgeecopaa
