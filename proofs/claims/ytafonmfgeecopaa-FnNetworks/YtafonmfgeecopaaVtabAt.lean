/-
  The place of a row, as the specification looks for it; a copy of a table.
-/
import Derived.Test.YtafonmfgeecopaaVrowMem
import Derived.Test.YtafonmfgeecopaaFrameHelp
namespace Go.Proofs.Ytafonmfgeecopaa
open Go.RowKit

set_option maxRecDepth 100000 in
set_option maxHeartbeats 400000 in
theorem specRowAt_any (a : Option Addr) (n c : Nat) (l : List VR) (o : Option Addr) (p q : Nat) (id : Int) (w : World) (h : GRow vrowF w a n c l) :
    Calls Try.prog 43 #[.agg #[.slice a n c, .slice o p q], .int .i64 id] w fun r w' => r = .returned (.int .i64 (rowAt l id)) ∧ Below w.heap.size w w' := by
  have hle := h.le
  have htop := h.top
  unfold maxLen at htop
  have hsz := h.size
  have hW : Below w.heap.size w (w.alloc (Obj.cells #[Value.slice a n c, Value.slice o p q] 27)) := below_one _ _
  have h := h.below hW
  go_enter Try.func43, Try.ntmps43
  go_wp2
  go_loop [5] (fun i => ∃ k : Nat, k ≤ n ∧ i = .int .i64 k ∧ ∀ (j : Nat) (y : VR), j < k → l[j]? = some y → (y.i == id) = false) (fun i => n - (intOf i).toNat)
  case atStart => exact ⟨0, Nat.zero_le _, rfl, fun j y hj => by omega⟩
  case round =>
    obtain ⟨k, hk, rfl, hno⟩ := hrel
    by_cases hlt : k < n
    · obtain ⟨x, b, off, hx, rfl, c0, -, -⟩ := vrow_at h k hlt
      cases t1 : (x.i == id)
      · have HO := hide (vno_next hno hx t1)
        clear hno
        go_wp2
        go_round
        case rel => exact ⟨k + 1, by omega, by go_num, HO.out⟩
        case measure => simp [intOf]; omega
      · have HF := hide (rowAt_found hno hx t1)
        clear hno
        go_wp2
        go_ret
        exact ⟨(by rw [HF.out]; rfl), hW⟩
    · have hkn : k = n := by omega
      have HF := hide (rowAt_none (l := l) (id := id) (fun i y hy => hno i y (by have := (List.getElem?_eq_some_iff.1 hy).1; omega) hy))
      clear hno
      subst hkn
      go_wp2
      go_ret
      exact ⟨(by rw [HF.out]; rfl), hW⟩

end Go.Proofs.Ytafonmfgeecopaa
