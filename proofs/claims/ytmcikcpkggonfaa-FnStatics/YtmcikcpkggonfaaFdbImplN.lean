/-
  Who is next, the program's own: slices.IndexFunc with a function that asks whether an entry is behind.
-/
import Derived.Test.YtmcikcpkggonfaaFdbImplA
namespace Go.Proofs.Ytmcikcpkggonfaa
open Go.RowKit

theorem cell1 {w : World} {g : Nat} {T : TypeId} {v : Value} (h : w.heap[g]? = some (.cells #[v] T)) : w.cell? ⟨g, 0, none⟩ = some v := by simp [World.cell?, h]

set_option maxRecDepth 100000 in
set_option maxHeartbeats 1000000 in
theorem implNext1_any (e : FE) (t m : Int) (g1 g2 : Nat) (w : World) (c1 : w.heap[g1]? = some (.cells #[.int .i64 t] 3)) (c2 : w.heap[g2]? = some (.cells #[.int .i64 m] 3)) :
    Calls Try.prog 51 #[.agg #[.int .i64 e.t, .int .i64 e.m, .int .i64 e.p, .int .i64 e.a, .bool e.s], .pointer (some ⟨g1, 0, none⟩), .pointer (some ⟨g2, 0, none⟩)] w fun r w' => r = .returned (.bool (!ahead e t m && !both e t m)) ∧ Below w.heap.size w w' := by
  have q := below_one w (.cells #[.int .i64 e.t, .int .i64 e.m, .int .i64 e.p, .int .i64 e.a, .bool e.s] 30)
  have x1 := cell1 (kept_block c1 q)
  have x2 := cell1 (kept_block c2 q)
  go_enter Try.func51, Try.ntmps51
  go_wp2_with fail
  refine (implBehind_any e t m _).mono ?_
  rintro r w1 ⟨rfl, hb1⟩
  have HB := hide (gr_trans q hb1)
  clear hb1 x1 x2
  go_wp2
  go_ret
  exact ⟨rfl, HB.out⟩

set_option maxRecDepth 100000 in
set_option maxHeartbeats 2000000 in
theorem indexFunc_any (ao : Option Addr) (n cap : Nat) (l : List FE) (t m : Int) (g1 g2 : Nat) (w : World) (h : GRow fentF w ao n cap l) (c1 : w.heap[g1]? = some (.cells #[.int .i64 t] 3)) (c2 : w.heap[g2]? = some (.cells #[.int .i64 m] 3)) :
    Calls Try.prog 50 #[.slice ao n cap, .func (.func 51) #[] #[.pointer (some ⟨g1, 0, none⟩), .pointer (some ⟨g2, 0, none⟩)]] w fun r w' => r = .returned (.int .i64 (nextF l t m)) ∧ Below w.heap.size w w' := by
  have hle := h.le
  have htop := h.top
  unfold maxLen at htop
  have hsz := h.size
  go_enter Try.func50, Try.ntmps50
  go_wp2
  go_loopw [8] (fun i wr => ∃ k : Nat, k ≤ n ∧ i = .int .i64 k ∧ (∀ j y, j < k → l[j]? = some y → (!ahead y t m && !both y t m) = false) ∧ Below w.heap.size w wr) (fun i _ => n - (intOf i).toNat)
  case atStart => exact ⟨0, Nat.zero_le _, rfl, fun j y hj => by omega, Below.refl _ _⟩
  case round =>
    obtain ⟨k, hk, rfl, hno, hb⟩ := hrel
    by_cases hlt : k < n
    · obtain ⟨x, b, off, hx, rfl, a0, a1, a2, a3, a4⟩ := fent_at (h.below hb) k hlt
      cases ta : (!ahead x t m && !both x t m)
      · have HO := hide (nxt_next (q := fun y => !ahead y t m && !both y t m) hno hx ta)
        have HA := hide ta
        have HB := hide hb
        clear ta hno hb hx
        go_wp2_with fail
        refine (implNext1_any x t m g1 g2 _ (kept_block c1 HB.out) (kept_block c2 HB.out)).mono ?_
        rintro r w1 ⟨rfl, hb1⟩
        rw [HA.out]
        have HB1 := hide (gr_trans HB.out hb1)
        clear hb1 a0 a1 a2 a3 a4
        go_wp2
        go_roundw
        case rel => exact ⟨k + 1, by omega, by go_num, HO.out, HB1.out⟩
        case measure => simp [intOf]; omega
      · have HF := hide (nextF_found hno hx ta)
        have HA := hide ta
        have HB := hide hb
        clear ta hno hb hx
        go_wp2_with fail
        refine (implNext1_any x t m g1 g2 _ (kept_block c1 HB.out) (kept_block c2 HB.out)).mono ?_
        rintro r w1 ⟨rfl, hb1⟩
        rw [HA.out]
        have HB1 := hide (gr_trans HB.out hb1)
        clear hb1 a0 a1 a2 a3 a4
        go_wp2
        go_ret
        exact ⟨(by rw [HF.out]; rfl), HB1.out⟩
    · have hkn : k = n := by omega
      have HF := hide (nextF_none (l := l) (t := t) (m := m) (fun i y hi hy => hno i y (by omega) hy))
      have HB := hide hb
      clear hno hb
      subst hkn
      go_wp2
      go_ret
      exact ⟨(by rw [HF.out]; rfl), HB.out⟩

set_option maxRecDepth 100000 in
set_option maxHeartbeats 2000000 in
theorem implNext_all (ao : Option Addr) (n cap : Nat) (l : List FE) (t m : Int) (w : World) (h : GRow fentF w ao n cap l) (_hn : n ≤ 16777216) :
    Calls Try.prog 21 #[.slice ao n cap, .int .i64 t, .int .i64 m] w fun r w' => r = .returned (.int .i64 (nextF l t m)) ∧ Below w.heap.size w w' := by
  have hmf : ∀ (fn : Fn) (first cap : Array Value) (w : World), (Instr.makeFunc fn first cap).run Try.prog w = .ok (.func fn first cap) w := fun _ _ _ _ => rfl
  have q := below_two w (.cells #[.int .i64 t] 3) (.cells #[.int .i64 m] 3)
  have c1 := kept_block (block_last w (.cells #[.int .i64 t] 3)) (below_one _ (.cells #[.int .i64 m] 3))
  have c2 : ((w.alloc (.cells #[.int .i64 t] 3)).alloc (.cells #[.int .i64 m] 3)).heap[w.heap.size + 1]? = some (.cells #[.int .i64 m] 3) := by
    have := block_last (w.alloc (.cells #[.int .i64 t] 3)) (.cells #[.int .i64 m] 3)
    rw [show (w.alloc (.cells #[.int .i64 t] 3)).heap.size = w.heap.size + 1 by simp] at this
    exact this
  go_enter Try.func21, Try.ntmps21
  go_wp2_with fail
  refine (indexFunc_any ao n cap l t m _ _ _ (h.below q) c1 c2).mono ?_
  rintro r w1 ⟨rfl, hb1⟩
  have HB := hide (gr_trans q hb1)
  clear hb1 q c1 c2
  go_wp2
  go_ret
  exact ⟨rfl, HB.out⟩

end Go.Proofs.Ytmcikcpkggonfaa
