/-
  A value of a kind out of bytes, as the program reads what stands ahead of a message: valueOfKind by its contracts.
-/
import Derived.Test.YtgfkpgdkkmgjkaaGreatDoorMsgHelp
import Derived.Test.YtgfkpgdkkmgjkaaGreatDoorBunD
namespace Go.Proofs.YtgfkpgdkkmgjkaaGreatDoor
open Go.RowKit

/-- A number that can be read is a value of that kind. -/
theorem num_val {z : List Int} {t n u : Int} (h : numM z t = some (n, u)) : getV z t = (2, n, ⟨#[]⟩, [], u, true) := by
  unfold numM at h
  split at h
  · rename_i b nx hp
    split at h
    · rename_i hi
      cases h
      have hT := part_some hp
      unfold getV
      rw [hT]
      simp [getBody, hi]
    · cases h
  · cases h

theorem num_no {z : List Int} {t : Int} (h : numM z t = none) {K N : Int} {S : ByteArray} {O : List Int} {next : Int} {ok : Bool} (hG : getV z t = (K, N, S, O, next, ok)) : ok = false ∨ ¬ K = 2 := by
  rcases hT : getTlv z t with ⟨k, body, nx, okT⟩
  rcases getV_ways hG hT with ⟨rfl, e⟩ | ⟨rfl, rfl, hi, e⟩ | ⟨rfl, rfl, hi, e⟩ | ⟨rfl, rfl, hl, e⟩ | ⟨rfl, rfl, hl, e⟩ | ⟨rfl, rfl, o, ho, e⟩ | ⟨rfl, rfl, ho, e⟩ | ⟨rfl, ⟨k2, k4, k6⟩, hk, hl, e⟩ | ⟨rfl, ⟨k2, k4, k6⟩, hk, e⟩
  all_goals (cases e)
  · exact .inl rfl
  · exfalso
    unfold numM at h
    rw [part_of hT] at h
    simp [hi] at h
  · exact .inl rfl
  · exact .inr (by omega)
  · exact .inl rfl
  · exact .inr (by omega)
  · exact .inl rfl
  · exact .inr k2
  · exact .inl rfl

/-- A text that can be read, and is not too long, is a value of that kind. -/
theorem text_val {z : List Int} {t u : Int} {s : List Int} (h : partM z t 4 = some (s, u)) (hs : s.length ≤ 20) : getV z t = (4, 0, byB s, [], u, true) := by
  have hT := part_some h
  unfold getV
  rw [hT]
  simp [getBody, hs]

theorem text_no {z : List Int} {t : Int} (h : ∀ s u, partM z t 4 = some (s, u) → 20 < s.length) {K N : Int} {S : ByteArray} {O : List Int} {next : Int} {ok : Bool} (hG : getV z t = (K, N, S, O, next, ok)) : ok = false ∨ ¬ K = 4 := by
  rcases hT : getTlv z t with ⟨k, body, nx, okT⟩
  rcases getV_ways hG hT with ⟨rfl, e⟩ | ⟨rfl, rfl, hi, e⟩ | ⟨rfl, rfl, hi, e⟩ | ⟨rfl, rfl, hl, e⟩ | ⟨rfl, rfl, hl, e⟩ | ⟨rfl, rfl, o, ho, e⟩ | ⟨rfl, rfl, ho, e⟩ | ⟨rfl, ⟨k2, k4, k6⟩, hk, hl, e⟩ | ⟨rfl, ⟨k2, k4, k6⟩, hk, e⟩
  all_goals (cases e)
  · exact .inl rfl
  · exact .inr (by omega)
  · exact .inl rfl
  · exfalso
    have := h _ _ (part_of hT)
    omega
  · exact .inl rfl
  · exact .inr (by omega)
  · exact .inl rfl
  · exact .inr k4
  · exact .inl rfl

set_option maxRecDepth 100000 in
set_option maxHeartbeats 1000000 in
theorem kindOf_yes (a1 : Option Addr) (l1 c1 : Nat) (z1 : List Int) (t K N : Int) (S : ByteArray) (O : List Int) (next : Int) (hG : getV z1 t = (K, N, S, O, next, true)) (w : World) (h1 : Row w a1 l1 c1 z1) (hs : l1 ≤ 1048576) :
    Calls Tryz.prog 89 #[.slice a1 l1 c1, .int .i64 t, .int .i64 K] w fun e w' => ∃ ao cap, e = .returned (.tuple #[.agg #[.int .i64 K, .int .i64 N, .string S, .slice ao O.length cap], .int .i64 next, .nilIface]) ∧ Below w.heap.size w w' := by
  have HG := hide hG
  clear hG
  have q0 := below_one w (.cells #[.int .i64 0, .int .i64 0, .string ⟨#[]⟩, .slice none 0 0] 81)
  have hk0 := block_last w (.cells #[.int .i64 0, .int .i64 0, .string ⟨#[]⟩, .slice none 0 0] 81)
  go_enter Tryz.func89, Tryz.ntmps89
  go_wp2_with fail
  refine (implGetVal_made a1 l1 c1 z1 t K N S O next true HG.out _ (h1.below q0) hs).mono ?_
  rintro e w1 ⟨ao, cap, rfl, -, -, hb⟩
  obtain ⟨⟨c0, c1, c2, c3⟩, f0, f1, f2, f3⟩ := cells4 (kept_block hk0 hb)
  have b1 := q0.trans (hb.mono q0.size)
  have n1 := hb.size
  have m1 : w.heap.size < w1.heap.size := by simp at n1; omega
  have m2 : ¬ w1.heap.size = w.heap.size := by omega
  have m3 : ¬ w.heap.size = w1.heap.size := by omega
  clear hb n1 q0 hk0
  have B1 := hide b1
  clear b1
  go_wp2
  refine bodyPost_ret (v := .tuple #[.agg #[.int .i64 K, .int .i64 N, .string S, .slice ao O.length cap], .int .i64 next, .nilIface]) (by simp [results, Tryz.results89, go_sem, *]) rfl ⟨ao, cap, rfl, ?_⟩
  refine gr_alloc ?_ _
  repeat (refine below_set ?_ (Nat.le_refl _) _ _)
  exact B1.out

set_option maxRecDepth 100000 in
set_option maxHeartbeats 1000000 in
theorem kindOf_no (a1 : Option Addr) (l1 c1 : Nat) (z1 : List Int) (t k K N : Int) (S : ByteArray) (O : List Int) (next : Int) (ok : Bool) (hG : getV z1 t = (K, N, S, O, next, ok)) (hno : ok = false ∨ ¬ K = k) (w : World) (h1 : Row w a1 l1 c1 z1) (hs : l1 ≤ 1048576) :
    Calls Tryz.prog 89 #[.slice a1 l1 c1, .int .i64 t, .int .i64 k] w fun e w' => e = .returned (.tuple #[.agg #[.int .i64 0, .int .i64 0, .string ⟨#[]⟩, .slice none 0 0], .int .i64 0, .iface 56 (.agg #[.int .i64 1])]) ∧ Below w.heap.size w w' := by
  have HG := hide hG
  clear hG
  have q0 := below_one w (.cells #[.int .i64 0, .int .i64 0, .string ⟨#[]⟩, .slice none 0 0] 81)
  have hk0 := block_last w (.cells #[.int .i64 0, .int .i64 0, .string ⟨#[]⟩, .slice none 0 0] 81)
  have hok : ok = false ∨ (ok = true ∧ ¬ K = k) := by cases ok <;> simp_all
  clear hno
  go_enter Tryz.func89, Tryz.ntmps89
  go_wp2_with fail
  refine (implGetVal_made a1 l1 c1 z1 t K N S O next ok HG.out _ (h1.below q0) hs).mono ?_
  rintro e w1 ⟨ao, cap, rfl, -, -, hb⟩
  obtain ⟨⟨c0, c1, c2, c3⟩, f0, f1, f2, f3⟩ := cells4 (kept_block hk0 hb)
  have b1 := q0.trans (hb.mono q0.size)
  have n1 := hb.size
  have m1 : w.heap.size < w1.heap.size := by simp at n1; omega
  have m2 : ¬ w1.heap.size = w.heap.size := by omega
  have m3 : ¬ w.heap.size = w1.heap.size := by omega
  clear hb n1 q0 hk0
  have B1 := hide b1
  clear b1
  rcases hok with rfl | ⟨rfl, hkk⟩
  all_goals
    clear HG
    go_wp2
    refine bodyPost_ret (v := .tuple #[.agg #[.int .i64 0, .int .i64 0, .string ⟨#[]⟩, .slice none 0 0], .int .i64 0, .iface 56 (.agg #[.int .i64 1])]) (by simp [results, Tryz.results89, go_sem, *]) rfl ⟨rfl, ?_⟩
    refine gr_alloc ?_ _
    repeat (refine below_set ?_ (Nat.le_refl _) _ _)
    exact B1.out

end Go.Proofs.YtgfkpgdkkmgjkaaGreatDoor
