/-
  Messages as the program reads them: readMsg and GetMsg by their contracts.
-/
import Derived.Test.YtamglfhnhjgdjaaGreatDoorQM
import Derived.Test.YtamglfhnhjgdjaaGreatDoorAsMsg
import Derived.Test.YtamglfhnhjgdjaaGreatDoorQK
import Derived.Test.YtamglfhnhjgdjaaGreatDoorMsgGot
namespace Go.Proofs.YtamglfhnhjgdjaaGreatDoor
open Go.RowKit

theorem bytes_ne {a b : ByteArray} (h : ¬ a = b) : (a.toList == b.toList) = false := by
  rw [beq_eq_false_iff_ne]
  intro e
  rw [ByteArray.toList_eq, ByteArray.toList_eq] at e
  exact h (ByteArray.ext (Array.toList_inj.mp e))

set_option maxRecDepth 100000 in
set_option maxHeartbeats 1000000 in
theorem readMsg_none (W : ByteArray) (ao : Option Addr) (n c : Nat) (z : List Int) (h : headJ z = none) (w : World) (hr : Row w ao n c z) (hs : n ≤ 1048576) :
    Calls Tryz.prog 26 #[.string W, .slice ao n c] w fun e w' => e = .returned (.tuple #[.agg #[.int .i64 0, .int .i64 0, .int .i64 0, .int .i64 0, .slice none 0 0], .iface 53 (.agg #[.int .i64 1])]) ∧ Below w.heap.size w w' := by
  have HH := hide h
  clear h
  have q0 := below_one w (.cells #[.int .i64 0, .int .i64 0, .int .i64 0, .int .i64 0, .slice none 0 0] 26)
  have hk0 := block_last w (.cells #[.int .i64 0, .int .i64 0, .int .i64 0, .int .i64 0, .slice none 0 0] 26)
  go_enter Tryz.func26, Tryz.ntmps26
  go_wp2_with fail
  refine (readHead_no ao n c z HH.out _ (hr.below q0) hs).mono ?_
  rintro e w1 ⟨rfl, hb⟩
  have k1 := kept_block hk0 hb
  obtain ⟨⟨c0, c1, c2, c3, c4⟩, f0, f1, f2, f3, f4⟩ := cells5 k1
  have hlt1 : w.heap.size < w1.heap.size := (Array.getElem?_eq_some_iff.1 k1).1
  have m2 : ¬ w1.heap.size = w.heap.size := by omega
  have m3 : ¬ w.heap.size = w1.heap.size := by omega
  have B1 := hide (gr_trans q0 hb)
  clear q0 hk0 hb k1 HH
  go_wp2
  refine bodyPost_ret (v := .tuple #[.agg #[.int .i64 0, .int .i64 0, .int .i64 0, .int .i64 0, .slice none 0 0], .iface 53 (.agg #[.int .i64 1])]) (by simp [results, Tryz.results26, go_sem, *]) rfl ⟨rfl, ?_⟩
  exact gr_alloc (below_set5 B1.out (Nat.le_refl _) _ _ _ _ _) _

set_option maxRecDepth 100000 in
set_option maxHeartbeats 1000000 in
theorem readMsg_code (W : ByteArray) (ao : Option Addr) (n c : Nat) (z : List Int) (m : Int) (s r : List Int) (h : headJ z = some (m, s, r)) (code : Int) (hc : (¬ m = 1 ∧ code = 2) ∨ (m = 1 ∧ ¬ byB s = W ∧ code = 3)) (w : World) (hr : Row w ao n c z) (hs : n ≤ 1048576) :
    Calls Tryz.prog 26 #[.string W, .slice ao n c] w fun e w' => e = .returned (.tuple #[.agg #[.int .i64 0, .int .i64 0, .int .i64 0, .int .i64 0, .slice none 0 0], .iface 53 (.agg #[.int .i64 code])]) ∧ Below w.heap.size w w' := by
  have HH := hide h
  clear h
  have q0 := below_one w (.cells #[.int .i64 0, .int .i64 0, .int .i64 0, .int .i64 0, .slice none 0 0] 26)
  have hk0 := block_last w (.cells #[.int .i64 0, .int .i64 0, .int .i64 0, .int .i64 0, .slice none 0 0] 26)
  go_enter Tryz.func26, Tryz.ntmps26
  go_wp2_with fail
  refine (readHead_yes ao n c z m s r HH.out _ (hr.below q0) hs).mono ?_
  rintro e w1 ⟨ao1, cp1, rfl, r1, hb⟩
  have k1 := kept_block hk0 hb
  have b1 := gr_trans q0 hb
  have d1 := below_one w1 (.cells #[.int .i64 m, .string (byB s), .slice ao1 r.length cp1] 90)
  have kh := block_last w1 (.cells #[.int .i64 m, .string (byB s), .slice ao1 r.length cp1] 90)
  have k2 := kept_block k1 d1
  have b2 := gr_trans b1 d1
  have r2 := r1.below d1
  have hlt1 : w.heap.size < w1.heap.size := (Array.getElem?_eq_some_iff.1 k1).1
  clear q0 hk0 hb d1 r1
  have B2 := hide b1
  clear b1 b2 r2
  obtain ⟨⟨c0, c1, c2, c3, c4⟩, f0, f1, f2, f3, f4⟩ := cells5 k1
  have m2 : ¬ w1.heap.size = w.heap.size := by omega
  have m3 : ¬ w.heap.size = w1.heap.size := by omega
  clear k1 k2 kh
  rcases hc with ⟨hm, rfl⟩ | ⟨rfl, hw, rfl⟩
  · go_wp2
    refine bodyPost_ret (v := .tuple #[.agg #[.int .i64 0, .int .i64 0, .int .i64 0, .int .i64 0, .slice none 0 0], .iface 53 (.agg #[.int .i64 2])]) (by simp [results, Tryz.results26, go_sem, *]) rfl ⟨rfl, ?_⟩
    exact gr_alloc (below_set5 B2.out (Nat.le_refl _) _ _ _ _ _) _
  · have hw' := bytes_ne hw
    go_wp2
    refine bodyPost_ret (v := .tuple #[.agg #[.int .i64 0, .int .i64 0, .int .i64 0, .int .i64 0, .slice none 0 0], .iface 53 (.agg #[.int .i64 3])]) (by simp [results, Tryz.results26, go_sem, *]) rfl ⟨rfl, ?_⟩
    exact gr_alloc (below_set5 B2.out (Nat.le_refl _) _ _ _ _ _) _

set_option maxRecDepth 100000 in
set_option maxHeartbeats 1000000 in
theorem readMsg_no (ao : Option Addr) (n c : Nat) (z : List Int) (s r : List Int) (h : headJ z = some (1, s, r)) (hP : getP r = none) (w : World) (hr : Row w ao n c z) (hs : n ≤ 1048576) (hrl : r.length ≤ 1048576) :
    Calls Tryz.prog 26 #[.string (byB s), .slice ao n c] w fun e w' => e = .returned (.tuple #[.agg #[.int .i64 0, .int .i64 0, .int .i64 0, .int .i64 0, .slice none 0 0], .iface 53 (.agg #[.int .i64 1])]) ∧ Below w.heap.size w w' := by
  have HH := hide h
  have HP := hide hP
  clear h hP
  have q0 := below_one w (.cells #[.int .i64 0, .int .i64 0, .int .i64 0, .int .i64 0, .slice none 0 0] 26)
  have hk0 := block_last w (.cells #[.int .i64 0, .int .i64 0, .int .i64 0, .int .i64 0, .slice none 0 0] 26)
  go_enter Tryz.func26, Tryz.ntmps26
  go_wp2_with fail
  refine (readHead_yes ao n c z 1 s r HH.out _ (hr.below q0) hs).mono ?_
  rintro e w1 ⟨ao1, cp1, rfl, r1, hb⟩
  have k1 := kept_block hk0 hb
  have b1 := gr_trans q0 hb
  have d1 := below_one w1 (.cells #[.int .i64 1, .string (byB s), .slice ao1 r.length cp1] 90)
  have kh := block_last w1 (.cells #[.int .i64 1, .string (byB s), .slice ao1 r.length cp1] 90)
  have k2 := kept_block k1 d1
  have b2 := gr_trans b1 d1
  have r2 := r1.below d1
  have hlt1 : w.heap.size < w1.heap.size := (Array.getElem?_eq_some_iff.1 k1).1
  clear q0 hk0 hb d1 r1
  go_wp2_with fail
  refine (implGetPdu_any _ _ _ r none HP.out _ r2 hrl).mono ?_
  rintro e w3 ⟨⟨k, id, a, b, ys, lo, cap, rfl, -, -⟩, hb3⟩
  have k3 := kept_block k2 hb3
  have B3 := hide (gr_trans b2 hb3)
  have d3 := below_one w3 (.cells #[.int .i64 k, .int .i64 id, .int .i64 a, .int .i64 b, .slice lo ys.length cap] 26)
  obtain ⟨⟨c0, c1, c2, c3, c4⟩, f0, f1, f2, f3, f4⟩ := cells5 (kept_block k3 d3)
  clear k1 k2 kh k3 d3 b1 b2 hb3 r2 HP HH hlt1
  go_wp2
  refine bodyPost_ret (v := .tuple #[.agg #[.int .i64 0, .int .i64 0, .int .i64 0, .int .i64 0, .slice none 0 0], .iface 53 (.agg #[.int .i64 1])]) (by simp [results, Tryz.results26, go_sem, *]) rfl ⟨rfl, ?_⟩
  exact below_set5 (gr_alloc B3.out _) (Nat.le_refl _) _ _ _ _ _

set_option maxRecDepth 100000 in
set_option maxHeartbeats 2000000 in
theorem readMsg_good (ao : Option Addr) (n c : Nat) (z : List Int) (s r : List Int) (h : headJ z = some (1, s, r)) (P : PD) (hP : getP r = some P) (w : World) (hr : Row w ao n c z) (hs : n ≤ 1048576) (hrl : r.length ≤ 1048576) :
    Calls Tryz.prog 26 #[.string (byB s), .slice ao n c] w fun e w' => (∃ k id a b ys lo cap, e = .returned (.tuple #[.agg #[.int .i64 k, .int .i64 id, .int .i64 a, .int .i64 b, .slice lo ys.length cap], .nilIface]) ∧ BOwns w' w.heap.size lo ys.length cap ys ∧ P = ⟨k, id, a, b, ys.map BI.d⟩) ∧ Below w.heap.size w w' := by
  have HH := hide h
  have HP := hide hP
  clear h hP
  have q0 := below_one w (.cells #[.int .i64 0, .int .i64 0, .int .i64 0, .int .i64 0, .slice none 0 0] 26)
  have hk0 := block_last w (.cells #[.int .i64 0, .int .i64 0, .int .i64 0, .int .i64 0, .slice none 0 0] 26)
  go_enter Tryz.func26, Tryz.ntmps26
  go_wp2_with fail
  refine (readHead_yes ao n c z 1 s r HH.out _ (hr.below q0) hs).mono ?_
  rintro e w1 ⟨ao1, cp1, rfl, r1, hb⟩
  have k1 := kept_block hk0 hb
  have b1 := gr_trans q0 hb
  have d1 := below_one w1 (.cells #[.int .i64 1, .string (byB s), .slice ao1 r.length cp1] 90)
  have kh := block_last w1 (.cells #[.int .i64 1, .string (byB s), .slice ao1 r.length cp1] 90)
  have k2 := kept_block k1 d1
  have b2 := gr_trans b1 d1
  have r2 := r1.below d1
  have hlt1 : w.heap.size < w1.heap.size := (Array.getElem?_eq_some_iff.1 k1).1
  clear q0 hk0 hb d1 r1
  go_wp2_with fail
  refine (implGetPdu_any _ _ _ r (some P) HP.out _ r2 hrl).mono ?_
  rintro e w3 ⟨⟨k, id, a, b, ys, lo, cap, rfl, hbo, hpd⟩, hb3⟩
  have k3 := kept_block k2 hb3
  have B3 := hide (gr_trans b2 hb3)
  obtain ⟨⟨c0, c1, c2, c3, c4⟩, f0, f1, f2, f3, f4⟩ := cells5 k3
  have hlt3 : w.heap.size < w3.heap.size := (Array.getElem?_eq_some_iff.1 k3).1
  have m2 : ¬ w3.heap.size = w.heap.size := by omega
  have m3 : ¬ w.heap.size = w3.heap.size := by omega
  have HBO := hide (hbo.lt (base' := w.heap.size + 1) (by simp; omega))
  have HPD := hide hpd
  clear k1 k2 kh k3 b1 b2 hb3 r2 HP HH hbo hpd
  go_wp2
  refine bodyPost_ret (v := .tuple #[.agg #[.int .i64 k, .int .i64 id, .int .i64 a, .int .i64 b, .slice lo ys.length cap], .nilIface]) (by simp [results, Tryz.results26, go_sem, *]) rfl ⟨⟨k, id, a, b, ys, lo, cap, rfl, ?_, HPD.out⟩, ?_⟩
  · refine BOwns.below ?_ (below_one _ _)
    refine BOwns.lt (base := w.heap.size + 1) ?_ (by omega)
    repeat (refine BOwns.set_below ?_ (by omega))
    exact HBO.out
  · exact gr_alloc (below_set5 B3.out (Nat.le_refl _) _ _ _ _ _) _

end Go.Proofs.YtamglfhnhjgdjaaGreatDoor
