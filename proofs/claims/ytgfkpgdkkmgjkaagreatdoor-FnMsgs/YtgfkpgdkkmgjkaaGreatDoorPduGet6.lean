/-
  GetPdu by its contract: what gives up within is caught by the deferred recover.
-/
import Derived.Test.YtgfkpgdkkmgjkaaGreatDoorPduGet5
import Derived.Defers
import Derived.Recover
namespace Go.Proofs.YtgfkpgdkkmgjkaaGreatDoor
open Go.RowKit

/-- The two results behind a panic that was caught. -/
def caught (w : World) (P Q : Nat) : World :=
  (((((w.setCell ⟨P, 0, none⟩ (.int .i64 0)).setCell ⟨P, 1, none⟩ (.int .i64 0)).setCell ⟨P, 2, none⟩ (.int .i64 0)).setCell ⟨P, 3, none⟩ (.int .i64 0)).setCell ⟨P, 4, none⟩ (.slice none 0 0)).setCell ⟨Q, 0, none⟩ (.bool false)

set_option maxRecDepth 100000 in
set_option maxHeartbeats 1000000 in
theorem catch_panicking (P Q : Nat) (hQP : ¬ Q = P) (k a1 a2 a3 : Int) (v4 : Value) (b : Bool) (u : TypeId) (pv : Value) (older : List PanicEntry) (w : World) (h1 : w.heap[P]? = some (.cells #[.int .i64 k, .int .i64 a1, .int .i64 a2, .int .i64 a3, v4] 26)) (h2 : w.heap[Q]? = some (.cells #[.bool b] 4)) :
    CallsD Tryz.prog 90 #[.pointer (some ⟨P, 0, none⟩), .pointer (some ⟨Q, 0, none⟩)] (.panicking ({ v := .iface u pv, recovered := false } :: older)) w fun e u' w' =>
      e = .returned (.tuple #[]) ∧ u' = .panicking ({ v := .iface u pv, recovered := true } :: older) ∧ w' = caught w P Q := by
  obtain ⟨⟨c0, c1, c2, c3, c4⟩, f0, f1, f2, f3, f4⟩ := cells5 h1
  have dq : (w.setCell ⟨P, 0, none⟩ (.int .i64 0)).cell? ⟨Q, 0, none⟩ = some (.bool b) := by simp only [World.cell?]; rw [kept_set h2 hQP]; rfl
  have e0 : w.frozen? ⟨Q, 0, none⟩ = false := by simp [World.frozen?, h2]
  refine callsD_of_wpS Tryz.func90 rfl fun c₀ cs hu => ?_
  apply wpS_seq
  apply wpS_region
  simp [wpOpsS, go_sem, recoverD, hu, Tryz.ntmps90, Exit.thenS]
  refine wpS_cond (t := true) (by simp [Act.eval, Array.replicate]) ?_
  simp only [if_true]
  apply wpS_region
  simp [wpOpsS, go_sem, c0, c1, c2, c3, c4, f0, f1, f2, f3, f4, dq, e0, bodyPostS, results, Tryz.results90, caught]

set_option maxRecDepth 100000 in
set_option maxHeartbeats 1000000 in
theorem catch_idle (P Q : Addr) (w : World) :
    CallsD Tryz.prog 90 #[.pointer (some P), .pointer (some Q)] .returning w fun e u' w' => e = .returned (.tuple #[]) ∧ u' = .returning ∧ w' = w := by
  refine callsD_of_wpS Tryz.func90 rfl fun c₀ cs hu => ?_
  apply wpS_seq
  apply wpS_region
  simp [wpOpsS, go_sem, recoverD, hu, Tryz.ntmps90, Exit.thenS]
  refine wpS_cond (t := false) (by simp [Act.eval, Array.replicate]) ?_
  simp only [Bool.false_eq_true, if_false]
  refine wpS_of_wp (wp_skip ?_)
  cases c₀
  simp_all [bodyPostS, results, Tryz.results90]

theorem laid_blocks {w : World} (P Q : Nat) (hQP : ¬ Q = P) {k a1 a2 a3 : Int} {v4 : Value} {b : Bool} (k' b1 b2 b3 : Int) (v' : Value) (b' : Bool) (h1 : w.heap[P]? = some (.cells #[.int .i64 k, .int .i64 a1, .int .i64 a2, .int .i64 a3, v4] 26)) (h2 : w.heap[Q]? = some (.cells #[.bool b] 4)) :
    ((((((w.setCell ⟨P, 0, none⟩ (.int .i64 k')).setCell ⟨P, 1, none⟩ (.int .i64 b1)).setCell ⟨P, 2, none⟩ (.int .i64 b2)).setCell ⟨P, 3, none⟩ (.int .i64 b3)).setCell ⟨P, 4, none⟩ v').setCell ⟨Q, 0, none⟩ (.bool b')).heap[P]? = some (.cells #[.int .i64 k', .int .i64 b1, .int .i64 b2, .int .i64 b3, v'] 26) ∧
    ((((((w.setCell ⟨P, 0, none⟩ (.int .i64 k')).setCell ⟨P, 1, none⟩ (.int .i64 b1)).setCell ⟨P, 2, none⟩ (.int .i64 b2)).setCell ⟨P, 3, none⟩ (.int .i64 b3)).setCell ⟨P, 4, none⟩ v').setCell ⟨Q, 0, none⟩ (.bool b')).heap[Q]? = some (.cells #[.bool b'] 4) := by
  have g0 := heap_setCell_same w P 0 _ _ (.int .i64 k') h1
  have g1 := heap_setCell_same _ P 1 _ _ (.int .i64 b1) g0
  have g2 := heap_setCell_same _ P 2 _ _ (.int .i64 b2) g1
  have g3 := heap_setCell_same _ P 3 _ _ (.int .i64 b3) g2
  have g4 := heap_setCell_same _ P 4 _ _ v' g3
  refine ⟨kept_set (by simpa using g4) (fun e => hQP e.symm), ?_⟩
  have h3 := kept_set (j := 4) (u := v') (kept_set (j := 3) (u := .int .i64 b3) (kept_set (j := 2) (u := .int .i64 b2) (kept_set (j := 1) (u := .int .i64 b1) (kept_set (j := 0) (u := .int .i64 k') h2 hQP) hQP) hQP) hQP) hQP
  have g5 := heap_setCell_same _ Q 0 _ _ (.bool b') h3
  simpa using g5

theorem caught_blocks {w : World} (P Q : Nat) (hQP : ¬ Q = P) {k a1 a2 a3 : Int} {v4 : Value} {b : Bool} (h1 : w.heap[P]? = some (.cells #[.int .i64 k, .int .i64 a1, .int .i64 a2, .int .i64 a3, v4] 26)) (h2 : w.heap[Q]? = some (.cells #[.bool b] 4)) :
    (caught w P Q).heap[P]? = some (.cells #[.int .i64 0, .int .i64 0, .int .i64 0, .int .i64 0, .slice none 0 0] 26) ∧ (caught w P Q).heap[Q]? = some (.cells #[.bool false] 4) := by
  unfold caught
  have g0 := heap_setCell_same w P 0 _ _ (.int .i64 0) h1
  have g1 := heap_setCell_same _ P 1 _ _ (.int .i64 0) g0
  have g2 := heap_setCell_same _ P 2 _ _ (.int .i64 0) g1
  have g3 := heap_setCell_same _ P 3 _ _ (.int .i64 0) g2
  have g4 := heap_setCell_same _ P 4 _ _ (.slice none 0 0) g3
  refine ⟨kept_set (by simpa using g4) (fun e => hQP e.symm), ?_⟩
  have h3 := kept_set (j := 4) (u := .slice none 0 0) (kept_set (j := 3) (u := .int .i64 0) (kept_set (j := 2) (u := .int .i64 0) (kept_set (j := 1) (u := .int .i64 0) (kept_set (j := 0) (u := .int .i64 0) h2 hQP) hQP) hQP) hQP) hQP
  have g5 := heap_setCell_same _ Q 0 _ _ (.bool false) h3
  simpa using g5

/-- What is answered: the request that was read, or an empty one. -/
def GotP (r : Option PD) (w : World) (e : Ending) (w' : World) : Prop :=
  ∃ k id a b ys lo cap, e = .returned (.tuple #[.agg #[.int .i64 k, .int .i64 id, .int .i64 a, .int .i64 b, .slice lo ys.length cap], .bool r.isSome]) ∧ BOwns w' w.heap.size lo ys.length cap ys ∧ r.getD ⟨0, 0, 0, 0, []⟩ = ⟨k, id, a, b, ys.map BI.d⟩

set_option maxRecDepth 100000 in
set_option maxHeartbeats 2000000 in
theorem implGetPdu_any (ao : Option Addr) (n c : Nat) (z : List Int) (r : Option PD) (hr0 : getP z = r) (w : World) (hr : Row w ao n c z) (hs : n ≤ 1048576) :
    Calls Tryz.prog 62 #[.slice ao n c] w fun e w' => GotP r w e w' ∧ Below w.heap.size w w' := by
  have hmf : ∀ (fn : Fn) (first cap : Array Value) (w : World), (Instr.makeFunc fn first cap).run Tryz.prog w = .ok (.func fn first cap) w := fun _ _ _ _ => rfl
  have q0 := below_two w (.cells #[.int .i64 0, .int .i64 0, .int .i64 0, .int .i64 0, .slice none 0 0] 26) (.cells #[.bool false] 4)
  have hk1 : ((w.alloc (.cells #[.int .i64 0, .int .i64 0, .int .i64 0, .int .i64 0, .slice none 0 0] 26)).alloc (.cells #[.bool false] 4)).heap[w.heap.size]? = some (.cells #[.int .i64 0, .int .i64 0, .int .i64 0, .int .i64 0, .slice none 0 0] 26) := kept_block (block_last w _) (below_one _ _)
  have hk2 : ((w.alloc (.cells #[.int .i64 0, .int .i64 0, .int .i64 0, .int .i64 0, .slice none 0 0] 26)).alloc (.cells #[.bool false] 4)).heap[w.heap.size + 1]? = some (.cells #[.bool false] 4) := by have := block_last (w.alloc (.cells #[.int .i64 0, .int .i64 0, .int .i64 0, .int .i64 0, .slice none 0 0] 26)) (.cells #[.bool false] 4); simpa using this
  have HK1 := hide hk1
  have HK2 := hide hk2
  have hrb := hr.below q0
  clear hk1 hk2
  go_enter_defers Tryz.func62, Tryz.ntmps62
  go_wp2_with fail
  generalize hwb : ((w.alloc (.cells #[.int .i64 0, .int .i64 0, .int .i64 0, .int .i64 0, .slice none 0 0] 26)).alloc (.cells #[.bool false] 4)) = wb at *
  have hwbs : wb.heap.size = w.heap.size + 2 := by rw [← hwb]; simp
  have HWBS := hide hwbs
  clear hwb hwbs
  refine (readPdu_any ao n c z r hr0 _ hrb hs).mono ?_
  rintro e w1 ⟨⟨hn, S, rfl⟩ | ⟨k, id, a, b, ys, lo, cap, hsome, rfl, hbo⟩, hb1⟩
  · have k1 := kept_block HK1.out hb1
    have k2 := kept_block HK2.out hb1
    have b1 := q0.trans (hb1.mono q0.size)
    have K1 := hide k1
    have K2 := hide k2
    clear k1 k2
    go_wp2
    refine leaves_cons (f := 90) (args := #[.pointer (some ⟨w.heap.size, 0, none⟩), .pointer (some ⟨w.heap.size + 1, 0, none⟩)]) (by simp) (by simp [go_sem]) ?_
    refine (catch_panicking w.heap.size (w.heap.size + 1) (by omega) 0 0 0 0 (.slice none 0 0) false 9 _ [] _ K1.out K2.out).mono ?_
    rintro e u' w'' ⟨rfl, rfl, rfl⟩
    have k3 := caught_blocks w.heap.size (w.heap.size + 1) (by omega) K1.out K2.out
    obtain ⟨⟨c0, c1, c2, c3, c4⟩, -⟩ := cells5 k3.1
    have d0 : (caught w1 w.heap.size (w.heap.size + 1)).cell? ⟨w.heap.size + 1, 0, none⟩ = some (.bool false) := by simp [World.cell?, k3.2]
    have b2 : Below w.heap.size w (caught w1 w.heap.size (w.heap.size + 1)) := by
      unfold caught
      refine below_set ?_ (by omega) _ _
      repeat (refine below_set ?_ (Nat.le_refl _) _ _)
      exact b1
    have hg : GotP r w (.returned (.tuple #[.agg #[.int .i64 0, .int .i64 0, .int .i64 0, .int .i64 0, .slice none 0 0], .bool false])) (caught w1 w.heap.size (w.heap.size + 1)) := by
      rw [hn]
      exact ⟨0, 0, 0, 0, [], none, 0, rfl, bowns_nil _ _, rfl⟩
    have HG := hide hg
    have HB2 := hide b2
    clear hg b2 k3
    generalize caught w1 w.heap.size (w.heap.size + 1) = w2 at *
    simp [Leaves, settle, results, Tryz.results62, go_sem, c0, c1, c2, c3, c4, d0]
    exact ⟨HG.out, HB2.out⟩
  · have k1 := kept_block HK1.out hb1
    have k2 := kept_block HK2.out hb1
    obtain ⟨⟨c0, c1, c2, c3, c4⟩, f0, f1, f2, f3, f4⟩ := cells5 k1
    have d0 : w1.cell? ⟨w.heap.size + 1, 0, none⟩ = some (.bool false) := by simp [World.cell?, k2]
    have e0 : w1.frozen? ⟨w.heap.size + 1, 0, none⟩ = false := by simp [World.frozen?, k2]
    have b1 := q0.trans (hb1.mono q0.size)
    have HB1 := hide b1
    have HBO := hide (hbo.lt (base' := w.heap.size + 2) (by have := HWBS.out; omega))
    have HS := hide hsome
    have k3 := laid_blocks w.heap.size (w.heap.size + 1) (by omega) k id a b (.slice lo ys.length cap) true k1 k2
    have hbo2 : BOwns ((((((w1.setCell ⟨w.heap.size, 0, none⟩ (.int .i64 k)).setCell ⟨w.heap.size, 1, none⟩ (.int .i64 id)).setCell ⟨w.heap.size, 2, none⟩ (.int .i64 a)).setCell ⟨w.heap.size, 3, none⟩ (.int .i64 b)).setCell ⟨w.heap.size, 4, none⟩ (.slice lo ys.length cap)).setCell ⟨w.heap.size + 1, 0, none⟩ (.bool true)) (w.heap.size + 2) lo ys.length cap ys := by
      repeat (refine BOwns.set_below ?_ (by omega))
      exact HBO.out
    have b2 : Below w.heap.size w ((((((w1.setCell ⟨w.heap.size, 0, none⟩ (.int .i64 k)).setCell ⟨w.heap.size, 1, none⟩ (.int .i64 id)).setCell ⟨w.heap.size, 2, none⟩ (.int .i64 a)).setCell ⟨w.heap.size, 3, none⟩ (.int .i64 b)).setCell ⟨w.heap.size, 4, none⟩ (.slice lo ys.length cap)).setCell ⟨w.heap.size + 1, 0, none⟩ (.bool true)) := by
      refine below_set ?_ (by omega) _ _
      repeat (refine below_set ?_ (Nat.le_refl _) _ _)
      exact HB1.out
    have HK3 := hide k3
    have HBO2 := hide hbo2
    have HB2 := hide b2
    clear k1 k2 b1 hb1 hbo hsome k3 hbo2 b2 HBO HB1
    go_wp2
    generalize ((((((w1.setCell ⟨w.heap.size, 0, none⟩ (.int .i64 k)).setCell ⟨w.heap.size, 1, none⟩ (.int .i64 id)).setCell ⟨w.heap.size, 2, none⟩ (.int .i64 a)).setCell ⟨w.heap.size, 3, none⟩ (.int .i64 b)).setCell ⟨w.heap.size, 4, none⟩ (.slice lo ys.length cap)).setCell ⟨w.heap.size + 1, 0, none⟩ (.bool true)) = w2 at *
    refine leaves_cons (f := 90) (args := #[.pointer (some ⟨w.heap.size, 0, none⟩), .pointer (some ⟨w.heap.size + 1, 0, none⟩)]) (by simp) (by simp [go_sem]) ?_
    refine (catch_idle ⟨w.heap.size, 0, none⟩ ⟨w.heap.size + 1, 0, none⟩ _).mono ?_
    rintro e u' w'' ⟨rfl, rfl, rfl⟩
    clear c0 c1 c2 c3 c4 f0 f1 f2 f3 f4 d0 e0
    obtain ⟨⟨c0, c1, c2, c3, c4⟩, -⟩ := cells5 HK3.out.1
    have d0 : w''.cell? ⟨w.heap.size + 1, 0, none⟩ = some (.bool true) := by simp [World.cell?, HK3.out.2]
    have hg : GotP r w (.returned (.tuple #[.agg #[.int .i64 k, .int .i64 id, .int .i64 a, .int .i64 b, .slice lo ys.length cap], .bool true])) w'' := by
      rw [HS.out]
      exact ⟨k, id, a, b, ys, lo, cap, rfl, HBO2.out.lt (by omega), rfl⟩
    have HG := hide hg
    clear hg
    simp [Leaves, settle, results, Tryz.results62, go_sem, c0, c1, c2, c3, c4, d0]
    exact ⟨HG.out, HB2.out⟩

end Go.Proofs.YtgfkpgdkkmgjkaaGreatDoor
