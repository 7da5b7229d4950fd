/-
  GetMsg of the program by its contract.
-/
import Derived.Test.YtamglfhnhjgdjaaGreatDoorMsgRead
namespace Go.Proofs.YtamglfhnhjgdjaaGreatDoor
open Go.RowKit

/-- errors.As finds an error of the program's kind: its code stands there, and no other block turns. -/
theorem as_found (n m : Int) (T : Nat) (w : World) (hg : Hnd w) (hT : w.heap[T]? = some (.cells #[.int .i64 m] 53)) :
    Calls Tryz.prog 27 #[.iface 53 (.agg #[.int .i64 n]), .iface 55 (.pointer (some ⟨T, 0, none⟩))] w fun e w' => e = .returned (.bool true) ∧
      w'.heap[T]? = some (.cells #[.int .i64 n] 53) ∧ (∀ i o, ¬ i = T → w.heap[i]? = some o → w'.heap[i]? = some o) ∧ Below T w w' := by
  have hlt : T < w.heap.size := (Array.getElem?_eq_some_iff.1 hT).1
  refine (as_hit n ⟨T, 0, none⟩ (.int .i64 m) w hg (by simp [World.cell?, hT]) (by simp [World.frozen?, hT])).mono ?_
  rintro e w' ⟨rfl, rfl⟩
  have hb := gr_alloc (gr_alloc (gr_alloc (below_one w (.cells #[.pointer (some ⟨T, 0, none⟩)] 55)) (.cells #[.pointer (some ⟨1, 55, none⟩), .pointer (some ⟨w.heap.size, 0, none⟩), .int .u64 150] 96)) (.cells #[.pointer (some ⟨1, 55, none⟩), .pointer (some ⟨w.heap.size, 0, none⟩), .int .u64 150] 96)) (.cells #[.int .i64 n] 53)
  refine ⟨rfl, ?_, ?_, ?_⟩
  · have := heap_setCell_same _ T 0 _ _ (.int .i64 n) (kept_block hT hb)
    simpa using this
  · intro i o hi ho
    exact kept_set (kept_block ho hb) hi
  · exact below_set (hb.mono (by omega)) (Nat.le_refl _) 0 _

set_option maxRecDepth 100000 in
set_option maxHeartbeats 2000000 in
theorem getMsg_bad (W : ByteArray) (ao : Option Addr) (n c : Nat) (code : Int) (w : World)
    (hR : ∀ w0, Below w.heap.size w w0 → Calls Tryz.prog 26 #[.string W, .slice ao n c] w0 fun e w' => e = .returned (.tuple #[.agg #[.int .i64 0, .int .i64 0, .int .i64 0, .int .i64 0, .slice none 0 0], .iface 53 (.agg #[.int .i64 code])]) ∧ Below w0.heap.size w0 w') (hg : Hnd w) :
    Calls Tryz.prog 10 #[.string W, .slice ao n c] w fun e w' => GotM (code, none) w e w' ∧ Below w.heap.size w w' := by
  have q0 := below_one w (.cells #[.int .i64 0, .int .i64 0, .int .i64 0, .int .i64 0, .slice none 0 0] 26)
  have hk0 := block_last w (.cells #[.int .i64 0, .int .i64 0, .int .i64 0, .int .i64 0, .slice none 0 0] 26)
  have HC := hide (hR _ q0)
  clear hR
  go_enter Tryz.func10, Tryz.ntmps10
  go_wp2_with fail
  refine HC.out.mono ?_
  rintro e w1 ⟨rfl, hb⟩
  have k1 := kept_block hk0 hb
  have b1 := gr_trans q0 hb
  have d2 := below_two w1 (.cells #[.int .i64 0, .int .i64 0, .int .i64 0, .int .i64 0, .slice none 0 0] 26) (.cells #[.int .i64 0] 53)
  have k2 := kept_block k1 d2
  have t2 : ((w1.alloc (.cells #[.int .i64 0, .int .i64 0, .int .i64 0, .int .i64 0, .slice none 0 0] 26)).alloc (.cells #[.int .i64 0] 53)).heap[w1.heap.size + 1]? = some (.cells #[.int .i64 0] 53) := by have := block_last (w1.alloc (.cells #[.int .i64 0, .int .i64 0, .int .i64 0, .int .i64 0, .slice none 0 0] 26)) (.cells #[.int .i64 0] 53); simpa using this
  have b2 := gr_trans b1 d2
  have g2 := hg.below b2
  have hlt1 : w.heap.size < w1.heap.size := (Array.getElem?_eq_some_iff.1 k1).1
  clear q0 hk0 hb k1 d2 HC
  go_wp2_with fail
  generalize ((w1.alloc (.cells #[.int .i64 0, .int .i64 0, .int .i64 0, .int .i64 0, .slice none 0 0] 26)).alloc (.cells #[.int .i64 0] 53)) = w2 at *
  refine (as_found code 0 (w1.heap.size + 1) w2 g2 t2).mono ?_
  rintro e w3 ⟨rfl, t3, h3, hb3⟩
  have k3 := h3 w.heap.size _ (by omega) k2
  have b3 := b2.trans (hb3.mono (by omega))
  have B3 := hide b3
  have u3 : w3.cell? ⟨w1.heap.size + 1, 0, none⟩ = some (.int .i64 code) := by simp [World.cell?, t3]
  obtain ⟨⟨c0, c1, c2, c3, c4⟩, f0, f1, f2, f3, f4⟩ := cells5 k3
  clear t2 g2 b1 b2 k2 h3 hb3 k3 t3 b3
  go_wp2_with fail
  go_region
  all_goals
    go_wp2
    refine bodyPost_ret (v := .tuple #[.agg #[.int .i64 0, .int .i64 0, .int .i64 0, .int .i64 0, .slice none 0 0], .int .i64 code]) (by simp [results, Tryz.results10, go_sem, *]) rfl ⟨⟨0, 0, 0, 0, [], none, 0, rfl, bowns_nil _ _, rfl⟩, ?_⟩
    repeat (first | refine Below.drew ?_ | refine below_set ?_ (Nat.le_refl _) _ _)
    exact B3.out

set_option maxRecDepth 100000 in
set_option maxHeartbeats 2000000 in
theorem getMsg_good (W : ByteArray) (ao : Option Addr) (n c : Nat) (P : PD) (w : World)
    (hR : ∀ w0, Below w.heap.size w w0 → Calls Tryz.prog 26 #[.string W, .slice ao n c] w0 fun e w' => (∃ k id a b ys lo cap, e = .returned (.tuple #[.agg #[.int .i64 k, .int .i64 id, .int .i64 a, .int .i64 b, .slice lo ys.length cap], .nilIface]) ∧ BOwns w' w0.heap.size lo ys.length cap ys ∧ P = ⟨k, id, a, b, ys.map BI.d⟩) ∧ Below w0.heap.size w0 w') :
    Calls Tryz.prog 10 #[.string W, .slice ao n c] w fun e w' => GotM (0, some P) w e w' ∧ Below w.heap.size w w' := by
  have q0 := below_one w (.cells #[.int .i64 0, .int .i64 0, .int .i64 0, .int .i64 0, .slice none 0 0] 26)
  have hk0 := block_last w (.cells #[.int .i64 0, .int .i64 0, .int .i64 0, .int .i64 0, .slice none 0 0] 26)
  have HC := hide (hR _ q0)
  clear hR
  go_enter Tryz.func10, Tryz.ntmps10
  go_wp2_with fail
  refine HC.out.mono ?_
  rintro e w1 ⟨⟨k, id, a, b, ys, lo, cap, rfl, hbo, hpd⟩, hb⟩
  have k1 := kept_block hk0 hb
  have b1 := gr_trans q0 hb
  have d2 := below_two w1 (.cells #[.int .i64 k, .int .i64 id, .int .i64 a, .int .i64 b, .slice lo ys.length cap] 26) (.cells #[.int .i64 0] 53)
  have k2 := kept_block k1 d2
  have p2 : ((w1.alloc (.cells #[.int .i64 k, .int .i64 id, .int .i64 a, .int .i64 b, .slice lo ys.length cap] 26)).alloc (.cells #[.int .i64 0] 53)).heap[w1.heap.size]? = some (.cells #[.int .i64 k, .int .i64 id, .int .i64 a, .int .i64 b, .slice lo ys.length cap] 26) := kept_block (block_last w1 (.cells #[.int .i64 k, .int .i64 id, .int .i64 a, .int .i64 b, .slice lo ys.length cap] 26)) (below_one _ _)
  have b2 := gr_trans b1 d2
  have hlt1 : w.heap.size < w1.heap.size := (Array.getElem?_eq_some_iff.1 k1).1
  have HBO := hide ((hbo.lt (base' := w.heap.size + 1) (by simp)).below d2)
  have HPD := hide hpd
  have B2 := hide b2
  clear q0 hk0 hb k1 d2 HC b1 b2 hbo hpd
  go_wp2_with fail
  generalize ((w1.alloc (.cells #[.int .i64 k, .int .i64 id, .int .i64 a, .int .i64 b, .slice lo ys.length cap] 26)).alloc (.cells #[.int .i64 0] 53)) = w2 at *
  refine (as_nil _ w2).mono ?_
  rintro e w3 ⟨rfl, rfl⟩
  obtain ⟨⟨c0, c1, c2, c3, c4⟩, f0, f1, f2, f3, f4⟩ := cells5 k2
  obtain ⟨⟨p0, p1, p2', p3, p4⟩, -⟩ := cells5 p2
  have m2 : ¬ w1.heap.size = w.heap.size := by omega
  have m3 : ¬ w.heap.size = w1.heap.size := by omega
  clear k2 p2
  go_wp2
  refine bodyPost_ret (v := .tuple #[.agg #[.int .i64 k, .int .i64 id, .int .i64 a, .int .i64 b, .slice lo ys.length cap], .int .i64 0]) (by simp [results, Tryz.results10, go_sem, *]) rfl ⟨⟨k, id, a, b, ys, lo, cap, rfl, ?_, by rw [← HPD.out]; rfl⟩, ?_⟩
  · refine BOwns.lt (base := w.heap.size + 1) ?_ (by omega)
    repeat (refine BOwns.set_below ?_ (by omega))
    exact HBO.out
  · repeat (refine below_set ?_ (Nat.le_refl _) _ _)
    exact B2.out

theorem implGetMsg_any (W : ByteArray) (ao : Option Addr) (n c : Nat) (z : List Int) (g : Int × Option PD) (hG : getJ (strB W) z = g) (w : World) (hr : Row w ao n c z) (hs : n ≤ 1048576) (hg : Hnd w) :
    Calls Tryz.prog 10 #[.string W, .slice ao n c] w fun e w' => GotM g w e w' ∧ Below w.heap.size w w' := by
  subst hG
  have hz := hr.size
  unfold getJ
  rcases hh : headJ z with _ | ⟨m, s, r⟩
  · exact getMsg_bad W ao n c 1 w (fun w0 h0 => readMsg_none W ao n c z hh w0 (hr.below h0) hs) hg
  · obtain ⟨hrl, hsb⟩ := headJ_small hh hr.byte
    have hrl' : r.length ≤ 1048576 := by omega
    simp only
    by_cases hm : m = 1
    · subst hm
      rw [if_pos rfl]
      by_cases hw : s = strB W
      · have hW : W = byB s := by
          refine strB_eq ?_
          rw [strB_byB hsb, hw]
        rw [if_pos hw]
        subst hW
        rcases hp : getP r with _ | P
        · exact getMsg_bad _ ao n c 1 w (fun w0 h0 => readMsg_no ao n c z s r hh hp w0 (hr.below h0) hs hrl') hg
        · exact getMsg_good _ ao n c P w (fun w0 h0 => readMsg_good ao n c z s r hh P hp w0 (hr.below h0) hs hrl')
      · rw [if_neg hw]
        have hne : ¬ byB s = W := by
          intro h
          apply hw
          rw [← h, strB_byB hsb]
        exact getMsg_bad W ao n c 3 w (fun w0 h0 => readMsg_code W ao n c z 1 s r hh 3 (.inr ⟨rfl, hne, rfl⟩) w0 (hr.below h0) hs) hg
    · rw [if_neg hm]
      exact getMsg_bad W ao n c 2 w (fun w0 h0 => readMsg_code W ao n c z m s r hh 2 (.inl ⟨hm, rfl⟩) w0 (hr.below h0) hs) hg

end Go.Proofs.YtamglfhnhjgdjaaGreatDoor
