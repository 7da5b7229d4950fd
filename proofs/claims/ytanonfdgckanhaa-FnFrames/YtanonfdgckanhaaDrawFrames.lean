/-
  What is drawn for frames: a frame; the bytes of a frame, bent; a frame and a tag.
-/
import Derived.Test.YtanonfdgckanhaaDrawFrame
import Derived.Test.YtanonfdgckanhaaDrawc
import Derived.Test.YtanonfdgckanhaaFrameSpecPut
namespace Go.Proofs.Ytanonfdgckanhaa
open Go.RowKit

theorem putF_short (K N S : Int) (z : List Int) : (putF K N S z).length ≤ 200 := by
  unfold putF
  split
  · rename_i k
    obtain ⟨_, _, _, k4⟩ := okF_parts k
    rw [bodyF_eq (by omega)]
    have h1 := putInt_length K
    have h2 := putInt_length N
    have h3 := putInt_length S
    have e : ∀ (t : Int) (b : List Int), (tlvB t b).length ≤ b.length + 3 := by
      intro t b
      unfold tlvB
      have := lenB_le b.length
      simp
      omega
    have e1 := e 1 (putInt K)
    have e2 := e 1 (putInt N)
    have e3 := e 2 (putInt S)
    have e4 := e 3 z
    unfold tagB
    split <;> simp <;> omega
  · simp

theorem putF_byte (K N S : Int) (z : List Int) (hz : Byt z) : Byt (putF K N S z) := by
  unfold putF bodyF headF
  split
  · split
    · exact putTlv_byte _ _ _ (putTlv_byte _ _ _ (putTlv_byte _ _ _ byte_nil (putInt_byte _)) (putInt_byte _)) hz
    · exact putTlv_byte _ _ _ (putTlv_byte _ _ _ (putTlv_byte _ _ _ (putTlv_byte _ _ _ byte_nil (putInt_byte _)) (putInt_byte _)) (putInt_byte _)) hz
  · exact byte_nil

set_option maxRecDepth 100000 in
set_option maxHeartbeats 1000000 in
theorem drawPutFrame_any (a0 : Option Addr) (l0 c0 : Nat) (z0 : List Int) (w : World) (h0 : Row w a0 l0 c0 z0) (hs : l0 ≤ 1048576) :
    Calls Try.prog 10 #[.slice a0 l0 c0] w fun e w' => ∃ (K N S : Int) (ao : Option Addr) (n cap : Nat) (zs : List Int), e = .returned (.agg #[.int .i64 K, .int .i64 N, .int .i64 S, .slice ao n cap]) ∧ n ≤ 30 ∧ Row w' ao n cap zs ∧ Below w.heap.size w w' := by
  go_enter Try.func10, Try.ntmps10
  go_wp2_with fail
  refine (new_any a0 l0 c0 z0 _ (h0.below (below_one w (.cells #[.int .i64 0, .int .i64 0, .int .i64 0, .slice none 0 0] 25))) hs).mono ?_
  rintro e w1 ⟨rfl, cur1, hb1⟩
  have kz := kept_block (block_last w (.cells #[.int .i64 0, .int .i64 0, .int .i64 0, .slice none 0 0] 25)) hb1
  have q1 : Below w.heap.size w w1 := (below_one w (.cells #[.int .i64 0, .int .i64 0, .int .i64 0, .slice none 0 0] 25)).trans (hb1.mono (below_one w (.cells #[.int .i64 0, .int .i64 0, .int .i64 0, .slice none 0 0] 25)).size)
  have hlt := cur1.lt
  rw [show (w.alloc (.cells #[.int .i64 0, .int .i64 0, .int .i64 0, .slice none 0 0] 25)).heap.size = w.heap.size + 1 by simp] at cur1 hlt ⊢
  clear hb1
  go_wp2_with fail
  refine (l6Any_any _ a0 l0 c0 z0 _ cur1).mono ?_
  rintro e w3 ⟨K, N, S, ao, n, cap, zs, rfl, hn, hz, hby, how3, went3⟩
  have kz := kept_grown kz went3.grown (fun k hk => by cases hk; omega)
  have q3 : Below w.heap.size w w3 := q1.trans (below_of_grown went3.grown (by omega) (Nat.le_of_lt hlt))
  obtain ⟨⟨x0, x1, x2, x3⟩, f0, f1, f2, f3⟩ := cells4 kz
  have HO3 := hide how3
  clear kz how3 went3 q1 cur1
  go_wp2
  have o3 := own_set4 HO3.out (g := w.heap.size) (by omega) (.int .i64 K) (.int .i64 N) (.int .i64 S) (.slice ao n cap)
  exact bodyPost_ret (v := .agg #[.int .i64 K, .int .i64 N, .int .i64 S, .slice ao n cap]) (by simp [results, Try.results10, go_sem, *]) rfl ⟨K, N, S, ao, n, cap, zs, rfl, hn, row_own o3 hby, below_set4 q3 (Nat.le_refl _) _ _ _ _⟩

set_option maxRecDepth 100000 in
set_option maxHeartbeats 1000000 in
theorem drawTagged_any (a0 : Option Addr) (l0 c0 : Nat) (z0 : List Int) (w : World) (h0 : Row w a0 l0 c0 z0) (hs : l0 ≤ 1048576) :
    Calls Try.prog 15 #[.slice a0 l0 c0] w fun e w' => ∃ (K N S : Int) (ao : Option Addr) (n cap : Nat) (zs : List Int) (g : Int), e = .returned (.tuple #[.agg #[.int .i64 K, .int .i64 N, .int .i64 S, .slice ao n cap], .int .i64 g]) ∧ n ≤ 30 ∧ Row w' ao n cap zs ∧ Below w.heap.size w w' := by
  go_enter Try.func15, Try.ntmps15
  go_wp2_with fail
  refine (new_any a0 l0 c0 z0 _ (h0.below (below_one w (.cells #[.int .i64 0, .int .i64 0, .int .i64 0, .slice none 0 0] 25))) hs).mono ?_
  rintro e w1 ⟨rfl, cur1, hb1⟩
  have kz := kept_block (block_last w (.cells #[.int .i64 0, .int .i64 0, .int .i64 0, .slice none 0 0] 25)) hb1
  have q1 : Below w.heap.size w w1 := (below_one w (.cells #[.int .i64 0, .int .i64 0, .int .i64 0, .slice none 0 0] 25)).trans (hb1.mono (below_one w (.cells #[.int .i64 0, .int .i64 0, .int .i64 0, .slice none 0 0] 25)).size)
  have hlt := cur1.lt
  rw [show (w.alloc (.cells #[.int .i64 0, .int .i64 0, .int .i64 0, .slice none 0 0] 25)).heap.size = w.heap.size + 1 by simp] at cur1 hlt ⊢
  clear hb1
  go_wp2_with fail
  refine (l6Any_any _ a0 l0 c0 z0 _ cur1).mono ?_
  rintro e w3 ⟨K, N, S, ao, n, cap, zs, rfl, hn, hz, hby, how3, went3⟩
  have kz := kept_grown kz went3.grown (fun k hk => by cases hk; omega)
  clear cur1
  go_wp2_with fail
  refine (pick_any _ a0 l0 c0 z0 [0, 1, 5, -1] _ _ w3 went3.cur rfl rfl (by simp) (by simp)).mono ?_
  rintro e w4 ⟨g, -, rfl, went4⟩
  have kz := kept_grown kz went4.grown (fun k hk => by cases hk; omega)
  have how4 := went4.own how3 (by omega)
  have q4 : Below w.heap.size w w4 := q1.trans (below_of_grown (went3.trans went4).grown (by omega) (Nat.le_of_lt hlt))
  obtain ⟨⟨x0, x1, x2, x3⟩, f0, f1, f2, f3⟩ := cells4 kz
  have HO3 := hide how4
  clear kz how3 how4 went3 went4 q1
  go_wp2
  have o3 := own_set4 HO3.out (g := w.heap.size) (by omega) (.int .i64 K) (.int .i64 N) (.int .i64 S) (.slice ao n cap)
  exact bodyPost_ret (v := .tuple #[.agg #[.int .i64 K, .int .i64 N, .int .i64 S, .slice ao n cap], .int .i64 g]) (by simp [results, Try.results15, go_sem, *]) rfl ⟨K, N, S, ao, n, cap, zs, g, rfl, hn, row_own o3 hby, below_set4 q4 (Nat.le_refl _) _ _ _ _⟩

set_option maxRecDepth 100000 in
set_option maxHeartbeats 1000000 in
theorem drawGetFrame_any (a0 : Option Addr) (l0 c0 : Nat) (z0 : List Int) (w : World) (h0 : Row w a0 l0 c0 z0) (hs : l0 ≤ 1048576) :
    Calls Try.prog 12 #[.slice a0 l0 c0] w fun e w' => ∃ ao1 n1 cp1 zs1, e = .returned (.slice ao1 n1 cp1) ∧ n1 ≤ 2001 ∧ Row w' ao1 n1 cp1 zs1 ∧ Below w.heap.size w w' := by
  go_enter Try.func12, Try.ntmps12
  go_wp2_with fail
  refine (new_any a0 l0 c0 z0 _ h0 hs).mono ?_
  rintro e w1 ⟨rfl, cur1, hb1⟩
  have hlt := cur1.lt
  go_wp2_with fail
  refine (l6Draw_any _ a0 l0 c0 z0 _ cur1).mono ?_
  rintro e w2 ⟨K, N, S, ao, n, cap, zs, rfl, hn, hz, hby, how2, wn2⟩
  have m2 := wn2.grown.size
  have hpl := putF_short K N S zs
  have hpb := putF_byte K N S zs hby
  generalize hP : putF K N S zs = P at hpl hpb
  have HP := hide hP
  clear hP
  go_wp2_with fail
  refine (specPutFrame_made K N S _ _ _ zs P HP.out _ (row_own how2 hby) (by omega)).mono ?_
  rintro e w3 ⟨ao3, cp3, rfl, ho3, -, hb3⟩
  have wn3 := wn2.made hb3
  have m3 := hb3.size
  clear wn2 hb3 how2
  go_wp2_with fail
  refine (bend_any _ a0 l0 c0 z0 w2.heap.size _ _ _ P _ wn3.cur (by omega) m3 ho3 hpb (by omega)).mono ?_
  rintro e w4 ⟨ao4, n4, cp4, zs4, rfl, hn4, hby4, hz4, ho4, cur4, low4⟩
  have q3 := hb1.trans (below_of_grown wn3.grown (Nat.le_refl _) (Nat.le_of_lt hlt))
  have q4 := q3.trans low4
  go_wp2
  go_ret
  exact ⟨ao4, n4, cp4, zs4, rfl, hn4, row_own ho4 hby4, q4⟩

end Go.Proofs.Ytanonfdgckanhaa
