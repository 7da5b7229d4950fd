/-
  The bytes of a value, by the contract of the specification.
-/
import Derived.Test.YtamglfhnhjgdjaaValPut
namespace Go.Proofs.Ytamglfhnhjgdjaa
open Go.RowKit

set_option maxRecDepth 100000 in
set_option maxHeartbeats 1000000 in
theorem specPutVal_no (a1 : Option Addr) (l1 c1 : Nat) (z1 : List Int) (K : Int) (N : Int) (S : ByteArray) (a2 : Option Addr) (l2 c2 : Nat) (z2 : List Int) (w : World) (h1 : Row w a1 l1 c1 z1) (_hS : S.size ≤ maxLen) (h2 : IRow w a2 l2 c2 z2) (hs : l1 ≤ 8000000) (hk : okV K N S z2 = false) :
    Calls Try.prog 66 #[.slice a1 l1 c1, .agg #[.int .i64 K, .int .i64 N, .string S, .slice a2 l2 c2]] w fun e w' => ∃ ao n cap, e = .returned (.slice ao n cap) ∧
      w'.ownsRow w.heap.size 5 1 (.slice ao n cap) n (cB (putV z1 K N S z2)) ∧ Below w.heap.size w w' := by
  have hP : putV z1 K N S z2 = z1 := by simp [putV, hk]
  rw [hP]
  clear hP
  have HK := hide hk
  clear hk
  go_enter Try.func66, Try.ntmps66
  go_wp2_with fail
  refine (specValOk_any K N S a2 l2 c2 z2 _ (h2.below (below_one _ _))).mono ?_
  rintro e w1 ⟨rfl, hb⟩
  rw [HK.out]
  have b1 : Below w.heap.size w w1 := (below_one w _).trans (hb.mono (below_one w _).size)
  clear hb
  go_wp2_with (at_builtin; refine wpList_append_row _ rfl _ _ 37 rfl w1.heap.size Try.underlying37 Try.infoU8 _ 0 [] rfl (World.ownsRow_lit w1 #[] 0 (Nat.le_refl _) (Nat.zero_le _) rfl) (byte_nil) a1 l1 c1 z1 rfl ((h1.below b1).below (below_one _ _)) (by omega) (by simp) ?_)
  intro ao1 cp1 w2 how2 row2 hb2
  have hb2' : Below w1.heap.size w1 w2 := (below_one _ _).trans hb2
  go_wp2
  go_ret
  exact ⟨_, _, _, rfl, by simpa using own_lt how2 b1.size, b1.trans (hb2'.mono b1.size)⟩

set_option maxRecDepth 100000 in
set_option maxHeartbeats 1000000 in
theorem specPutVal_int (a1 : Option Addr) (l1 c1 : Nat) (z1 : List Int) (N : Int) (S : ByteArray) (a2 : Option Addr) (l2 c2 : Nat) (z2 : List Int) (w : World) (h1 : Row w a1 l1 c1 z1) (_hS : S.size ≤ maxLen) (h2 : IRow w a2 l2 c2 z2) (hs : l1 ≤ 8000000) (hk : okV 2 N S z2 = true) :
    Calls Try.prog 66 #[.slice a1 l1 c1, .agg #[.int .i64 2, .int .i64 N, .string S, .slice a2 l2 c2]] w fun e w' => ∃ ao n cap, e = .returned (.slice ao n cap) ∧
      w'.ownsRow w.heap.size 5 1 (.slice ao n cap) n (cB (putV z1 2 N S z2)) ∧ Below w.heap.size w w' := by
  have hP : putV z1 2 N S z2 = putTlv z1 2 (putInt N) := by simp [putV, hk, bodyV]
  have hsm := putInt_length N
  rw [hP]
  clear hP
  have HK := hide hk
  clear hk
  go_enter Try.func66, Try.ntmps66
  go_wp2_with fail
  refine (specValOk_any 2 N S a2 l2 c2 z2 _ (h2.below (below_one _ _))).mono ?_
  rintro e w1 ⟨rfl, hb⟩
  rw [HK.out]
  have b1 : Below w.heap.size w w1 := (below_one w _).trans (hb.mono (below_one w _).size)
  have HKB := kept_block (block_last w _) hb
  obtain ⟨⟨x0, x1, x2, x3⟩, -⟩ := cells4 HKB
  have r1 := h1.below b1
  clear hb
  obtain ⟨⟨x0, x1, x2, x3⟩, -⟩ := cells4 (kept_block HKB (below_one w1 (.cells #[] 5)))
  go_wp2_with fail
  refine (specInt_made N _ rfl _).mono ?_
  rintro e w2 ⟨ao2, cp2, rfl, -, r2, hb2⟩
  obtain ⟨⟨y0, y1, y2, y3⟩, -⟩ := cells4 (kept_block (kept_block HKB (below_one w1 (.cells #[] 5))) hb2)
  have b2' := ((below_one w1 (.cells #[] 5)).trans (hb2.mono (below_one w1 _).size))
  have b2 := b1.trans (b2'.mono b1.size)
  clear hb2 HKB x0 x1 x2 x3
  go_wp2_with fail
  refine (specTlv_any _ _ _ z1 2 _ _ _ _ _ (r1.below b2') r2 (by have := r2.size; omega)).mono ?_
  rintro e w3 ⟨ao3, n3, cp3, rfl, ho3, hb3⟩
  go_wp2
  go_ret
  exact ⟨_, _, _, rfl, own_lt ho3 b2.size, b2.trans (hb3.mono b2.size)⟩

set_option maxRecDepth 100000 in
set_option maxHeartbeats 1000000 in
theorem specPutVal_oid (a1 : Option Addr) (l1 c1 : Nat) (z1 : List Int) (N : Int) (S : ByteArray) (a2 : Option Addr) (l2 c2 : Nat) (z2 : List Int) (w : World) (h1 : Row w a1 l1 c1 z1) (_hS : S.size ≤ maxLen) (h2 : IRow w a2 l2 c2 z2) (hs : l1 ≤ 8000000) (hk : okV 6 N S z2 = true) :
    Calls Try.prog 66 #[.slice a1 l1 c1, .agg #[.int .i64 6, .int .i64 N, .string S, .slice a2 l2 c2]] w fun e w' => ∃ ao n cap, e = .returned (.slice ao n cap) ∧
      w'.ownsRow w.heap.size 5 1 (.slice ao n cap) n (cB (putV z1 6 N S z2)) ∧ Below w.heap.size w w' := by
  have hP : putV z1 6 N S z2 = putTlv z1 6 (putO z2) := by simp [putV, hk, bodyV]
  have hsm := put_length z2
  rw [hP]
  clear hP
  have HK := hide hk
  clear hk
  go_enter Try.func66, Try.ntmps66
  go_wp2_with fail
  refine (specValOk_any 6 N S a2 l2 c2 z2 _ (h2.below (below_one _ _))).mono ?_
  rintro e w1 ⟨rfl, hb⟩
  rw [HK.out]
  have b1 : Below w.heap.size w w1 := (below_one w _).trans (hb.mono (below_one w _).size)
  have HKB := kept_block (block_last w _) hb
  obtain ⟨⟨x0, x1, x2, x3⟩, -⟩ := cells4 HKB
  have r1 := h1.below b1
  clear hb
  have rz := (h2.below b1).below (below_one w1 (.cells #[] 5))
  obtain ⟨⟨x0, x1, x2, x3⟩, -⟩ := cells4 (kept_block HKB (below_one w1 (.cells #[] 5)))
  go_wp2_with fail
  refine (specPut_made a2 l2 c2 z2 _ rfl _ rz).mono ?_
  rintro e w2 ⟨ao2, cp2, rfl, -, r2, hb2⟩
  obtain ⟨⟨y0, y1, y2, y3⟩, -⟩ := cells4 (kept_block (kept_block HKB (below_one w1 (.cells #[] 5))) hb2)
  have b2' := ((below_one w1 (.cells #[] 5)).trans (hb2.mono (below_one w1 _).size))
  have b2 := b1.trans (b2'.mono b1.size)
  clear hb2 HKB x0 x1 x2 x3
  go_wp2_with fail
  refine (specTlv_any _ _ _ z1 6 _ _ _ _ _ (r1.below b2') r2 (by have := r2.size; omega)).mono ?_
  rintro e w3 ⟨ao3, n3, cp3, rfl, ho3, hb3⟩
  go_wp2
  go_ret
  exact ⟨_, _, _, rfl, own_lt ho3 b2.size, b2.trans (hb3.mono b2.size)⟩

set_option maxRecDepth 100000 in
set_option maxHeartbeats 1000000 in
theorem specPutVal_text (a1 : Option Addr) (l1 c1 : Nat) (z1 : List Int) (N : Int) (S : ByteArray) (a2 : Option Addr) (l2 c2 : Nat) (z2 : List Int) (w : World) (h1 : Row w a1 l1 c1 z1) (hS : S.size ≤ maxLen) (h2 : IRow w a2 l2 c2 z2) (hs : l1 ≤ 8000000) (hk : okV 4 N S z2 = true) :
    Calls Try.prog 66 #[.slice a1 l1 c1, .agg #[.int .i64 4, .int .i64 N, .string S, .slice a2 l2 c2]] w fun e w' => ∃ ao n cap, e = .returned (.slice ao n cap) ∧
      w'.ownsRow w.heap.size 5 1 (.slice ao n cap) n (cB (putV z1 4 N S z2)) ∧ Below w.heap.size w w' := by
  have hP : putV z1 4 N S z2 = putTlv z1 4 (strB S) := by simp [putV, hk, bodyV]
  have hsm : (strB S).length ≤ 250 := by have := body_small hk; simpa [bodyV] using this
  rw [hP]
  clear hP
  have HK := hide hk
  clear hk
  go_enter Try.func66, Try.ntmps66
  go_wp2_with fail
  refine (specValOk_any 4 N S a2 l2 c2 z2 _ (h2.below (below_one _ _))).mono ?_
  rintro e w1 ⟨rfl, hb⟩
  rw [HK.out]
  have b1 : Below w.heap.size w w1 := (below_one w _).trans (hb.mono (below_one w _).size)
  have HKB := kept_block (block_last w _) hb
  obtain ⟨⟨x0, x1, x2, x3⟩, -⟩ := cells4 HKB
  have r1 := h1.below b1
  clear hb
  obtain ⟨⟨x0, x1, x2, x3⟩, -⟩ := cells4 (kept_block HKB (below_one w1 (.cells #[] 5)))
  have hcv := Go.Lib.run_convert_string_bytes (P := Try.prog) (w1.alloc (.cells #[] 5)) 9 37 5 S Try.underlying9 Try.underlying37 Try.underlying5
  have hb2 := Go.Lib.bytesWorld_below (w1.alloc (.cells #[] 5)) 5 S
  have r2 := row_str (w1.alloc (.cells #[] 5)) S hS
  rw [show (w1.alloc (.cells #[] 5)).heap.size = w1.heap.size + 1 by simp] at r2
  generalize Go.Lib.bytesWorld (w1.alloc (.cells #[] 5)) 5 S = w2 at hcv hb2 r2
  generalize grownCap (w1.alloc (.cells #[] 5)) S.size 0 5 = gc at hcv r2
  obtain ⟨⟨y0, y1, y2, y3⟩, -⟩ := cells4 (kept_block (kept_block HKB (below_one w1 (.cells #[] 5))) hb2)
  have b2' := ((below_one w1 (.cells #[] 5)).trans (hb2.mono (below_one w1 _).size))
  have b2 := b1.trans (b2'.mono b1.size)
  clear hb2 HKB
  go_wp2_with fail
  refine (specTlv_any _ _ _ z1 4 _ _ _ _ _ (r1.below b2') r2 (by have := r2.size; omega)).mono ?_
  rintro e w3 ⟨ao3, n3, cp3, rfl, ho3, hb3⟩
  go_wp2
  go_ret
  exact ⟨_, _, _, rfl, own_lt ho3 b2.size, b2.trans (hb3.mono b2.size)⟩

set_option maxRecDepth 100000 in
set_option maxHeartbeats 1000000 in
theorem specPutVal_null (a1 : Option Addr) (l1 c1 : Nat) (z1 : List Int) (N : Int) (S : ByteArray) (a2 : Option Addr) (l2 c2 : Nat) (z2 : List Int) (w : World) (h1 : Row w a1 l1 c1 z1) (_hS : S.size ≤ maxLen) (h2 : IRow w a2 l2 c2 z2) (hs : l1 ≤ 8000000) (hk : okV 5 N S z2 = true) :
    Calls Try.prog 66 #[.slice a1 l1 c1, .agg #[.int .i64 5, .int .i64 N, .string S, .slice a2 l2 c2]] w fun e w' => ∃ ao n cap, e = .returned (.slice ao n cap) ∧
      w'.ownsRow w.heap.size 5 1 (.slice ao n cap) n (cB (putV z1 5 N S z2)) ∧ Below w.heap.size w w' := by
  have hP : putV z1 5 N S z2 = putTlv z1 5 [] := by simp [putV, hk, bodyV]
  rw [hP]
  clear hP
  have HK := hide hk
  clear hk
  go_enter Try.func66, Try.ntmps66
  go_wp2_with fail
  refine (specValOk_any 5 N S a2 l2 c2 z2 _ (h2.below (below_one _ _))).mono ?_
  rintro e w1 ⟨rfl, hb⟩
  rw [HK.out]
  have b1 : Below w.heap.size w w1 := (below_one w _).trans (hb.mono (below_one w _).size)
  have HKB := kept_block (block_last w _) hb
  obtain ⟨⟨x0, x1, x2, x3⟩, -⟩ := cells4 HKB
  have r1 := h1.below b1
  clear hb
  obtain ⟨⟨x0, x1, x2, x3⟩, -⟩ := cells4 (kept_block HKB (below_one w1 (.cells #[] 5)))
  have b2' := below_one w1 (.cells #[] 5)
  have b2 := b1.trans (b2'.mono b1.size)
  go_wp2_with fail
  refine (specTlv_any _ _ _ z1 5 _ _ _ [] _ (r1.below b2') (row_lit w1 _ [] 0 rfl rfl (by omega) byte_nil) (by omega)).mono ?_
  rintro e w3 ⟨ao3, n3, cp3, rfl, ho3, hb3⟩
  go_wp2
  go_ret
  exact ⟨_, _, _, rfl, own_lt ho3 b2.size, b2.trans (hb3.mono b2.size)⟩

set_option maxRecDepth 100000 in
set_option maxHeartbeats 1000000 in
theorem specPutVal_none (a1 : Option Addr) (l1 c1 : Nat) (z1 : List Int) (N : Int) (S : ByteArray) (a2 : Option Addr) (l2 c2 : Nat) (z2 : List Int) (w : World) (h1 : Row w a1 l1 c1 z1) (_hS : S.size ≤ maxLen) (h2 : IRow w a2 l2 c2 z2) (hs : l1 ≤ 8000000) (hk : okV 128 N S z2 = true) :
    Calls Try.prog 66 #[.slice a1 l1 c1, .agg #[.int .i64 128, .int .i64 N, .string S, .slice a2 l2 c2]] w fun e w' => ∃ ao n cap, e = .returned (.slice ao n cap) ∧
      w'.ownsRow w.heap.size 5 1 (.slice ao n cap) n (cB (putV z1 128 N S z2)) ∧ Below w.heap.size w w' := by
  have hP : putV z1 128 N S z2 = putTlv z1 128 [] := by simp [putV, hk, bodyV]
  rw [hP]
  clear hP
  have HK := hide hk
  clear hk
  go_enter Try.func66, Try.ntmps66
  go_wp2_with fail
  refine (specValOk_any 128 N S a2 l2 c2 z2 _ (h2.below (below_one _ _))).mono ?_
  rintro e w1 ⟨rfl, hb⟩
  rw [HK.out]
  have b1 : Below w.heap.size w w1 := (below_one w _).trans (hb.mono (below_one w _).size)
  have HKB := kept_block (block_last w _) hb
  obtain ⟨⟨x0, x1, x2, x3⟩, -⟩ := cells4 HKB
  have r1 := h1.below b1
  clear hb
  obtain ⟨⟨x0, x1, x2, x3⟩, -⟩ := cells4 (kept_block HKB (below_one w1 (.cells #[] 5)))
  have b2' := below_one w1 (.cells #[] 5)
  have b2 := b1.trans (b2'.mono b1.size)
  go_wp2_with fail
  refine (specTlv_any _ _ _ z1 128 _ _ _ [] _ (r1.below b2') (row_lit w1 _ [] 0 rfl rfl (by omega) byte_nil) (by omega)).mono ?_
  rintro e w3 ⟨ao3, n3, cp3, rfl, ho3, hb3⟩
  go_wp2
  go_ret
  exact ⟨_, _, _, rfl, own_lt ho3 b2.size, b2.trans (hb3.mono b2.size)⟩

set_option maxRecDepth 100000 in
set_option maxHeartbeats 1000000 in
theorem specPutVal_last (a1 : Option Addr) (l1 c1 : Nat) (z1 : List Int) (N : Int) (S : ByteArray) (a2 : Option Addr) (l2 c2 : Nat) (z2 : List Int) (w : World) (h1 : Row w a1 l1 c1 z1) (_hS : S.size ≤ maxLen) (h2 : IRow w a2 l2 c2 z2) (hs : l1 ≤ 8000000) (hk : okV 130 N S z2 = true) :
    Calls Try.prog 66 #[.slice a1 l1 c1, .agg #[.int .i64 130, .int .i64 N, .string S, .slice a2 l2 c2]] w fun e w' => ∃ ao n cap, e = .returned (.slice ao n cap) ∧
      w'.ownsRow w.heap.size 5 1 (.slice ao n cap) n (cB (putV z1 130 N S z2)) ∧ Below w.heap.size w w' := by
  have hP : putV z1 130 N S z2 = putTlv z1 130 [] := by simp [putV, hk, bodyV]
  rw [hP]
  clear hP
  have HK := hide hk
  clear hk
  go_enter Try.func66, Try.ntmps66
  go_wp2_with fail
  refine (specValOk_any 130 N S a2 l2 c2 z2 _ (h2.below (below_one _ _))).mono ?_
  rintro e w1 ⟨rfl, hb⟩
  rw [HK.out]
  have b1 : Below w.heap.size w w1 := (below_one w _).trans (hb.mono (below_one w _).size)
  have HKB := kept_block (block_last w _) hb
  obtain ⟨⟨x0, x1, x2, x3⟩, -⟩ := cells4 HKB
  have r1 := h1.below b1
  clear hb
  obtain ⟨⟨x0, x1, x2, x3⟩, -⟩ := cells4 (kept_block HKB (below_one w1 (.cells #[] 5)))
  have b2' := below_one w1 (.cells #[] 5)
  have b2 := b1.trans (b2'.mono b1.size)
  go_wp2_with fail
  refine (specTlv_any _ _ _ z1 130 _ _ _ [] _ (r1.below b2') (row_lit w1 _ [] 0 rfl rfl (by omega) byte_nil) (by omega)).mono ?_
  rintro e w3 ⟨ao3, n3, cp3, rfl, ho3, hb3⟩
  go_wp2
  go_ret
  exact ⟨_, _, _, rfl, own_lt ho3 b2.size, b2.trans (hb3.mono b2.size)⟩

set_option maxRecDepth 100000 in
set_option maxHeartbeats 1000000 in
theorem specPutVal_any (a1 : Option Addr) (l1 c1 : Nat) (z1 : List Int) (K : Int) (N : Int) (S : ByteArray) (a2 : Option Addr) (l2 c2 : Nat) (z2 : List Int) (w : World) (h1 : Row w a1 l1 c1 z1) (hS : S.size ≤ maxLen) (h2 : IRow w a2 l2 c2 z2) (hs : l1 ≤ 8000000) :
    Calls Try.prog 66 #[.slice a1 l1 c1, .agg #[.int .i64 K, .int .i64 N, .string S, .slice a2 l2 c2]] w fun e w' => ∃ ao n cap, e = .returned (.slice ao n cap) ∧
      w'.ownsRow w.heap.size 5 1 (.slice ao n cap) n (cB (putV z1 K N S z2)) ∧ Below w.heap.size w w' := by
  cases hk : okV K N S z2
  · exact specPutVal_no a1 l1 c1 z1 K N S a2 l2 c2 z2 w h1 hS h2 hs hk
  by_cases k5 : K = 5
  · subst k5; exact specPutVal_null a1 l1 c1 z1 N S a2 l2 c2 z2 w h1 hS h2 hs hk
  by_cases k128 : K = 128
  · subst k128; exact specPutVal_none a1 l1 c1 z1 N S a2 l2 c2 z2 w h1 hS h2 hs hk
  by_cases k130 : K = 130
  · subst k130; exact specPutVal_last a1 l1 c1 z1 N S a2 l2 c2 z2 w h1 hS h2 hs hk
  by_cases k2 : K = 2
  · subst k2; exact specPutVal_int a1 l1 c1 z1 N S a2 l2 c2 z2 w h1 hS h2 hs hk
  by_cases k4 : K = 4
  · subst k4; exact specPutVal_text a1 l1 c1 z1 N S a2 l2 c2 z2 w h1 hS h2 hs hk
  by_cases k6 : K = 6
  · subst k6; exact specPutVal_oid a1 l1 c1 z1 N S a2 l2 c2 z2 w h1 hS h2 hs hk
  simp [okV, k5, k128, k130, k2, k4, k6] at hk

end Go.Proofs.Ytamglfhnhjgdjaa
