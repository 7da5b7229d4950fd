/-
  Whether a value is right, by the contract of the specification.
-/
import Derived.Test.YtamglfhnhjgdjaaGreatDoorValSame
import Derived.Deep.RegionHeld3
namespace Go.Proofs.YtamglfhnhjgdjaaGreatDoor
open Go.RowKit

theorem empty_of {w : World} {a1 : Option Addr} {l1 c1 : Nat} {z1 : List Int} (h1 : IRow w a1 l1 c1 z1) : ((l1 : Int) == 0) = decide (z1 = []) := by
  have := h1.size
  cases z1 with
  | nil => simp at this; subst this; simp
  | cons x r => simp at this; simp; omega

set_option maxRecDepth 100000 in
set_option maxHeartbeats 400000 in
theorem specOk_null (N : Int) (S : ByteArray) (a1 : Option Addr) (l1 c1 : Nat) (z1 : List Int) (w : World) (h1 : IRow w a1 l1 c1 z1) :
    Calls Tryz.prog 71 #[.agg #[.int .i64 5, .int .i64 N, .string S, .slice a1 l1 c1]] w fun e w' => e = .returned (.bool (okV 5 N S z1)) ∧ Below w.heap.size w w' := by
  have hz := empty_of h1
  generalize hP : okV 5 N S z1 = P
  have HP := hide hP
  clear hP
  cases tN : (N == 0)
  · go_enter Tryz.func71, Tryz.ntmps71
    go_wp2
    go_ret
    exact ⟨ret_bool (by rw [← HP.out]; simp [okV, tN]), below_one _ _⟩
  cases tS : S.toList.isEmpty
  · go_enter Tryz.func71, Tryz.ntmps71
    go_wp2
    go_ret
    exact ⟨ret_bool (by rw [← HP.out]; simp [okV, tS]), below_one _ _⟩
  go_enter Tryz.func71, Tryz.ntmps71
  go_wp2
  go_ret
  exact ⟨ret_bool (by rw [← HP.out]; simp [okV, tN, tS]), below_one _ _⟩

set_option maxRecDepth 100000 in
set_option maxHeartbeats 400000 in
theorem specOk_none (N : Int) (S : ByteArray) (a1 : Option Addr) (l1 c1 : Nat) (z1 : List Int) (w : World) (h1 : IRow w a1 l1 c1 z1) :
    Calls Tryz.prog 71 #[.agg #[.int .i64 128, .int .i64 N, .string S, .slice a1 l1 c1]] w fun e w' => e = .returned (.bool (okV 128 N S z1)) ∧ Below w.heap.size w w' := by
  have hz := empty_of h1
  generalize hP : okV 128 N S z1 = P
  have HP := hide hP
  clear hP
  cases tN : (N == 0)
  · go_enter Tryz.func71, Tryz.ntmps71
    go_wp2
    go_ret
    exact ⟨ret_bool (by rw [← HP.out]; simp [okV, tN]), below_one _ _⟩
  cases tS : S.toList.isEmpty
  · go_enter Tryz.func71, Tryz.ntmps71
    go_wp2
    go_ret
    exact ⟨ret_bool (by rw [← HP.out]; simp [okV, tS]), below_one _ _⟩
  go_enter Tryz.func71, Tryz.ntmps71
  go_wp2
  go_ret
  exact ⟨ret_bool (by rw [← HP.out]; simp [okV, tN, tS]), below_one _ _⟩

set_option maxRecDepth 100000 in
set_option maxHeartbeats 400000 in
theorem specOk_last (N : Int) (S : ByteArray) (a1 : Option Addr) (l1 c1 : Nat) (z1 : List Int) (w : World) (h1 : IRow w a1 l1 c1 z1) :
    Calls Tryz.prog 71 #[.agg #[.int .i64 130, .int .i64 N, .string S, .slice a1 l1 c1]] w fun e w' => e = .returned (.bool (okV 130 N S z1)) ∧ Below w.heap.size w w' := by
  have hz := empty_of h1
  generalize hP : okV 130 N S z1 = P
  have HP := hide hP
  clear hP
  cases tN : (N == 0)
  · go_enter Tryz.func71, Tryz.ntmps71
    go_wp2
    go_ret
    exact ⟨ret_bool (by rw [← HP.out]; simp [okV, tN]), below_one _ _⟩
  cases tS : S.toList.isEmpty
  · go_enter Tryz.func71, Tryz.ntmps71
    go_wp2
    go_ret
    exact ⟨ret_bool (by rw [← HP.out]; simp [okV, tS]), below_one _ _⟩
  go_enter Tryz.func71, Tryz.ntmps71
  go_wp2
  go_ret
  exact ⟨ret_bool (by rw [← HP.out]; simp [okV, tN, tS]), below_one _ _⟩

set_option maxRecDepth 100000 in
set_option maxHeartbeats 400000 in
theorem specOk_text (N : Int) (S : ByteArray) (a1 : Option Addr) (l1 c1 : Nat) (z1 : List Int) (w : World) (h1 : IRow w a1 l1 c1 z1) :
    Calls Tryz.prog 71 #[.agg #[.int .i64 4, .int .i64 N, .string S, .slice a1 l1 c1]] w fun e w' => e = .returned (.bool (okV 4 N S z1)) ∧ Below w.heap.size w w' := by
  have hz := empty_of h1
  generalize hP : okV 4 N S z1 = P
  have HP := hide hP
  clear hP
  by_cases tS : (S.size : Int) ≤ 20
  · cases tN : (N == 0)
    · go_enter Tryz.func71, Tryz.ntmps71
      go_wp2
      go_ret
      exact ⟨ret_bool (by rw [← HP.out]; simp [okV, tN]), below_one _ _⟩
    · go_enter Tryz.func71, Tryz.ntmps71
      go_wp2
      go_ret
      exact ⟨ret_bool (by rw [← HP.out]; simp [okV, tN, tS]), below_one _ _⟩
  · go_enter Tryz.func71, Tryz.ntmps71
    go_wp2
    go_ret
    exact ⟨ret_bool (by rw [← HP.out]; simp [okV]; omega), below_one _ _⟩

set_option maxRecDepth 100000 in
set_option maxHeartbeats 400000 in
theorem specOk_oid (N : Int) (S : ByteArray) (a1 : Option Addr) (l1 c1 : Nat) (z1 : List Int) (w : World) (h1 : IRow w a1 l1 c1 z1) :
    Calls Tryz.prog 71 #[.agg #[.int .i64 6, .int .i64 N, .string S, .slice a1 l1 c1]] w fun e w' => e = .returned (.bool (okV 6 N S z1)) ∧ Below w.heap.size w w' := by
  have hz := empty_of h1
  generalize hP : okV 6 N S z1 = P
  have HP := hide hP
  clear hP
  cases tO : oidOk z1
  · go_enter Tryz.func71, Tryz.ntmps71
    go_wp2_with fail
    refine (specOk_any a1 l1 c1 z1 _ (h1.below (below_one _ _))).mono ?_
    rintro e w1 ⟨rfl, rfl⟩
    rw [tO]
    go_wp2
    go_ret
    exact ⟨ret_bool (by rw [← HP.out]; simp [okV, tO]), below_one _ _⟩
  cases tN : (N == 0)
  · go_enter Tryz.func71, Tryz.ntmps71
    go_wp2_with fail
    refine (specOk_any a1 l1 c1 z1 _ (h1.below (below_one _ _))).mono ?_
    rintro e w1 ⟨rfl, rfl⟩
    rw [tO]
    go_wp2
    go_ret
    exact ⟨ret_bool (by rw [← HP.out]; simp [okV, tN]), below_one _ _⟩
  go_enter Tryz.func71, Tryz.ntmps71
  go_wp2_with fail
  refine (specOk_any a1 l1 c1 z1 _ (h1.below (below_one _ _))).mono ?_
  rintro e w1 ⟨rfl, rfl⟩
  rw [tO]
  go_wp2
  go_ret
  exact ⟨ret_bool (by rw [← HP.out]; simp [okV, tN, tO]), below_one _ _⟩

set_option maxRecDepth 100000 in
set_option maxHeartbeats 400000 in
theorem specOk_int (N : Int) (S : ByteArray) (a1 : Option Addr) (l1 c1 : Nat) (z1 : List Int) (w : World) (h1 : IRow w a1 l1 c1 z1) :
    Calls Tryz.prog 71 #[.agg #[.int .i64 2, .int .i64 N, .string S, .slice a1 l1 c1]] w fun e w' => e = .returned (.bool (okV 2 N S z1)) ∧ Below w.heap.size w w' := by
  have hz := empty_of h1
  generalize hP : okV 2 N S z1 = P
  have HP := hide hP
  clear hP
  cases tN : (clip N == N)
  · go_enter Tryz.func71, Tryz.ntmps71
    go_wp2_with fail
    go_quiet ((go_at_call 50; refine Calls.quiet_of_same (clip_any N _)))
    go_wp2
    go_ret
    exact ⟨ret_bool (by rw [← HP.out]; simp [okV, tN]), below_drewN (below_one _ _) _⟩
  cases tS : S.toList.isEmpty
  · go_enter Tryz.func71, Tryz.ntmps71
    go_wp2_with fail
    go_quiet ((go_at_call 50; refine Calls.quiet_of_same (clip_any N _)))
    go_wp2
    go_ret
    exact ⟨ret_bool (by rw [← HP.out]; simp [okV, tS]), below_drewN (below_one _ _) _⟩
  go_enter Tryz.func71, Tryz.ntmps71
  go_wp2_with fail
  go_quiet ((go_at_call 50; refine Calls.quiet_of_same (clip_any N _)))
  go_wp2
  go_ret
  exact ⟨ret_bool (by rw [← HP.out]; simp [okV, tN, tS]), below_drewN (below_one _ _) _⟩

set_option maxRecDepth 100000 in
set_option maxHeartbeats 400000 in
theorem specValOk_any (K : Int) (N : Int) (S : ByteArray) (a1 : Option Addr) (l1 c1 : Nat) (z1 : List Int) (w : World) (h1 : IRow w a1 l1 c1 z1) :
    Calls Tryz.prog 71 #[.agg #[.int .i64 K, .int .i64 N, .string S, .slice a1 l1 c1]] w fun e w' => e = .returned (.bool (okV K N S z1)) ∧ Below w.heap.size w w' := by
  by_cases k5 : K = 5
  · subst k5; exact specOk_null N S a1 l1 c1 z1 w h1
  by_cases k128 : K = 128
  · subst k128; exact specOk_none N S a1 l1 c1 z1 w h1
  by_cases k130 : K = 130
  · subst k130; exact specOk_last N S a1 l1 c1 z1 w h1
  by_cases k2 : K = 2
  · subst k2; exact specOk_int N S a1 l1 c1 z1 w h1
  by_cases k4 : K = 4
  · subst k4; exact specOk_text N S a1 l1 c1 z1 w h1
  by_cases k6 : K = 6
  · subst k6; exact specOk_oid N S a1 l1 c1 z1 w h1
  generalize hP : okV K N S z1 = P
  have hp : P = false := by rw [← hP]; simp [okV, k5, k128, k130, k2, k4, k6]
  have HP := hide hp
  clear hp
  clear hP
  go_enter Tryz.func71, Tryz.ntmps71
  go_wp2
  go_ret
  exact ⟨ret_bool HP.out.symm, below_one _ _⟩

/-- The value that is left of a value within. -/
theorem wor_in {K N : Int} {S : ByteArray} {a1 : Option Addr} {l1 c1 : Nat} {z1 : List Int} {w : World} (h1 : IRow w a1 l1 c1 z1) {x : Wor} (h : worOf K N S a1 l1 c1 z1 = some x) : x.In w := by
  unfold worOf at h
  repeat' split at h
  all_goals first | (cases h; exact h1) | (cases h; trivial) | cases h

theorem Wor.row {w : World} {x : Wor} (h : x.In w) : ∃ a l c, x.sl = .slice a l c ∧ IRow w a l c x.z := by
  cases x using Wor.byCase with
  | oid a l c z => exact ⟨a, l, c, rfl, h⟩
  | int n => exact ⟨_, _, _, rfl, irow_nil w⟩
  | text n => exact ⟨_, _, _, rfl, irow_nil w⟩
  | null => exact ⟨_, _, _, rfl, irow_nil w⟩
  | none => exact ⟨_, _, _, rfl, irow_nil w⟩
  | last => exact ⟨_, _, _, rfl, irow_nil w⟩

theorem empty_list (S : ByteArray) : (S.toList == (⟨#[]⟩ : ByteArray).toList) = S.toList.isEmpty := by
  have : (⟨#[]⟩ : ByteArray).toList = [] := by rw [ByteArray.toList_eq]
  rw [this]; cases S.toList <;> rfl

theorem clip_same (N : Int) : (clip N == N) = (decide (-2147483648 ≤ N) && decide (N ≤ 2147483647)) := by
  unfold clip
  split
  · rw [Bool.eq_iff_iff]; simp; omega
  · split
    · rw [Bool.eq_iff_iff]; simp; omega
    · rw [Bool.eq_iff_iff]; simp; omega

theorem ok_none {K N : Int} {S : ByteArray} {a1 : Option Addr} {l1 c1 : Nat} {z1 : List Int} (h : worOf K N S a1 l1 c1 z1 = Option.none) : okV K N S z1 = false := by
  unfold worOf at h
  unfold okV
  repeat' split at h
  all_goals first | cases h | skip
  rw [if_neg (by omega), if_neg ‹_›, if_neg ‹_›, if_neg ‹_›]

theorem ok_some {K N : Int} {S : ByteArray} {a1 : Option Addr} {l1 c1 : Nat} {z1 : List Int} {x : Wor} (h : worOf K N S a1 l1 c1 z1 = some x) : okV K N S z1 = (x.ok && sameV K N S z1 x.kind x.num x.str x.z) := by
  unfold worOf at h
  repeat' split at h
  all_goals first | cases h | skip
  all_goals subst K
  · show okV 2 N S z1 = ((decide (-2147483648 ≤ N) && decide (N ≤ 2147483647)) && sameV 2 N S z1 2 N ⟨#[]⟩ [])
    unfold okV sameV
    simp only [clip_same, empty_list]
    simp
  · show okV 4 N S z1 = (decide ((S.size : Int) ≤ 20) && sameV 4 N S z1 4 0 S [])
    unfold okV sameV
    simp only [clip_same]
    simp
  · show okV 6 N S z1 = (oidOk z1 && sameV 6 N S z1 6 0 ⟨#[]⟩ z1)
    unfold okV sameV
    simp only [clip_same, empty_list]
    simp
  · show okV 5 N S z1 = (true && sameV 5 N S z1 5 0 ⟨#[]⟩ [])
    unfold okV sameV
    simp only [clip_same, empty_list]
    simp
  · show okV 128 N S z1 = (true && sameV 128 N S z1 128 0 ⟨#[]⟩ [])
    unfold okV sameV
    simp only [clip_same, empty_list]
    simp
  · show okV 130 N S z1 = (true && sameV 130 N S z1 130 0 ⟨#[]⟩ [])
    unfold okV sameV
    simp only [clip_same, empty_list]
    simp

theorem worthOk_at (x : Wor) (b : Bool) (hb : x.ok = b) (w : World) (h : x.In w) :
    Calls Tryz.prog 106 #[x.v] w fun e w' => e = .returned (.bool b) ∧ w' = w := by
  subst hb; exact worthOk_any x w h

theorem Wor.In.below {w w' : World} {x : Wor} (h : x.In w) (hb : Below w.heap.size w w') : x.In w' := by
  cases x using Wor.byCase with
  | oid a l c z => exact IRow.below h hb
  | int n => trivial
  | text n => trivial
  | null => trivial
  | none => trivial
  | last => trivial

set_option maxRecDepth 100000 in
set_option maxHeartbeats 1000000 in
theorem implValOk_any (K N : Int) (S : ByteArray) (a1 : Option Addr) (l1 c1 : Nat) (z1 : List Int) (w : World) (h1 : IRow w a1 l1 c1 z1) :
    Calls Tryz.prog 89 #[.agg #[.int .i64 K, .int .i64 N, .string S, .slice a1 l1 c1]] w fun e w' => e = .returned (.bool (okV K N S z1)) ∧ Below w.heap.size w w' := by
  cases hx : worOf K N S a1 l1 c1 z1 with
  | none =>
    have hk := ok_none hx
    generalize okV K N S z1 = P at *
    have HP := hide hk
    clear hk
    go_enter Tryz.func89, Tryz.ntmps89
    go_wp2_with fail
    refine (worthOf_any K N S a1 l1 c1 z1 _).mono ?_
    rintro e w1 ⟨rfl, hb⟩
    rw [hx, show worV Option.none = .nilIface from rfl]
    have b1 : Below w.heap.size w w1 := (below_one w _).trans (hb.mono (below_one w _).size)
    clear hx hb
    go_wp2_with fail
    go_quiet ((go_at_call 106; refine Calls.quiet_of_same (worthOk_nil _)))
    go_wp2
    go_ret
    exact ⟨ret_bool HP.out.symm, below_drewN b1 _⟩
  | some x =>
    have hin := wor_in h1 hx
    have hk := ok_some hx
    obtain ⟨a2, l2, c2, hsl, hr⟩ := Wor.row hin
    cases hok : x.ok
    · rw [hok, Bool.false_and] at hk
      generalize okV K N S z1 = P at *
      have HP := hide hk
      clear hk
      go_enter Tryz.func89, Tryz.ntmps89
      go_wp2_with fail
      refine (worthOf_any K N S a1 l1 c1 z1 _).mono ?_
      rintro e w1 ⟨rfl, hb⟩
      rw [hx, show worV (some x) = x.v from rfl]
      have b1 : Below w.heap.size w w1 := (below_one w _).trans (hb.mono (below_one w _).size)
      have hin1 := hin.below b1
      have HOK := hide hok
      clear hx hb hsl hr hok
      go_wp2_with fail
      go_quiet ((go_at_call 106; refine Calls.quiet_of_same (worthOk_at x false HOK.out _ (hin1.below (below_drewN (Below.refl _ _) _)))))
      go_wp2
      go_ret
      exact ⟨ret_bool HP.out.symm, below_drewN b1 _⟩
    · rw [hok, Bool.true_and] at hk
      generalize okV K N S z1 = P at *
      generalize hSM : sameV K N S z1 x.kind x.num x.str x.z = Q at *
      subst hk
      have HSM := hide hSM
      clear hSM
      go_enter Tryz.func89, Tryz.ntmps89
      go_wp2_with fail
      refine (worthOf_any K N S a1 l1 c1 z1 _).mono ?_
      rintro e w1 ⟨rfl, hb⟩
      rw [hx, show worV (some x) = x.v from rfl]
      obtain ⟨⟨q0, q1, q2, q3⟩, -⟩ := cells4 (kept_one hb)
      have HK := hide (kept_one hb)
      have b1 : Below w.heap.size w w1 := (below_one w _).trans (hb.mono (below_one w _).size)
      have hin1 := hin.below b1
      have h11 := h1.below b1
      have hr1 := hr.below b1
      have HOK := hide hok
      have HV : Hid (∀ W, Calls Tryz.prog 107 #[x.v] W fun e w' => e = .returned (.agg #[.int .i64 x.kind, .int .i64 x.num, .string x.str, .slice a2 l2 c2]) ∧ Below W.heap.size W w') := fun W => by have := valOf_any x W; rw [hsl] at this; exact this
      clear hx hb hr hok hsl
      generalize x.kind = K2 at *
      generalize x.num = N2 at *
      generalize x.str = S2 at *
      generalize x.z = z2 at *
      go_wp2_with fail
      go_region_held3 (fun W => W.cell? ⟨w.heap.size, 0, none⟩ = some (.int .i64 K) ∧ W.cell? ⟨w.heap.size, 1, none⟩ = some (.int .i64 N) ∧ W.cell? ⟨w.heap.size, 2, none⟩ = some (.string S) ∧ W.cell? ⟨w.heap.size, 3, none⟩ = some (.slice a1 l1 c1)) (first | exact (cells4 ‹_›).1 | go_keep) (first
        | (go_at_call 106; refine (worthOk_at x true HOK.out _ (hin1.below (below_drewN (Below.refl _ _) _))).mono ?_; rintro e w2 ⟨rfl, rfl⟩)
        | (go_at_call 107; refine (HV.out _).mono ?_; rintro e w3 ⟨rfl, hb3⟩; have k3 := kept_block HK.out (undrew hb3))
        | (go_at_call 82; refine (implSameVal_any _ _ _ _ _ _ z1 _ _ _ _ _ _ z2 _ (h11.below (undrew hb3)) (hr1.below (undrew hb3))).mono ?_; rintro e w4 ⟨rfl, hb4⟩; rw [HSM.out]; have k4 := kept_block k3 hb4))
      go_wp2
      go_ret
      exact ⟨rfl, (b1.trans ((undrew hb3).mono b1.size)).trans (hb4.mono (Nat.le_trans b1.size (undrew hb3).size))⟩

end Go.Proofs.YtamglfhnhjgdjaaGreatDoor
