/-
  Whether a request is right, whether two lists of binds are the same: the specification's functions and the program's by contracts, over binds that can be read.
-/
import Derived.Test.YtamglfhnhjgdjaaGreatDoorQG
namespace Go.Proofs.YtamglfhnhjgdjaaGreatDoor
open Go.RowKit

def mostP (k : Int) : Int := if k = 162 ∨ k = 165 then 1000 else if k = 160 ∨ k = 161 ∨ k = 163 then 0 else -1

set_option maxRecDepth 100000 in
set_option maxHeartbeats 400000 in
theorem most_any (k : Int) (w : World) : Calls Tryz.prog 65 #[.int .i64 k] w fun e w' => e = .returned (.int .i64 (mostP k)) ∧ w' = w := by
  generalize hm : mostP k = m
  have HM := hide hm
  clear hm
  go_enter Tryz.func65, Tryz.ntmps65
  go_wp2
  all_goals go_ret
  all_goals refine ⟨ret_int ?_, rfl⟩
  all_goals rw [← HM.out]
  all_goals simp_all [mostP]

set_option maxRecDepth 100000 in
set_option maxHeartbeats 400000 in
theorem within_any (n lo hi : Int) (w : World) : Calls Tryz.prog 66 #[.int .i64 n, .int .i64 lo, .int .i64 hi] w fun e w' => e = .returned (.bool (decide (lo ≤ n) && decide (n ≤ hi))) ∧ w' = w := by
  by_cases h1 : lo ≤ n
  · by_cases h2 : n ≤ hi
    · rw [decide_eq_true h1, decide_eq_true h2]
      go_enter Tryz.func66, Tryz.ntmps66
      go_wp2
      go_ret
      exact ⟨rfl, rfl⟩
    · rw [decide_eq_true h1, decide_eq_false h2]
      go_enter Tryz.func66, Tryz.ntmps66
      go_wp2
      go_ret
      exact ⟨rfl, rfl⟩
  · rw [decide_eq_false h1, Bool.false_and]
    go_enter Tryz.func66, Tryz.ntmps66
    go_wp2
    go_ret
    exact ⟨rfl, rfl⟩

set_option maxRecDepth 100000 in
set_option maxHeartbeats 1000000 in
theorem wrongBind_any (x : BI) (w : World) (hx : x.In w) :
    Calls Tryz.prog 88 #[.agg #[.slice x.oa x.on x.oc, .int .i64 x.K, .int .i64 x.N, .string x.S, .slice x.za x.zn x.zc]] w fun e w' =>
      e = .returned (.bool (!okB x.d)) ∧ Below w.heap.size w w' := by
  cases ho : oidOk x.o
  · have eb : (!okB x.d) = true := by simp [okB, BI.d, ho]
    rw [eb]
    have HO := hide ho
    clear eb ho
    go_enter Tryz.func88, Tryz.ntmps88
    go_wp2_with fail
    refine (implOk_any x.oa x.on x.oc x.o _ (hx.o.below (below_one _ _))).mono ?_
    rintro e w1 ⟨rfl, rfl⟩
    rw [HO.out]
    go_wp2
    go_ret
    exact ⟨rfl, below_one _ _⟩
  · have eb : (!okB x.d) = !okV x.K x.N x.S x.z := by simp [okB, BI.d, ho]
    rw [eb]
    have HO := hide ho
    clear eb ho
    go_enter Tryz.func88, Tryz.ntmps88
    go_wp2_with fail
    refine (implOk_any x.oa x.on x.oc x.o _ (hx.o.below (below_one _ _))).mono ?_
    rintro e w1 ⟨rfl, rfl⟩
    rw [HO.out]
    go_wp2_with fail
    refine (implValOk_any x.K x.N x.S x.za x.zn x.zc x.z _ (hx.z.below (below_one _ _))).mono ?_
    rintro e w1 ⟨rfl, hb⟩
    go_wp2
    go_ret
    exact ⟨rfl, (below_one w _).trans (hb.mono (below_one w _).size)⟩

/-- All binds are right. -/
def oks (l : List BI) : Bool := l.all fun x => okB x.d
theorem oks_map (l : List BI) : (l.map BI.d).all okB = oks l := by simp [oks, List.all_map]; rfl
theorem oks_no {l : List BI} {i : Nat} {x : BI} (h : l[i]? = some x) (hx : okB x.d = false) : oks l = false := by
  unfold oks
  rw [List.all_eq_false]
  exact ⟨x, List.mem_of_getElem? h, by simp [hx]⟩

set_option maxRecDepth 100000 in
set_option maxHeartbeats 1000000 in
theorem indexFunc_any (ao : Option Addr) (n c : Nat) (l : List BI) (w : World) (hl : BRow w ao n c l) :
    Calls Tryz.prog 105 #[.slice ao n c, .func (.func 88) #[] #[]] w fun e w' =>
      (∃ r : Int, e = .returned (.int .i64 r) ∧ decide (0 ≤ r) = !oks l) ∧ Below w.heap.size w w' := by
  have hs := hl.size
  have htop := Nat.le_trans hl.le hl.top
  unfold maxLen at htop
  go_enter Tryz.func105, Tryz.ntmps105
  go_wp2
  go_loopw [8] (fun i wr => ∃ k : Nat, k ≤ n ∧ i = .int .i64 k ∧ oks (l.take k) = true ∧ Below w.heap.size w wr) (fun i _ => n - (intOf i).toNat)
  case atStart => exact ⟨0, Nat.zero_le _, rfl, by simp [oks], Below.refl _ _⟩
  case round =>
    obtain ⟨k, hk, rfl, hok, hb⟩ := hrel
    have HOK := hide hok
    clear hok
    by_cases hlt : k < n
    · obtain ⟨x, b, off, hx, rfl, ⟨a0, a1, a2, a3, a4⟩, hin⟩ := (hl.below hb).at k hlt
      have HX := hide hx
      have HB := hide hb
      clear hx hb
      go_wp2_with fail
      refine (wrongBind_any x _ hin).mono ?_
      rintro e w1 ⟨rfl, hb1⟩
      have b1 := HB.out.trans (hb1.mono HB.out.size)
      clear a0 a1 a2 a3 a4 hb1
      cases ho : okB x.d
      · have HO := hide ho
        clear ho
        go_wp2
        go_ret
        refine ⟨⟨k, rfl, ?_⟩, b1⟩
        rw [oks_no HX.out HO.out]
        simp
      · have HO := hide ho
        clear ho
        go_wp2
        go_roundw
        case rel => exact ⟨k + 1, by omega, by go_num, by rw [take_one HX.out]; have := HOK.out; unfold oks at this ⊢; simp [this, HO.out], b1⟩
        case measure => simp [intOf]; omega
    · have hk' : k = n := by omega
      subst hk'
      go_wp2
      go_ret
      refine ⟨⟨-1, rfl, ?_⟩, hb⟩
      have := HOK.out
      rw [List.take_of_length_le (by omega)] at this
      rw [this]
      rfl

set_option maxRecDepth 100000 in
set_option maxHeartbeats 1000000 in
theorem bindsOk_any (ao : Option Addr) (n c : Nat) (l : List BI) (w : World) (hl : BRow w ao n c l) :
    Calls Tryz.prog 67 #[.slice ao n c] w fun e w' => e = .returned (.bool (decide ((n : Int) ≤ 10) && oks l)) ∧ Below w.heap.size w w' := by
  by_cases hn : (n : Int) ≤ 10
  · have ed : (decide ((n : Int) ≤ 10) && oks l) = oks l := by simp [hn]
    rw [ed]
    clear ed
    go_enter Tryz.func67, Tryz.ntmps67
    go_wp2_with (go_at_call 87; go_in)
    refine (indexFunc_any ao n c l _ hl).mono ?_
    rintro e w1 ⟨⟨r, rfl, hr⟩, hb⟩
    have HR := hide hr
    clear hr
    go_wp2
    all_goals go_ret
    all_goals refine ⟨ret_bool ?_, hb⟩
    all_goals have := HR.out
    all_goals simp_all
  · have ed : (decide ((n : Int) ≤ 10) && oks l) = false := by simp [hn]
    rw [ed]
    clear ed
    go_enter Tryz.func67, Tryz.ntmps67
    go_wp2
    go_ret
    exact ⟨rfl, Below.refl _ _⟩

theorem okP_impl (k id a b : Int) (l : List BI) (n : Nat) (hn : l.length = n) :
    ((decide (-2147483648 ≤ id) && decide (id ≤ 2147483647)) && ((decide (0 ≤ a) && decide (a ≤ mostP k)) && ((decide (0 ≤ b) && decide (b ≤ mostP k)) && (decide ((n : Int) ≤ 10) && oks l)))) = okP k id a b (l.map BI.d) := by
  unfold okP kindOk
  rw [oks_map, List.length_map, hn]
  rw [Bool.eq_iff_iff]
  simp only [Bool.and_eq_true, decide_eq_true_eq]
  unfold mostP
  constructor
  · rintro ⟨⟨h1, h2⟩, ⟨h3, h4⟩, ⟨h5, h6⟩, h7, h8⟩
    refine ⟨h8, ?_⟩
    split at h4
    · rename_i hk
      rw [if_pos hk] at h6
      exact ⟨by omega, by omega, by omega, by omega, by omega, by omega⟩
    · rename_i hk
      rw [if_neg hk] at h6
      split at h4
      · rename_i hk2
        rw [if_pos hk2] at h6
        exact ⟨by omega, by omega, by omega, by omega, by omega, by omega⟩
      · omega
  · rintro ⟨h8, h1, h2, h3, h4, h5, h6⟩
    by_cases hk : k = 162 ∨ k = 165
    · rw [if_pos hk]
      exact ⟨h3, ⟨by omega, by omega⟩, ⟨by omega, by omega⟩, by omega, h8⟩
    · rw [if_neg hk, if_pos (by omega)]
      exact ⟨h3, ⟨by omega, by omega⟩, ⟨by omega, by omega⟩, by omega, h8⟩

set_option maxRecDepth 100000 in
set_option maxHeartbeats 2000000 in
theorem implPduOk_any (K I A B : Int) (ao : Option Addr) (n c : Nat) (l : List BI) (w : World) (hl : BRow w ao n c l) :
    Calls Tryz.prog 43 #[.agg #[.int .i64 K, .int .i64 I, .int .i64 A, .int .i64 B, .slice ao n c]] w fun e w' => e = .returned (.bool (okP K I A B (l.map BI.d))) ∧ Below w.heap.size w w' := by
  rw [← okP_impl K I A B l n hl.size]
  cases t1 : (decide (-2147483648 ≤ I) && decide (I ≤ 2147483647))
  · rw [Bool.false_and]
    go_enter Tryz.func43, Tryz.ntmps43
    go_wp2_with fail
    refine (most_any K _).mono ?_
    rintro e w1 ⟨rfl, rfl⟩
    go_wp2_with fail
    refine (within_any I (-2147483648) 2147483647 _).mono ?_
    rintro e w1 ⟨rfl, rfl⟩
    rw [t1]
    go_wp2
    go_ret
    exact ⟨rfl, below_one _ _⟩
  cases t2 : (decide (0 ≤ A) && decide (A ≤ mostP K))
  · rw [Bool.true_and, Bool.false_and]
    go_enter Tryz.func43, Tryz.ntmps43
    go_wp2_with fail
    refine (most_any K _).mono ?_
    rintro e w1 ⟨rfl, rfl⟩
    go_wp2_with fail
    refine (within_any I (-2147483648) 2147483647 _).mono ?_
    rintro e w1 ⟨rfl, rfl⟩
    rw [t1]
    go_wp2_with fail
    refine (within_any A 0 (mostP K) _).mono ?_
    rintro e w1 ⟨rfl, rfl⟩
    rw [t2]
    go_wp2
    go_ret
    exact ⟨rfl, below_one _ _⟩
  cases t3 : (decide (0 ≤ B) && decide (B ≤ mostP K))
  · rw [Bool.true_and, Bool.true_and, Bool.false_and]
    go_enter Tryz.func43, Tryz.ntmps43
    go_wp2_with fail
    refine (most_any K _).mono ?_
    rintro e w1 ⟨rfl, rfl⟩
    go_wp2_with fail
    refine (within_any I (-2147483648) 2147483647 _).mono ?_
    rintro e w1 ⟨rfl, rfl⟩
    rw [t1]
    go_wp2_with fail
    refine (within_any A 0 (mostP K) _).mono ?_
    rintro e w1 ⟨rfl, rfl⟩
    rw [t2]
    go_wp2_with fail
    refine (within_any B 0 (mostP K) _).mono ?_
    rintro e w1 ⟨rfl, rfl⟩
    rw [t3]
    go_wp2
    go_ret
    exact ⟨rfl, below_one _ _⟩
  rw [Bool.true_and, Bool.true_and, Bool.true_and]
  generalize hr : (decide ((n : Int) ≤ 10) && oks l) = r
  have HR := hide hr
  clear hr
  go_enter Tryz.func43, Tryz.ntmps43
  go_wp2_with fail
  refine (most_any K _).mono ?_
  rintro e w1 ⟨rfl, rfl⟩
  go_wp2_with fail
  refine (within_any I (-2147483648) 2147483647 _).mono ?_
  rintro e w1 ⟨rfl, rfl⟩
  rw [t1]
  go_wp2_with fail
  refine (within_any A 0 (mostP K) _).mono ?_
  rintro e w1 ⟨rfl, rfl⟩
  rw [t2]
  go_wp2_with fail
  refine (within_any B 0 (mostP K) _).mono ?_
  rintro e w1 ⟨rfl, rfl⟩
  rw [t3]
  go_wp2_with fail
  refine (bindsOk_any ao n c l _ (hl.below (below_one _ _))).mono ?_
  rintro e w1 ⟨rfl, hb⟩
  rw [HR.out]
  go_wp2
  go_ret
  exact ⟨rfl, (below_one w _).trans (hb.mono (below_one w _).size)⟩

set_option maxRecDepth 100000 in
set_option maxHeartbeats 400000 in
theorem kind_any (k : Int) (w : World) : Calls Tryz.prog 72 #[.int .i64 k] w fun e w' => e = .returned (.bool (kindOk k)) ∧ w' = w := by
  generalize hm : kindOk k = m
  have HM := hide hm
  clear hm
  go_enter Tryz.func72, Tryz.ntmps72
  go_wp2
  all_goals go_ret
  all_goals refine ⟨ret_bool ?_, rfl⟩
  all_goals rw [← HM.out, Bool.eq_iff_iff]
  all_goals simp only [kindOk, Bool.or_eq_true, beq_iff_eq, decide_eq_true_eq]
  all_goals first | omega | simp_all

theorem clip_is (n : Int) : (clip n == n) = decide (-2147483648 ≤ n ∧ n ≤ 2147483647) := by
  unfold clip
  split
  · rw [decide_eq_false (by omega)]; simp; omega
  · split
    · rw [decide_eq_false (by omega)]; simp; omega
    · rw [decide_eq_true (by omega)]; simp

end Go.Proofs.YtamglfhnhjgdjaaGreatDoor
