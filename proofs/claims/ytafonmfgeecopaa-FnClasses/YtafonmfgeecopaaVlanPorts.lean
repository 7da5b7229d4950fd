/-
  A port's bit, to which network a frame belongs, and how it goes out: the specification's and the program's.
-/
import Derived.Test.YtafonmfgeecopaaVlanTab
import Derived.Test.YtafonmfgeecopaaVtabEgress
namespace Go.Proofs.Ytafonmfgeecopaa
open Go.RowKit

theorem bitOf_out {n port : Int} (h : in3 port 0 7 = false) : bitOf n port = false := by
  unfold bitOf
  rw [h]
  rfl

theorem bitOf_in {n : Int} {k : Nat} (h : k ≤ 7) : bitOf n (k : Int) = (bits .and .i64 (n / 2 ^ k) 1 == 1) := by
  unfold bitOf in3
  rw [Int.toNat_natCast, decide_eq_true (show (0 : Int) ≤ (k : Int) by omega), decide_eq_true (show (k : Int) ≤ 7 by omega)]
  rfl

set_option maxRecDepth 100000 in
set_option maxHeartbeats 2000000 in
theorem specBit_any (n port : Int) (w : World) :
    Calls Try.prog 70 #[.int .i64 n, .int .i64 port] w fun e w' => e = .returned (.bool (bitOf n port)) ∧ w' = w := by
  cases hin : in3 port 0 7
  · rw [bitOf_out hin]
    have HIN := hide hin
    clear hin
    go_enter Try.func70, Try.ntmps70
    go_wp2_with fail
    refine (within_any port 0 7 _).mono ?_
    rintro e w1 ⟨rfl, e1⟩
    obtain rfl := e1.symm
    rw [show (decide (0 ≤ port) && decide (port ≤ 7)) = false from HIN.out]
    go_wp2
    go_ret
    exact ⟨rfl, rfl⟩
  · have hp : 0 ≤ port ∧ port ≤ 7 := by unfold in3 at hin; simpa using hin
    obtain ⟨k, rfl⟩ : ∃ k : Nat, port = (k : Int) := ⟨port.toNat, by omega⟩
    rw [bitOf_in (by omega)]
    generalize hB : (bits .and .i64 (n / 2 ^ k) 1 == 1) = B
    have hwk : IntKind.u64.wrap (k : Int) = (k : Int) := by rw [IntKind.wrap_u64]; omega
    have HIN := hide hin
    clear hin
    go_enter Try.func70, Try.ntmps70
    go_wp2_with fail
    refine (within_any (k : Int) 0 7 _).mono ?_
    rintro e w1 ⟨rfl, e1⟩
    obtain rfl := e1.symm
    rw [show (decide (0 ≤ (k : Int)) && decide ((k : Int) ≤ 7)) = true from HIN.out]
    go_wp2
    go_ret
    exact ⟨ret_bool (by first | rfl | simp [hB]), rfl⟩

set_option maxRecDepth 100000 in
set_option maxHeartbeats 2000000 in
theorem lawBit_yes (n : Int) (k : Nat) (hk : k ≤ 7) (w : World) (h : bitOf n (k : Int) = true) :
    Calls Try.prog 33 #[.int .i64 n, .int .i64 k] w fun e w' => e = .returned (.bool true) ∧ w' = w := by
  rw [bitOf_in hk] at h
  have i1 : (0 : Int) ≤ (k : Int) := by omega
  have i2 : (k : Int) < 8 := by omega
  have hwk : IntKind.u64.wrap (k : Int) = (k : Int) := by rw [IntKind.wrap_u64]; omega
  go_enter Try.func33, Try.ntmps33
  go_wp2
  go_ret
  exact ⟨ret_bool (by first | rfl | simp [h]), rfl⟩

/-- The program's own way: a number that has the port's bit alone. -/
def hasP (n port : Int) : Bool := decide (0 ≤ port) && (bits .and .i64 n (2 ^ port.toNat) != 0)

theorem hasP_same {n port : Int} (hn : I64 n) (h : port ≤ 7 ∨ (port ≤ 9 ∧ 0 ≤ n ∧ n ≤ 63)) : hasP n port = bitOf n port := by
  unfold hasP
  by_cases h0 : 0 ≤ port
  · obtain ⟨k, rfl⟩ : ∃ k : Nat, port = (k : Int) := ⟨port.toNat, by omega⟩
    rw [decide_eq_true h0, Bool.true_and, Int.toNat_natCast, bit_same n k (by omega) hn]
    by_cases h7 : k ≤ 7
    · rw [bitOf_in h7]
    · rw [bitOf_out (by unfold in3; rw [decide_eq_false (show ¬ (k : Int) ≤ 7 by omega), Bool.and_false])]
      have hn2 : 0 ≤ n ∧ n ≤ 63 := by rcases h with h | h <;> omega
      rcases (show k = 8 ∨ k = 9 by omega) with rfl | rfl
      · rw [show n / 2 ^ 8 = 0 by simp; omega]
        decide
      · rw [show n / 2 ^ 9 = 0 by simp; omega]
        decide
  · rw [decide_eq_false h0, Bool.false_and, bitOf_out (by unfold in3; rw [decide_eq_false h0, Bool.false_and])]

set_option maxRecDepth 100000 in
set_option maxHeartbeats 2000000 in
theorem implHasPort_any (n port : Int) (hp : port ≤ 9) (w : World) :
    Calls Try.prog 69 #[.int .i64 n, .int .i64 port] w fun e w' => e = .returned (.bool (hasP n port)) ∧ w' = w := by
  by_cases h0 : 0 ≤ port
  · have hx : port = 0 ∨ port = 1 ∨ port = 2 ∨ port = 3 ∨ port = 4 ∨ port = 5 ∨ port = 6 ∨ port = 7 ∨ port = 8 ∨ port = 9 := by omega
    rcases hx with rfl | rfl | rfl | rfl | rfl | rfl | rfl | rfl | rfl | rfl
    · rw [show hasP n 0 = (bits .and .i64 n 1 != 0) from rfl]
      generalize hB : (bits .and .i64 n 1 != 0) = B
      go_enter Try.func69, Try.ntmps69
      go_wp2
      go_ret
      exact ⟨ret_bool (by first | rfl | simp [hB]), rfl⟩
    · rw [show hasP n 1 = (bits .and .i64 n 2 != 0) from rfl]
      generalize hB : (bits .and .i64 n 2 != 0) = B
      go_enter Try.func69, Try.ntmps69
      go_wp2
      go_ret
      exact ⟨ret_bool (by first | rfl | simp [hB]), rfl⟩
    · rw [show hasP n 2 = (bits .and .i64 n 4 != 0) from rfl]
      generalize hB : (bits .and .i64 n 4 != 0) = B
      go_enter Try.func69, Try.ntmps69
      go_wp2
      go_ret
      exact ⟨ret_bool (by first | rfl | simp [hB]), rfl⟩
    · rw [show hasP n 3 = (bits .and .i64 n 8 != 0) from rfl]
      generalize hB : (bits .and .i64 n 8 != 0) = B
      go_enter Try.func69, Try.ntmps69
      go_wp2
      go_ret
      exact ⟨ret_bool (by first | rfl | simp [hB]), rfl⟩
    · rw [show hasP n 4 = (bits .and .i64 n 16 != 0) from rfl]
      generalize hB : (bits .and .i64 n 16 != 0) = B
      go_enter Try.func69, Try.ntmps69
      go_wp2
      go_ret
      exact ⟨ret_bool (by first | rfl | simp [hB]), rfl⟩
    · rw [show hasP n 5 = (bits .and .i64 n 32 != 0) from rfl]
      generalize hB : (bits .and .i64 n 32 != 0) = B
      go_enter Try.func69, Try.ntmps69
      go_wp2
      go_ret
      exact ⟨ret_bool (by first | rfl | simp [hB]), rfl⟩
    · rw [show hasP n 6 = (bits .and .i64 n 64 != 0) from rfl]
      generalize hB : (bits .and .i64 n 64 != 0) = B
      go_enter Try.func69, Try.ntmps69
      go_wp2
      go_ret
      exact ⟨ret_bool (by first | rfl | simp [hB]), rfl⟩
    · rw [show hasP n 7 = (bits .and .i64 n 128 != 0) from rfl]
      generalize hB : (bits .and .i64 n 128 != 0) = B
      go_enter Try.func69, Try.ntmps69
      go_wp2
      go_ret
      exact ⟨ret_bool (by first | rfl | simp [hB]), rfl⟩
    · rw [show hasP n 8 = (bits .and .i64 n 256 != 0) from rfl]
      generalize hB : (bits .and .i64 n 256 != 0) = B
      go_enter Try.func69, Try.ntmps69
      go_wp2
      go_ret
      exact ⟨ret_bool (by first | rfl | simp [hB]), rfl⟩
    · rw [show hasP n 9 = (bits .and .i64 n 512 != 0) from rfl]
      generalize hB : (bits .and .i64 n 512 != 0) = B
      go_enter Try.func69, Try.ntmps69
      go_wp2
      go_ret
      exact ⟨ret_bool (by first | rfl | simp [hB]), rfl⟩
  · rw [show hasP n port = false by unfold hasP; rw [decide_eq_false h0]; rfl]
    go_enter Try.func69, Try.ntmps69
    go_wp2
    go_ret
    exact ⟨rfl, rfl⟩

/-- The network to which a frame belongs. -/
def classId (v : VT) (port tag : Int) : Int := if tag = 0 then v.own.getD port.toNat 0 else tag
def classOf (v : VT) (port tag : Int) : Int × Bool :=
  if (decide (0 ≤ port) && decide (port ≤ (v.own.length : Int) - 1)) && bitOf (egressOf v (classId v port tag)) port then (classId v port tag, true) else (0, false)

theorem bitOf_zero (port : Int) : bitOf 0 port = false := by
  unfold bitOf
  rw [Int.zero_ediv]
  rw [show (bits .and .i64 0 1 == 1) = false by decide, Bool.and_false]

theorem egress_rng {v : VT} (h : ∀ r ∈ v.rows, r.Rng) (id : Int) : I64 (egressOf v id) := by
  unfold egressOf
  cases hf : v.rows.find? (fun r => r.i == id) with
  | none => unfold I64; simp only; omega
  | some r => exact (h r (List.mem_of_find?_eq_some hf)).2.1

set_option maxRecDepth 100000 in
set_option maxHeartbeats 4000000 in
theorem implClassOf_any (a : Option Addr) (n c : Nat) (o : Option Addr) (p q : Nat) (v : VT) (port tag : Int) (w : World) (h : VTab w a n c o p q v) (hR : ∀ r ∈ v.rows, r.Rng) (hp8 : p ≤ 8) :
    Calls Try.prog 29 #[.agg #[.slice a n c, .slice o p q], .int .i64 port, .int .i64 tag] w fun e w' => e = .returned (.tuple #[.int .i64 (classOf v port tag).1, .bool (classOf v port tag).2]) ∧ Below w.heap.size w w' := by
  have hsz := h.own.size
  have hle2 := h.own.le
  generalize hw1 : w.alloc (Obj.cells #[Value.slice a n c, Value.slice o p q] 27) = w1
  have b01 : Below w.heap.size w w1 := by subst hw1; exact below_one _ _
  obtain ⟨x0, x1⟩ := box_two hw1 (Below.refl _ w1)
  have h1 := h.below b01
  have hsub : IntKind.i64.wrap ((p : Int) - 1) = (p : Int) - 1 := by rw [IntKind.wrap_i64]; omega
  unfold classOf
  rw [hsz]
  have HSZ := hide hsz
  clear hsz
  cases hin : (decide (0 ≤ port) && decide (port ≤ (p : Int) - 1))
  · rw [Bool.false_and, if_neg Bool.false_ne_true]
    have HIN := hide hin
    clear hin
    go_enter Try.func29, Try.ntmps29
    go_wp2_with fail
    refine (implIn9_any port 0 ((p : Int) - 1) _).mono ?_
    rintro e w2 ⟨rfl, e2⟩
    obtain rfl := e2.symm
    rw [HIN.out]
    go_wp2
    exact bodyPost_ret (v := .tuple #[.int .i64 0, .bool false]) (by simp [results, Try.results29, go_sem, *]) rfl ⟨rfl, b01⟩
  · obtain ⟨k, rfl⟩ : ∃ k : Nat, port = (k : Int) := ⟨port.toNat, by simp at hin; omega⟩
    have hk : k < p := by simp at hin; omega
    rw [Bool.true_and]
    have HIN := hide hin
    clear hin
    obtain ⟨y, b, off, hy, rfl, cy⟩ := irow_at h1.own k hk
    have hsame := hasP_same (n := egressOf v (classId v (k : Int) tag)) (port := (k : Int)) (egress_rng hR _) (.inl (by omega))
    have hid : classId v (k : Int) tag = if tag = 0 then y else tag := by
      unfold classId
      rw [Int.toNat_natCast, List.getD_eq_getElem?_getD, hy]
      rfl
    generalize hI : classId v (k : Int) tag = I at hsame hid
    have i1 : (0 : Int) ≤ (k : Int) := by omega
    have i2 : (k : Int) < (p : Int) := by omega
    have HI := hide hI
    clear hI hy
    generalize hBB : bitOf (egressOf v I) (k : Int) = BB at hsame
    have HS := hide hsame
    clear hsame hBB
    by_cases ht : tag = 0
    · subst ht
      rw [if_pos rfl] at hid
      subst hid
      go_enter Try.func29, Try.ntmps29
      go_wp2_with fail
      refine (implIn9_any (k : Int) 0 ((p : Int) - 1) _).mono ?_
      rintro e w2 ⟨rfl, e2⟩
      obtain rfl := e2.symm
      rw [HIN.out]
      go_wp2_with fail
      refine (implEgress_any _ _ _ _ _ _ v I _ h1.rows).mono ?_
      rintro e w3 ⟨rfl, hb3⟩
      go_wp2_with fail
      refine (implHasPort_any (egressOf v I) (k : Int) (by omega) _).mono ?_
      rintro e w4 ⟨rfl, e4⟩
      obtain rfl := e4.symm
      rw [HS.out]
      have HB := hide (gr_trans b01 hb3)
      clear hb3
      cases BB
      · go_wp2
        exact bodyPost_ret (v := .tuple #[.int .i64 0, .bool false]) (by simp [results, Try.results29, go_sem, *]) rfl ⟨rfl, HB.out⟩
      · go_wp2
        exact bodyPost_ret (v := .tuple #[.int .i64 I, .bool true]) (by simp [results, Try.results29, go_sem, *]) rfl ⟨rfl, HB.out⟩
    · rw [if_neg ht] at hid
      subst hid
      go_enter Try.func29, Try.ntmps29
      go_wp2_with fail
      refine (implIn9_any (k : Int) 0 ((p : Int) - 1) _).mono ?_
      rintro e w2 ⟨rfl, e2⟩
      obtain rfl := e2.symm
      rw [HIN.out]
      go_wp2_with fail
      refine (implEgress_any _ _ _ _ _ _ v I _ h1.rows).mono ?_
      rintro e w3 ⟨rfl, hb3⟩
      go_wp2_with fail
      refine (implHasPort_any (egressOf v I) (k : Int) (by omega) _).mono ?_
      rintro e w4 ⟨rfl, e4⟩
      obtain rfl := e4.symm
      rw [HS.out]
      have HB := hide (gr_trans b01 hb3)
      clear hb3
      cases BB
      · go_wp2
        exact bodyPost_ret (v := .tuple #[.int .i64 0, .bool false]) (by simp [results, Try.results29, go_sem, *]) rfl ⟨rfl, HB.out⟩
      · go_wp2
        exact bodyPost_ret (v := .tuple #[.int .i64 I, .bool true]) (by simp [results, Try.results29, go_sem, *]) rfl ⟨rfl, HB.out⟩

set_option maxRecDepth 100000 in
set_option maxHeartbeats 4000000 in
theorem specClass_end (a : Option Addr) (n c : Nat) (o : Option Addr) (p q : Nat) (v : VT) (k : Nat) (tag I : Int) (w : World) (h : VTab w a n c o p q v) (hk : k < p) (hid : ∀ y, v.own[k]? = some y → I = if tag = 0 then y else tag) (BB : Bool) (hBB : bitOf (egressOf v I) (k : Int) = BB) :
    Calls Try.prog 30 #[.agg #[.slice a n c, .slice o p q], .int .i64 k, .int .i64 tag] w fun e w' => e = .returned (.tuple #[.int .i64 (if BB then I else 0), .bool BB]) ∧ Below w.heap.size w w' := by
  have hle2 := h.own.le
  have htop2 := h.own.top
  have hle := h.rows.le
  have htop := h.rows.top
  unfold maxLen at htop htop2
  generalize hw1 : w.alloc (Obj.cells #[Value.slice a n c, Value.slice o p q] 27) = w1
  have b01 : Below w.heap.size w w1 := by subst hw1; exact below_one _ _
  obtain ⟨x0, x1⟩ := box_two hw1 (Below.refl _ w1)
  have h1 := h.below b01
  have hsub : IntKind.i64.wrap ((p : Int) - 1) = (p : Int) - 1 := by rw [IntKind.wrap_i64]; omega
  have HIN : Hid ((decide (0 ≤ (k : Int)) && decide ((k : Int) ≤ (p : Int) - 1)) = true) := hide (by simp; omega)
  obtain ⟨y, b, off, hy, rfl, cy⟩ := irow_at h1.own k hk
  have hid := hid y hy
  have i1 : (0 : Int) ≤ (k : Int) := by omega
  have i2 : (k : Int) < (p : Int) := by omega
  clear hy
  by_cases ht : tag = 0
  · subst ht
    rw [if_pos rfl] at hid
    subst hid
    cases hr : rowIdx v.rows I with
    | none =>
      have hB0 : BB = false := by
        rw [← hBB, show egressOf v I = 0 by unfold egressOf; rw [rowIdx_find hr]]
        exact bitOf_zero _
      subst hB0
      have HA := hide (rowAt_no hr)
      clear hr hBB
      go_enter Try.func30, Try.ntmps30
      go_wp2_with fail
      refine (within_any (k : Int) 0 ((p : Int) - 1) _).mono ?_
      rintro e w2 ⟨rfl, e2⟩
      obtain rfl := e2.symm
      rw [HIN.out]
      go_wp2_with fail
      refine (specRowAt_any a n c v.rows _ p q I _ h1.rows).mono ?_
      rintro r w3 ⟨rfl, hb3⟩
      rw [HA.out]
      have HB := hide (gr_trans b01 hb3)
      clear hb3 x0 x1 cy
      go_wp2
      exact bodyPost_ret (v := .tuple #[.int .i64 0, .bool false]) (by simp [results, Try.results30, go_sem, *]) rfl ⟨rfl, HB.out⟩
    | some j =>
      obtain ⟨x, hx, -, hf⟩ := rowIdx_some hr
      have hB1 : bitOf x.m (k : Int) = BB := by
        rw [← hBB, show egressOf v I = x.m by unfold egressOf; rw [hf]]
      have HB1 := hide hB1
      have HA := hide (rowAt_yes hr)
      have hjn : j < n := by have := (List.getElem?_eq_some_iff.1 hx).1; have := h.rows.size; omega
      have hneg : ¬ ((j : Int) < 0) := by omega
      have i3 : (0 : Int) ≤ (j : Int) := by omega
      have i4 : (j : Int) < (n : Int) := by omega
      clear hr hf hBB hB1
      go_enter Try.func30, Try.ntmps30
      go_wp2_with fail
      refine (within_any (k : Int) 0 ((p : Int) - 1) _).mono ?_
      rintro e w2 ⟨rfl, e2⟩
      obtain rfl := e2.symm
      rw [HIN.out]
      go_wp2_with fail
      refine (specRowAt_any a n c v.rows _ p q I _ h1.rows).mono ?_
      rintro r w3 ⟨rfl, hb3⟩
      rw [HA.out]
      obtain ⟨z, b', off', hz, rfl, c0, c1, c2⟩ := vrow_at (h1.rows.below hb3) j hjn
      rw [hx] at hz
      cases hz
      obtain ⟨y0, y1⟩ := box_two hw1 hb3
      have HB := hide (gr_trans b01 hb3)
      clear hb3 x0 x1 cy hx
      go_wp2_with fail
      refine (specBit_any x.m (k : Int) _).mono ?_
      rintro e w4 ⟨rfl, e4⟩
      obtain rfl := e4.symm
      rw [HB1.out]
      cases BB
      · go_wp2
        exact bodyPost_ret (v := .tuple #[.int .i64 0, .bool false]) (by simp [results, Try.results30, go_sem, *]) rfl ⟨rfl, HB.out⟩
      · go_wp2
        exact bodyPost_ret (v := .tuple #[.int .i64 I, .bool true]) (by simp [results, Try.results30, go_sem, *]) rfl ⟨rfl, HB.out⟩
  · rw [if_neg ht] at hid
    subst hid
    cases hr : rowIdx v.rows I with
    | none =>
      have hB0 : BB = false := by
        rw [← hBB, show egressOf v I = 0 by unfold egressOf; rw [rowIdx_find hr]]
        exact bitOf_zero _
      subst hB0
      have HA := hide (rowAt_no hr)
      clear hr hBB
      go_enter Try.func30, Try.ntmps30
      go_wp2_with fail
      refine (within_any (k : Int) 0 ((p : Int) - 1) _).mono ?_
      rintro e w2 ⟨rfl, e2⟩
      obtain rfl := e2.symm
      rw [HIN.out]
      go_wp2_with fail
      refine (specRowAt_any a n c v.rows _ p q I _ h1.rows).mono ?_
      rintro r w3 ⟨rfl, hb3⟩
      rw [HA.out]
      have HB := hide (gr_trans b01 hb3)
      clear hb3 x0 x1 cy
      go_wp2
      exact bodyPost_ret (v := .tuple #[.int .i64 0, .bool false]) (by simp [results, Try.results30, go_sem, *]) rfl ⟨rfl, HB.out⟩
    | some j =>
      obtain ⟨x, hx, -, hf⟩ := rowIdx_some hr
      have hB1 : bitOf x.m (k : Int) = BB := by
        rw [← hBB, show egressOf v I = x.m by unfold egressOf; rw [hf]]
      have HB1 := hide hB1
      have HA := hide (rowAt_yes hr)
      have hjn : j < n := by have := (List.getElem?_eq_some_iff.1 hx).1; have := h.rows.size; omega
      have hneg : ¬ ((j : Int) < 0) := by omega
      have i3 : (0 : Int) ≤ (j : Int) := by omega
      have i4 : (j : Int) < (n : Int) := by omega
      clear hr hf hBB hB1
      go_enter Try.func30, Try.ntmps30
      go_wp2_with fail
      refine (within_any (k : Int) 0 ((p : Int) - 1) _).mono ?_
      rintro e w2 ⟨rfl, e2⟩
      obtain rfl := e2.symm
      rw [HIN.out]
      go_wp2_with fail
      refine (specRowAt_any a n c v.rows _ p q I _ h1.rows).mono ?_
      rintro r w3 ⟨rfl, hb3⟩
      rw [HA.out]
      obtain ⟨z, b', off', hz, rfl, c0, c1, c2⟩ := vrow_at (h1.rows.below hb3) j hjn
      rw [hx] at hz
      cases hz
      obtain ⟨y0, y1⟩ := box_two hw1 hb3
      have HB := hide (gr_trans b01 hb3)
      clear hb3 x0 x1 cy hx
      go_wp2_with fail
      refine (specBit_any x.m (k : Int) _).mono ?_
      rintro e w4 ⟨rfl, e4⟩
      obtain rfl := e4.symm
      rw [HB1.out]
      cases BB
      · go_wp2
        exact bodyPost_ret (v := .tuple #[.int .i64 0, .bool false]) (by simp [results, Try.results30, go_sem, *]) rfl ⟨rfl, HB.out⟩
      · go_wp2
        exact bodyPost_ret (v := .tuple #[.int .i64 I, .bool true]) (by simp [results, Try.results30, go_sem, *]) rfl ⟨rfl, HB.out⟩

set_option maxRecDepth 100000 in
set_option maxHeartbeats 400000 in
theorem specClassOf_any (a : Option Addr) (n c : Nat) (o : Option Addr) (p q : Nat) (v : VT) (port tag : Int) (w : World) (h : VTab w a n c o p q v) (hp8 : p ≤ 8) :
    Calls Try.prog 30 #[.agg #[.slice a n c, .slice o p q], .int .i64 port, .int .i64 tag] w fun e w' => e = .returned (.tuple #[.int .i64 (classOf v port tag).1, .bool (classOf v port tag).2]) ∧ Below w.heap.size w w' := by
  have hsz := h.own.size
  unfold classOf
  rw [hsz]
  cases hin : (decide (0 ≤ port) && decide (port ≤ (p : Int) - 1))
  · rw [Bool.false_and, if_neg Bool.false_ne_true]
    have hsub : IntKind.i64.wrap ((p : Int) - 1) = (p : Int) - 1 := by rw [IntKind.wrap_i64]; omega
    have HIN := hide hin
    clear hin
    have b01 := below_one w (Obj.cells #[Value.slice a n c, Value.slice o p q] 27)
    go_enter Try.func30, Try.ntmps30
    go_wp2_with fail
    refine (within_any port 0 ((p : Int) - 1) _).mono ?_
    rintro e w2 ⟨rfl, e2⟩
    subst e2
    rw [HIN.out]
    go_wp2
    exact bodyPost_ret (v := .tuple #[.int .i64 0, .bool false]) (by simp [results, Try.results30, go_sem, *]) rfl ⟨rfl, b01⟩
  · obtain ⟨k, rfl⟩ : ∃ k : Nat, port = (k : Int) := ⟨port.toNat, by simp at hin; omega⟩
    have hk : k < p := by simp at hin; omega
    rw [Bool.true_and]
    refine (specClass_end a n c o p q v k tag (classId v (k : Int) tag) w h hk (fun y hy => by unfold classId; rw [Int.toNat_natCast, List.getD_eq_getElem?_getD, hy]; rfl) _ rfl).mono ?_
    rintro e w' ⟨rfl, hb⟩
    refine ⟨?_, hb⟩
    cases bitOf (egressOf v (classId v (k : Int) tag)) (k : Int) <;> rfl

set_option maxRecDepth 100000 in
set_option maxHeartbeats 4000000 in
theorem implShown_any (a : Option Addr) (n c : Nat) (o : Option Addr) (p q : Nat) (v : VT) (id port : Int) (w : World) (h : GRow vrowF w a n c v.rows) (hR : ∀ r ∈ v.rows, r.Rng ∧ 0 ≤ r.b ∧ r.b ≤ 63) (hp : port ≤ 9) :
    Calls Try.prog 35 #[.agg #[.slice a n c, .slice o p q], .int .i64 id, .int .i64 port] w fun e w' => e = .returned (.int .i64 (shownTag v id port)) ∧ Below w.heap.size w w' := by
  have q0 := below_one w (.cells #[.slice a n c, .slice o p q] 27)
  cases hf : v.rows.find? (fun r => r.i == id) with
  | none =>
    rw [show shownTag v id port = 0 by unfold shownTag; rw [hf]]
    have HF : Hid (findRow v.rows id = ⟨0, 0, 0⟩) := hide (by unfold findRow; rw [hf]; rfl)
    have HT : Hid ((v.rows.find? (fun r => r.i == id)).isSome = false) := hide (by rw [hf]; rfl)
    clear hf
    go_enter Try.func35, Try.ntmps35
    go_wp2_with fail
    refine (implRowsOf_any a n c o p q _).mono ?_
    rintro e w1 ⟨rfl, hb1⟩
    have q1 := gr_trans q0 hb1
    clear hb1
    go_wp2_with fail
    refine (implFind_any a n c v.rows id _ (h.below q1)).mono ?_
    rw [HF.out, HT.out]
    rintro e w2 ⟨rfl, hb2⟩
    have HB := hide (gr_trans q1 hb2)
    clear hb2 q1 q0
    go_wp2
    go_ret
    exact ⟨rfl, gr_trans HB.out (below_one _ _)⟩
  | some x =>
    have hx := hR x (List.mem_of_find?_eq_some hf)
    have hS := hasP_same (n := x.b) (port := port) hx.1.2.2 (by by_cases h7 : port ≤ 7; exact .inl h7; exact .inr ⟨hp, hx.2⟩)
    rw [show shownTag v id port = if bitOf x.b port then 0 else id by unfold shownTag; rw [hf]]
    generalize bitOf x.b port = BB at hS
    have HF : Hid (findRow v.rows id = x) := hide (by unfold findRow; rw [hf]; rfl)
    have HT : Hid ((v.rows.find? (fun r => r.i == id)).isSome = true) := hide (by rw [hf]; rfl)
    have HS := hide hS
    clear hf hS hx
    go_enter Try.func35, Try.ntmps35
    go_wp2_with fail
    refine (implRowsOf_any a n c o p q _).mono ?_
    rintro e w1 ⟨rfl, hb1⟩
    have q1 := gr_trans q0 hb1
    clear hb1
    go_wp2_with fail
    refine (implFind_any a n c v.rows id _ (h.below q1)).mono ?_
    rw [HF.out, HT.out]
    rintro e w2 ⟨rfl, hb2⟩
    have q2 := gr_trans q1 hb2
    clear hb2 q1 q0
    go_wp2_with fail
    refine (implHasPort_any x.b port hp _).mono ?_
    rintro e w4 ⟨rfl, e4⟩
    subst e4
    rw [HS.out]
    have HB := hide (gr_trans q2 (below_one w2 (.cells #[.int .i64 x.i, .int .i64 x.m, .int .i64 x.b] 29)))
    clear q2
    cases BB
    · go_wp2
      go_ret
      exact ⟨rfl, HB.out⟩
    · go_wp2
      go_ret
      exact ⟨rfl, HB.out⟩

set_option maxRecDepth 100000 in
set_option maxHeartbeats 4000000 in
theorem specShown_any (a : Option Addr) (n c : Nat) (o : Option Addr) (p q : Nat) (v : VT) (id port : Int) (w : World) (h : GRow vrowF w a n c v.rows) :
    Calls Try.prog 36 #[.agg #[.slice a n c, .slice o p q], .int .i64 id, .int .i64 port] w fun e w' => e = .returned (.int .i64 (shownTag v id port)) ∧ Below w.heap.size w w' := by
  have hle := h.le
  have htop := h.top
  unfold maxLen at htop
  have hsz := hide h.size
  generalize hw1 : w.alloc (Obj.cells #[Value.slice a n c, Value.slice o p q] 27) = w1
  have q0 : Below w.heap.size w w1 := by subst hw1; exact below_one _ _
  obtain ⟨x0, x1⟩ := box_two hw1 (Below.refl _ w1)
  cases hr : rowIdx v.rows id with
  | none =>
    rw [show shownTag v id port = 0 by unfold shownTag; rw [rowIdx_find hr]]
    have HA := hide (rowAt_no hr)
    clear hr
    go_enter Try.func36, Try.ntmps36
    go_wp2_with fail
    refine (specRowAt_any a n c v.rows o p q id _ (h.below q0)).mono ?_
    rintro r w2 ⟨rfl, hb2⟩
    rw [HA.out]
    have HB := hide (gr_trans q0 hb2)
    clear hb2 x0 x1
    go_wp2
    go_ret
    exact ⟨rfl, HB.out⟩
  | some k =>
    obtain ⟨x, hx, -, hf⟩ := rowIdx_some hr
    rw [show shownTag v id port = if bitOf x.b port then 0 else id by unfold shownTag; rw [hf]]
    generalize hBB : bitOf x.b port = BB
    have HBB := hide hBB
    have HA := hide (rowAt_yes hr)
    have hkn : k < n := by have := (List.getElem?_eq_some_iff.1 hx).1; have := hsz.out; omega
    have hneg : ¬ ((k : Int) < 0) := by omega
    have i1 : (0 : Int) ≤ (k : Int) := by omega
    have i2 : (k : Int) < (n : Int) := by omega
    clear hr hf hBB
    go_enter Try.func36, Try.ntmps36
    go_wp2_with fail
    refine (specRowAt_any a n c v.rows o p q id _ (h.below q0)).mono ?_
    rintro r w2 ⟨rfl, hb2⟩
    rw [HA.out]
    obtain ⟨y, b, off, hy, rfl, c0, c1, c2⟩ := vrow_at (h.below (gr_trans q0 hb2)) k hkn
    rw [hx] at hy
    cases hy
    obtain ⟨y0, y1⟩ := box_two hw1 hb2
    have HB := hide (gr_trans q0 hb2)
    clear hb2 x0 x1 hx
    go_wp2_with fail
    refine (specBit_any x.b port _).mono ?_
    rintro e w4 ⟨rfl, e4⟩
    obtain rfl := e4.symm
    rw [HBB.out]
    cases BB
    · go_wp2
      go_ret
      exact ⟨rfl, HB.out⟩
    · go_wp2
      go_ret
      exact ⟨rfl, HB.out⟩

end Go.Proofs.Ytafonmfgeecopaa
