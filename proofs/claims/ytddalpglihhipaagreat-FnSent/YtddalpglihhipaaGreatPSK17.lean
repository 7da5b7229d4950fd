/-
  Packed: VlanTab VlanPorts FwdMath FwdPow BrNewS VtabPut.
-/
import Derived.Test.YtddalpglihhipaaGreatPSKW
import Derived.Test.YtddalpglihhipaaGreatPSBrOkS
import Derived.Test.YtddalpglihhipaaGreatPSK01
import Derived.Test.YtddalpglihhipaaGreatPSK02
import Derived.Test.YtddalpglihhipaaGreatPSK03
import Derived.Test.YtddalpglihhipaaGreatPSK11
import Derived.Test.YtddalpglihhipaaGreatPSVlanOk
import Derived.Test.YtddalpglihhipaaGreatPSVtabRow
namespace Go.Proofs.YtddalpglihhipaaGreat
open Go.RowKit

theorem rowAt_no {l : List VR} {id : Int} (h : rowIdx l id = none) : rowAt l id = -1 := by unfold rowAt; rw [h]
theorem rowAt_yes {l : List VR} {id : Int} {k : Nat} (h : rowIdx l id = some k) : rowAt l id = k := by unfold rowAt; rw [h]

set_option maxRecDepth 100000 in
set_option maxHeartbeats 4000000 in
theorem implVtabOk_any (a : Option Addr) (n c : Nat) (o : Option Addr) (p q : Nat) (v : VT) (ports : Int) (w : World) (h : VTab w a n c o p q v) (hR : ∀ r ∈ v.rows, r.Rng) :
  Calls Tryz.prog 68 #[.agg #[.slice a n c, .slice o p q], .int .i64 ports] w fun r w' => r = .returned (.bool (vtabOk v ports)) ∧ Below w.heap.size w w' := by
 have hle := h.rows.le
 have htop := h.rows.top
 have hle2 := h.own.le
 have htop2 := h.own.top
 unfold maxLen at htop htop2
 have hsz := hide h.rows.size
 have hsz2 := hide h.own.size
 generalize hw1 : w.alloc (Obj.cells #[Value.slice a n c, Value.slice o p q] 29) = w1
 have hW : Below w.heap.size w w1 := by subst hw1; exact below_one _ _
 obtain ⟨e0, e1⟩ := box_two hw1 (Below.refl _ w1)
 have h := h.below hW
 generalize hV : vtabOk v ports = V
 have HV := hide hV
 clear hV
 cases t1 : (decide (1 ≤ ports) && decide (ports ≤ 6))
 ·have HN := hide (vtab_in (v := v) t1)
  have T1 := hide t1
  clear t1
  go_enter Tryz.func68, Tryz.ntmps68
  go_wp2_with (refine (implIn9_any ports 1 6 _).mono ?_; rintro r w2 ⟨rfl, e2⟩; obtain rfl := e2.symm; rw [T1.out])
  go_ret
  exact ⟨ret_bool (by rw [← HV.out, HN.out]), hW⟩
 have T1 := hide t1
 simp only [Bool.and_eq_true, decide_eq_true_eq] at t1
 by_cases t2 : (p : Int) = ports
 case neg =>
  have HN := hide (vtab_len (v := v) (ports := ports) (by rw [hsz2.out]; exact t2))
  go_enter Tryz.func68, Tryz.ntmps68
  go_wp2_with (refine (implIn9_any ports 1 6 _).mono ?_; rintro r w2 ⟨rfl, e2⟩; obtain rfl := e2.symm; rw [T1.out])
  go_ret
  exact ⟨ret_bool (by rw [← HV.out, HN.out]), hW⟩
 subst t2
 by_cases t3 : n ≤ 6
 case neg =>
  have HN := hide (vtab_many (v := v) (ports := p) (by rw [hsz.out]; exact t3))
  go_enter Tryz.func68, Tryz.ntmps68
  go_wp2_with (refine (implIn9_any (p : Int) 1 6 _).mono ?_; rintro r w2 ⟨rfl, e2⟩; obtain rfl := e2.symm; rw [T1.out])
  go_ret
  exact ⟨ret_bool (by rw [← HV.out, HN.out]), hW⟩
 cases t4 : vrises v.rows
 ·have HN := hide (vtab_rise (v := v) (ports := p) t4)
  have T4 := hide t4
  clear t4
  go_enter Tryz.func68, Tryz.ntmps68
  go_wp2_with (refine (implIn9_any (p : Int) 1 6 _).mono ?_; rintro r w2 ⟨rfl, e2⟩; obtain rfl := e2.symm; rw [T1.out])
  refine (implRowsOf_any a n c o p q _).mono ?_
  rintro r w2 ⟨rfl, hb2⟩
  go_wp2_with fail
  refine (implAscends_any a n c v.rows _ (h.rows.below hb2)).mono ?_
  rintro r w3 ⟨rfl, hb3⟩
  rw [T4.out]
  have HB := hide (gr_trans hW (gr_trans hb2 hb3))
  clear hb2 hb3
  go_wp2
  go_ret
  exact ⟨ret_bool (by rw [← HV.out, HN.out]), HB.out⟩
 have T4 := hide t4
 clear t4
 go_enter Tryz.func68, Tryz.ntmps68
 go_wp2_with (refine (implIn9_any (p : Int) 1 6 _).mono ?_; rintro r w2 ⟨rfl, e2⟩; obtain rfl := e2.symm; rw [T1.out])
 refine (implRowsOf_any a n c o p q _).mono ?_
 rintro r w2 ⟨rfl, hb2⟩
 go_wp2_with fail
 refine (implAscends_any a n c v.rows _ (h.rows.below hb2)).mono ?_
 rintro r w3 ⟨rfl, hb3⟩
 rw [T4.out]
 have b13 := gr_trans hb2 hb3
 obtain ⟨x0, x1⟩ := box_two hw1 b13
 clear hb2 hb3 e0 e1
 go_wp2
 go_loopw [34] (fun i wr => ∃ k : Nat, k ≤ n ∧ i = .int .i64 k ∧ rowsTo (allOf p) v.rows k ∧ Below w1.heap.size w1 wr) (fun i _ => n - (intOf i).toNat)
 case atStart => exact ⟨0, Nat.zero_le _, rfl, fun i x hi => by omega, b13⟩
 case round =>
  obtain ⟨k, hk, rfl, hok, hb⟩ := hrel
  by_cases hlt : k < n
  ·obtain ⟨x, b, off, hx, rfl, c0, c1, c2⟩ := vrow_at (h.rows.below hb) k hlt
   have hxr : x.Rng := hR x (List.mem_of_getElem? hx)
   cases t5 : vrowOk (allOf p) x
   ·have HN := hide (vtab_row (v := v) (p := p) hx t5)
    have T5 := hide t5
    have HB := hide hb
    clear t5 hok hb hx x0 x1
    go_wp2_with fail
    refine (implVrowOk_any x p _ hxr (by omega) (by omega)).mono ?_
    rintro r w5 ⟨rfl, hb5⟩
    rw [T5.out]
    have HB1 := hide (gr_trans hW (gr_trans HB.out (gr_trans (below_one _ _) hb5)))
    clear hb5 c0 c1 c2
    go_wp2
    go_ret
    exact ⟨ret_bool (by rw [← HV.out, HN.out]), HB1.out⟩
   ·have HO := hide (rowsTo_next hok hx t5)
    have T5 := hide t5
    have HB := hide hb
    clear t5 hok hb hx x0 x1
    go_wp2_with fail
    refine (implVrowOk_any x p _ hxr (by omega) (by omega)).mono ?_
    rintro r w5 ⟨rfl, hb5⟩
    rw [T5.out]
    have HB1 := hide (gr_trans HB.out (gr_trans (below_one _ _) hb5))
    clear hb5 c0 c1 c2
    go_wp2
    go_roundw
    case rel => exact ⟨k + 1, by omega, by go_num, HO.out, HB1.out⟩
    case measure => simp [intOf]; omega
  ·have HK : Hid (vokTo (allOf p) v.rows v.rows.length) := hide (vokTo_of (fun i x hi hx => hok i x (by have := hsz.out; omega) hx) T4.out)
   obtain ⟨y0, y1⟩ := box_two hw1 hb
   have HB := hide hb
   have hkn : k = n := by omega
   clear hok hb x0 x1
   subst hkn
   go_wp2
   go_loopw [46] (fun i wr => ∃ k : Nat, k ≤ p ∧ i = .int .i64 k ∧ ownTo v k ∧ Below w1.heap.size w1 wr) (fun i _ => p - (intOf i).toNat)
   case atStart => exact ⟨0, Nat.zero_le _, rfl, fun i x hi => by omega, HB.out⟩
   case round =>
    obtain ⟨j, hj, rfl, hto, hb⟩ := hrel
    by_cases hlt : j < p
    ·obtain ⟨x, b, off, hx, rfl, c0⟩ := irow_at (h.own.below hb) j hlt
     obtain ⟨z0, z1⟩ := box_two hw1 hb
     clear y0 y1
     cases hr : rowIdx v.rows x with
     | none =>
      have HN := hide (vtab_own (p := p) (List.mem_of_getElem? hx) hr)
      have HA := hide (rowAt_no hr)
      have HB3 := hide hb
      clear hto hb hx hr
      go_wp2_with fail
      refine (implRowAt_any a k c v.rows (some ⟨b, off, none⟩) p q x _ (h.rows.below HB3.out)).mono ?_
      rintro r w5 ⟨rfl, hb5⟩
      rw [HA.out]
      have HB1 := hide (gr_trans hW (gr_trans HB3.out hb5))
      clear hb5 c0 z0 z1
      go_wp2
      go_ret
      exact ⟨ret_bool (by rw [← HV.out, HN.out]), HB1.out⟩
     | some i =>
      have HO := hide (ownTo_next hto hx (by rw [hr]; exact fun h => by cases h))
      have HA := hide (rowAt_yes hr)
      have HB3 := hide hb
      have hneg : ¬ ((i : Int) < 0) := by omega
      clear hto hb hx hr
      go_wp2_with fail
      refine (implRowAt_any a k c v.rows (some ⟨b, off, none⟩) p q x _ (h.rows.below HB3.out)).mono ?_
      rintro r w5 ⟨rfl, hb5⟩
      rw [HA.out]
      have HB1 := hide (gr_trans HB3.out hb5)
      clear hb5 c0 z0 z1
      go_wp2
      go_roundw
      case rel => exact ⟨j + 1, by omega, by go_num, HO.out, HB1.out⟩
      case measure => simp [intOf]; omega
    ·have HN : Hid (vtabOk v p = true) := hide (vtab_yes t1.1 t1.2 hsz2.out (by have := hsz.out; omega) HK.out (ownTo_all hto (by have := hsz2.out; omega)))
     have HB3 := hide (gr_trans hW hb)
     have hjn : j = p := by omega
     clear hto hb y0 y1
     subst hjn
     go_wp2
     go_ret
     exact ⟨ret_bool (by rw [← HV.out, HN.out]), HB3.out⟩

theorem bitOf_out {n port : Int} (h : in3 port 0 7 = false) : bitOf n port = false := by
 unfold bitOf
 rw [h]
 rfl

theorem bitOf_in {n : Int} {k : Nat} (h : k ≤ 7) : bitOf n (k : Int) = (bits .and .i64 (n / 2 ^ k) 1 == 1) := by
 unfold bitOf in3
 rw [Int.toNat_natCast, decide_eq_true (show (0 : Int) ≤ (k : Int) by omega), decide_eq_true (show (k : Int) ≤ 7 by omega)]
 rfl

set_option maxRecDepth 100000 in
set_option maxHeartbeats 2000000 in
theorem specBit_any (n port : Int) (w : World) :
  Calls Tryz.prog 53 #[.int .i64 n, .int .i64 port] w fun e w' => e = .returned (.bool (bitOf n port)) ∧ w' = w := by
 cases hin : in3 port 0 7
 ·rw [bitOf_out hin]
  have HIN := hide hin
  clear hin
  go_enter Tryz.func53, Tryz.ntmps53
  go_wp2_with fail
  refine (within_any port 0 7 _).mono ?_
  rintro e w1 ⟨rfl, e1⟩
  obtain rfl := e1.symm
  rw [show (decide (0 ≤ port) && decide (port ≤ 7)) = false from HIN.out]
  go_wp2
  go_ret
  exact ⟨rfl, rfl⟩
 ·have hp : 0 ≤ port ∧ port ≤ 7 := by unfold in3 at hin; simpa using hin
  obtain ⟨k, rfl⟩ : ∃ k : Nat, port = (k : Int) := ⟨port.toNat, by omega⟩
  rw [bitOf_in (by omega)]
  generalize hB : (bits .and .i64 (n / 2 ^ k) 1 == 1) = B
  have hwk : IntKind.u64.wrap (k : Int) = (k : Int) := by rw [IntKind.wrap_u64]; omega
  have HIN := hide hin
  clear hin
  go_enter Tryz.func53, Tryz.ntmps53
  go_wp2_with fail
  refine (within_any (k : Int) 0 7 _).mono ?_
  rintro e w1 ⟨rfl, e1⟩
  obtain rfl := e1.symm
  rw [show (decide (0 ≤ (k : Int)) && decide ((k : Int) ≤ 7)) = true from HIN.out]
  go_wp2
  go_ret
  exact ⟨ret_bool (by first | rfl | simp [hB]), rfl⟩

set_option maxRecDepth 100000 in
set_option maxHeartbeats 2000000 in
theorem lawBit_yes (n : Int) (k : Nat) (hk : k ≤ 7) (w : World) (h : bitOf n (k : Int) = true) :
  Calls Tryz.prog 15 #[.int .i64 n, .int .i64 k] w fun e w' => e = .returned (.bool true) ∧ w' = w := by
 rw [bitOf_in hk] at h
 have i1 : (0 : Int) ≤ (k : Int) := by omega
 have i2 : (k : Int) < 8 := by omega
 have hwk : IntKind.u64.wrap (k : Int) = (k : Int) := by rw [IntKind.wrap_u64]; omega
 go_enter Tryz.func15, Tryz.ntmps15
 go_wp2
 go_ret
 exact ⟨ret_bool (by first | rfl | simp [h]), rfl⟩

def hasP (n port : Int) : Bool := decide (0 ≤ port) && (bits .and .i64 n (2 ^ port.toNat) != 0)

theorem hasP_same {n port : Int} (hn : I64 n) (h : port ≤ 7 ∨ (port ≤ 9 ∧ 0 ≤ n ∧ n ≤ 63)) : hasP n port = bitOf n port := by
 unfold hasP
 by_cases h0 : 0 ≤ port
 ·obtain ⟨k, rfl⟩ : ∃ k : Nat, port = (k : Int) := ⟨port.toNat, by omega⟩
  rw [decide_eq_true h0, Bool.true_and, Int.toNat_natCast, bit_same n k (by omega) hn]
  by_cases h7 : k ≤ 7
  ·rw [bitOf_in h7]
  ·rw [bitOf_out (by unfold in3; rw [decide_eq_false (show ¬ (k : Int) ≤ 7 by omega), Bool.and_false])]
   have hn2 : 0 ≤ n ∧ n ≤ 63 := by rcases h with h | h <;> omega
   rcases (show k = 8 ∨ k = 9 by omega) with rfl | rfl
   ·rw [show n / 2 ^ 8 = 0 by simp; omega]
    decide
   ·rw [show n / 2 ^ 9 = 0 by simp; omega]
    decide
 ·rw [decide_eq_false h0, Bool.false_and, bitOf_out (by unfold in3; rw [decide_eq_false h0, Bool.false_and])]

set_option maxRecDepth 100000 in
set_option maxHeartbeats 2000000 in
theorem implHasPort_any (n port : Int) (hp : port ≤ 9) (w : World) :
  Calls Tryz.prog 70 #[.int .i64 n, .int .i64 port] w fun e w' => e = .returned (.bool (hasP n port)) ∧ w' = w := by
 by_cases h0 : 0 ≤ port
 ·have hx : port = 0 ∨ port = 1 ∨ port = 2 ∨ port = 3 ∨ port = 4 ∨ port = 5 ∨ port = 6 ∨ port = 7 ∨ port = 8 ∨ port = 9 := by omega
  rcases hx with rfl | rfl | rfl | rfl | rfl | rfl | rfl | rfl | rfl | rfl
  ·rw [show hasP n 0 = (bits .and .i64 n 1 != 0) from rfl]
   generalize hB : (bits .and .i64 n 1 != 0) = B
   go_enter Tryz.func70, Tryz.ntmps70
   go_wp2
   go_ret
   exact ⟨ret_bool (by first | rfl | simp [hB]), rfl⟩
  ·rw [show hasP n 1 = (bits .and .i64 n 2 != 0) from rfl]
   generalize hB : (bits .and .i64 n 2 != 0) = B
   go_enter Tryz.func70, Tryz.ntmps70
   go_wp2
   go_ret
   exact ⟨ret_bool (by first | rfl | simp [hB]), rfl⟩
  ·rw [show hasP n 2 = (bits .and .i64 n 4 != 0) from rfl]
   generalize hB : (bits .and .i64 n 4 != 0) = B
   go_enter Tryz.func70, Tryz.ntmps70
   go_wp2
   go_ret
   exact ⟨ret_bool (by first | rfl | simp [hB]), rfl⟩
  ·rw [show hasP n 3 = (bits .and .i64 n 8 != 0) from rfl]
   generalize hB : (bits .and .i64 n 8 != 0) = B
   go_enter Tryz.func70, Tryz.ntmps70
   go_wp2
   go_ret
   exact ⟨ret_bool (by first | rfl | simp [hB]), rfl⟩
  ·rw [show hasP n 4 = (bits .and .i64 n 16 != 0) from rfl]
   generalize hB : (bits .and .i64 n 16 != 0) = B
   go_enter Tryz.func70, Tryz.ntmps70
   go_wp2
   go_ret
   exact ⟨ret_bool (by first | rfl | simp [hB]), rfl⟩
  ·rw [show hasP n 5 = (bits .and .i64 n 32 != 0) from rfl]
   generalize hB : (bits .and .i64 n 32 != 0) = B
   go_enter Tryz.func70, Tryz.ntmps70
   go_wp2
   go_ret
   exact ⟨ret_bool (by first | rfl | simp [hB]), rfl⟩
  ·rw [show hasP n 6 = (bits .and .i64 n 64 != 0) from rfl]
   generalize hB : (bits .and .i64 n 64 != 0) = B
   go_enter Tryz.func70, Tryz.ntmps70
   go_wp2
   go_ret
   exact ⟨ret_bool (by first | rfl | simp [hB]), rfl⟩
  ·rw [show hasP n 7 = (bits .and .i64 n 128 != 0) from rfl]
   generalize hB : (bits .and .i64 n 128 != 0) = B
   go_enter Tryz.func70, Tryz.ntmps70
   go_wp2
   go_ret
   exact ⟨ret_bool (by first | rfl | simp [hB]), rfl⟩
  ·rw [show hasP n 8 = (bits .and .i64 n 256 != 0) from rfl]
   generalize hB : (bits .and .i64 n 256 != 0) = B
   go_enter Tryz.func70, Tryz.ntmps70
   go_wp2
   go_ret
   exact ⟨ret_bool (by first | rfl | simp [hB]), rfl⟩
  ·rw [show hasP n 9 = (bits .and .i64 n 512 != 0) from rfl]
   generalize hB : (bits .and .i64 n 512 != 0) = B
   go_enter Tryz.func70, Tryz.ntmps70
   go_wp2
   go_ret
   exact ⟨ret_bool (by first | rfl | simp [hB]), rfl⟩
 ·rw [show hasP n port = false by unfold hasP; rw [decide_eq_false h0]; rfl]
  go_enter Tryz.func70, Tryz.ntmps70
  go_wp2
  go_ret
  exact ⟨rfl, rfl⟩

def classId (v : VT) (port tag : Int) : Int := if tag = 0 then v.own.getD port.toNat 0 else tag
def classOf (v : VT) (port tag : Int) : Int × Bool :=
 if (decide (0 ≤ port) && decide (port ≤ (v.own.length : Int) - 1)) && bitOf (egressOf v (classId v port tag)) port then (classId v port tag, true) else (0, false)

theorem bitOf_zero (port : Int) : bitOf 0 port = false := by
 unfold bitOf
 rw [Int.zero_ediv]
 rw [show (bits .and .i64 0 1 == 1) = false by decide, Bool.and_false]

theorem egress_rng {v : VT} (h : ∀ r ∈ v.rows, r.Rng) (id : Int) : I64 (egressOf v id) := by
 unfold egressOf
 cases hf : v.rows.find? (fun r => r.i == id) with
 | none => unfold I64; simp only; omega
 | some r => exact (h r (List.mem_of_find?_eq_some hf)).2.1

set_option maxRecDepth 100000 in
set_option maxHeartbeats 4000000 in
theorem implClassOf_any (a : Option Addr) (n c : Nat) (o : Option Addr) (p q : Nat) (v : VT) (port tag : Int) (w : World) (h : VTab w a n c o p q v) (hR : ∀ r ∈ v.rows, r.Rng) (hp8 : p ≤ 8) :
  Calls Tryz.prog 13 #[.agg #[.slice a n c, .slice o p q], .int .i64 port, .int .i64 tag] w fun e w' => e = .returned (.tuple #[.int .i64 (classOf v port tag).1, .bool (classOf v port tag).2]) ∧ Below w.heap.size w w' := by
 have hsz := h.own.size
 have hle2 := h.own.le
 generalize hw1 : w.alloc (Obj.cells #[Value.slice a n c, Value.slice o p q] 29) = w1
 have b01 : Below w.heap.size w w1 := by subst hw1; exact below_one _ _
 obtain ⟨x0, x1⟩ := box_two hw1 (Below.refl _ w1)
 have h1 := h.below b01
 have hsub : IntKind.i64.wrap ((p : Int) - 1) = (p : Int) - 1 := by rw [IntKind.wrap_i64]; omega
 unfold classOf
 rw [hsz]
 have HSZ := hide hsz
 clear hsz
 cases hin : (decide (0 ≤ port) && decide (port ≤ (p : Int) - 1))
 ·rw [Bool.false_and, if_neg Bool.false_ne_true]
  have HIN := hide hin
  clear hin
  go_enter Tryz.func13, Tryz.ntmps13
  go_wp2_with fail
  refine (implIn9_any port 0 ((p : Int) - 1) _).mono ?_
  rintro e w2 ⟨rfl, e2⟩
  obtain rfl := e2.symm
  rw [HIN.out]
  go_wp2
  exact bodyPost_ret (v := .tuple #[.int .i64 0, .bool false]) (by simp [results, Tryz.results13, go_sem, *]) rfl ⟨rfl, b01⟩
 ·obtain ⟨k, rfl⟩ : ∃ k : Nat, port = (k : Int) := ⟨port.toNat, by simp at hin; omega⟩
  have hk : k < p := by simp at hin; omega
  rw [Bool.true_and]
  have HIN := hide hin
  clear hin
  obtain ⟨y, b, off, hy, rfl, cy⟩ := irow_at h1.own k hk
  have hsame := hasP_same (n := egressOf v (classId v (k : Int) tag)) (port := (k : Int)) (egress_rng hR _) (.inl (by omega))
  have hid : classId v (k : Int) tag = if tag = 0 then y else tag := by
   unfold classId
   rw [Int.toNat_natCast, List.getD_eq_getElem?_getD, hy]
   rfl
  generalize hI : classId v (k : Int) tag = I at hsame hid
  have i1 : (0 : Int) ≤ (k : Int) := by omega
  have i2 : (k : Int) < (p : Int) := by omega
  have HI := hide hI
  clear hI hy
  generalize hBB : bitOf (egressOf v I) (k : Int) = BB at hsame
  have HS := hide hsame
  clear hsame hBB
  by_cases ht : tag = 0
  ·subst ht
   rw [if_pos rfl] at hid
   subst hid
   go_enter Tryz.func13, Tryz.ntmps13
   go_wp2_with fail
   refine (implIn9_any (k : Int) 0 ((p : Int) - 1) _).mono ?_
   rintro e w2 ⟨rfl, e2⟩
   obtain rfl := e2.symm
   rw [HIN.out]
   go_wp2_with fail
   refine (implEgress_any _ _ _ _ _ _ v I _ h1.rows).mono ?_
   rintro e w3 ⟨rfl, hb3⟩
   go_wp2_with fail
   refine (implHasPort_any (egressOf v I) (k : Int) (by omega) _).mono ?_
   rintro e w4 ⟨rfl, e4⟩
   obtain rfl := e4.symm
   rw [HS.out]
   have HB := hide (gr_trans b01 hb3)
   clear hb3
   cases BB
   ·go_wp2
    exact bodyPost_ret (v := .tuple #[.int .i64 0, .bool false]) (by simp [results, Tryz.results13, go_sem, *]) rfl ⟨rfl, HB.out⟩
   ·go_wp2
    exact bodyPost_ret (v := .tuple #[.int .i64 I, .bool true]) (by simp [results, Tryz.results13, go_sem, *]) rfl ⟨rfl, HB.out⟩
  ·rw [if_neg ht] at hid
   subst hid
   go_enter Tryz.func13, Tryz.ntmps13
   go_wp2_with fail
   refine (implIn9_any (k : Int) 0 ((p : Int) - 1) _).mono ?_
   rintro e w2 ⟨rfl, e2⟩
   obtain rfl := e2.symm
   rw [HIN.out]
   go_wp2_with fail
   refine (implEgress_any _ _ _ _ _ _ v I _ h1.rows).mono ?_
   rintro e w3 ⟨rfl, hb3⟩
   go_wp2_with fail
   refine (implHasPort_any (egressOf v I) (k : Int) (by omega) _).mono ?_
   rintro e w4 ⟨rfl, e4⟩
   obtain rfl := e4.symm
   rw [HS.out]
   have HB := hide (gr_trans b01 hb3)
   clear hb3
   cases BB
   ·go_wp2
    exact bodyPost_ret (v := .tuple #[.int .i64 0, .bool false]) (by simp [results, Tryz.results13, go_sem, *]) rfl ⟨rfl, HB.out⟩
   ·go_wp2
    exact bodyPost_ret (v := .tuple #[.int .i64 I, .bool true]) (by simp [results, Tryz.results13, go_sem, *]) rfl ⟨rfl, HB.out⟩

set_option maxRecDepth 100000 in
set_option maxHeartbeats 4000000 in
theorem specClass_end (a : Option Addr) (n c : Nat) (o : Option Addr) (p q : Nat) (v : VT) (k : Nat) (tag I : Int) (w : World) (h : VTab w a n c o p q v) (hk : k < p) (hid : ∀ y, v.own[k]? = some y → I = if tag = 0 then y else tag) (BB : Bool) (hBB : bitOf (egressOf v I) (k : Int) = BB) :
  Calls Tryz.prog 52 #[.agg #[.slice a n c, .slice o p q], .int .i64 k, .int .i64 tag] w fun e w' => e = .returned (.tuple #[.int .i64 (if BB then I else 0), .bool BB]) ∧ Below w.heap.size w w' := by
 have hle2 := h.own.le
 have htop2 := h.own.top
 have hle := h.rows.le
 have htop := h.rows.top
 unfold maxLen at htop htop2
 generalize hw1 : w.alloc (Obj.cells #[Value.slice a n c, Value.slice o p q] 29) = w1
 have b01 : Below w.heap.size w w1 := by subst hw1; exact below_one _ _
 obtain ⟨x0, x1⟩ := box_two hw1 (Below.refl _ w1)
 have h1 := h.below b01
 have hsub : IntKind.i64.wrap ((p : Int) - 1) = (p : Int) - 1 := by rw [IntKind.wrap_i64]; omega
 have HIN : Hid ((decide (0 ≤ (k : Int)) && decide ((k : Int) ≤ (p : Int) - 1)) = true) := hide (by simp; omega)
 obtain ⟨y, b, off, hy, rfl, cy⟩ := irow_at h1.own k hk
 have hid := hid y hy
 have i1 : (0 : Int) ≤ (k : Int) := by omega
 have i2 : (k : Int) < (p : Int) := by omega
 clear hy
 by_cases ht : tag = 0
 ·subst ht
  rw [if_pos rfl] at hid
  subst hid
  cases hr : rowIdx v.rows I with
  | none =>
   have hB0 : BB = false := by
    rw [← hBB, show egressOf v I = 0 by unfold egressOf; rw [rowIdx_find hr]]
    exact bitOf_zero _
   subst hB0
   have HA := hide (rowAt_no hr)
   clear hr hBB
   go_enter Tryz.func52, Tryz.ntmps52
   go_wp2_with fail
   refine (within_any (k : Int) 0 ((p : Int) - 1) _).mono ?_
   rintro e w2 ⟨rfl, e2⟩
   obtain rfl := e2.symm
   rw [HIN.out]
   go_wp2_with fail
   refine (specRowAt_any a n c v.rows _ p q I _ h1.rows).mono ?_
   rintro r w3 ⟨rfl, hb3⟩
   rw [HA.out]
   have HB := hide (gr_trans b01 hb3)
   clear hb3 x0 x1 cy
   go_wp2
   exact bodyPost_ret (v := .tuple #[.int .i64 0, .bool false]) (by simp [results, Tryz.results52, go_sem, *]) rfl ⟨rfl, HB.out⟩
  | some j =>
   obtain ⟨x, hx, -, hf⟩ := rowIdx_some hr
   have hB1 : bitOf x.m (k : Int) = BB := by
    rw [← hBB, show egressOf v I = x.m by unfold egressOf; rw [hf]]
   have HB1 := hide hB1
   have HA := hide (rowAt_yes hr)
   have hjn : j < n := by have := (List.getElem?_eq_some_iff.1 hx).1; have := h.rows.size; omega
   have hneg : ¬ ((j : Int) < 0) := by omega
   have i3 : (0 : Int) ≤ (j : Int) := by omega
   have i4 : (j : Int) < (n : Int) := by omega
   clear hr hf hBB hB1
   go_enter Tryz.func52, Tryz.ntmps52
   go_wp2_with fail
   refine (within_any (k : Int) 0 ((p : Int) - 1) _).mono ?_
   rintro e w2 ⟨rfl, e2⟩
   obtain rfl := e2.symm
   rw [HIN.out]
   go_wp2_with fail
   refine (specRowAt_any a n c v.rows _ p q I _ h1.rows).mono ?_
   rintro r w3 ⟨rfl, hb3⟩
   rw [HA.out]
   obtain ⟨z, b', off', hz, rfl, c0, c1, c2⟩ := vrow_at (h1.rows.below hb3) j hjn
   rw [hx] at hz
   cases hz
   obtain ⟨y0, y1⟩ := box_two hw1 hb3
   have HB := hide (gr_trans b01 hb3)
   clear hb3 x0 x1 cy hx
   go_wp2_with fail
   refine (specBit_any x.m (k : Int) _).mono ?_
   rintro e w4 ⟨rfl, e4⟩
   obtain rfl := e4.symm
   rw [HB1.out]
   cases BB
   ·go_wp2
    exact bodyPost_ret (v := .tuple #[.int .i64 0, .bool false]) (by simp [results, Tryz.results52, go_sem, *]) rfl ⟨rfl, HB.out⟩
   ·go_wp2
    exact bodyPost_ret (v := .tuple #[.int .i64 I, .bool true]) (by simp [results, Tryz.results52, go_sem, *]) rfl ⟨rfl, HB.out⟩
 ·rw [if_neg ht] at hid
  subst hid
  cases hr : rowIdx v.rows I with
  | none =>
   have hB0 : BB = false := by
    rw [← hBB, show egressOf v I = 0 by unfold egressOf; rw [rowIdx_find hr]]
    exact bitOf_zero _
   subst hB0
   have HA := hide (rowAt_no hr)
   clear hr hBB
   go_enter Tryz.func52, Tryz.ntmps52
   go_wp2_with fail
   refine (within_any (k : Int) 0 ((p : Int) - 1) _).mono ?_
   rintro e w2 ⟨rfl, e2⟩
   obtain rfl := e2.symm
   rw [HIN.out]
   go_wp2_with fail
   refine (specRowAt_any a n c v.rows _ p q I _ h1.rows).mono ?_
   rintro r w3 ⟨rfl, hb3⟩
   rw [HA.out]
   have HB := hide (gr_trans b01 hb3)
   clear hb3 x0 x1 cy
   go_wp2
   exact bodyPost_ret (v := .tuple #[.int .i64 0, .bool false]) (by simp [results, Tryz.results52, go_sem, *]) rfl ⟨rfl, HB.out⟩
  | some j =>
   obtain ⟨x, hx, -, hf⟩ := rowIdx_some hr
   have hB1 : bitOf x.m (k : Int) = BB := by
    rw [← hBB, show egressOf v I = x.m by unfold egressOf; rw [hf]]
   have HB1 := hide hB1
   have HA := hide (rowAt_yes hr)
   have hjn : j < n := by have := (List.getElem?_eq_some_iff.1 hx).1; have := h.rows.size; omega
   have hneg : ¬ ((j : Int) < 0) := by omega
   have i3 : (0 : Int) ≤ (j : Int) := by omega
   have i4 : (j : Int) < (n : Int) := by omega
   clear hr hf hBB hB1
   go_enter Tryz.func52, Tryz.ntmps52
   go_wp2_with fail
   refine (within_any (k : Int) 0 ((p : Int) - 1) _).mono ?_
   rintro e w2 ⟨rfl, e2⟩
   obtain rfl := e2.symm
   rw [HIN.out]
   go_wp2_with fail
   refine (specRowAt_any a n c v.rows _ p q I _ h1.rows).mono ?_
   rintro r w3 ⟨rfl, hb3⟩
   rw [HA.out]
   obtain ⟨z, b', off', hz, rfl, c0, c1, c2⟩ := vrow_at (h1.rows.below hb3) j hjn
   rw [hx] at hz
   cases hz
   obtain ⟨y0, y1⟩ := box_two hw1 hb3
   have HB := hide (gr_trans b01 hb3)
   clear hb3 x0 x1 cy hx
   go_wp2_with fail
   refine (specBit_any x.m (k : Int) _).mono ?_
   rintro e w4 ⟨rfl, e4⟩
   obtain rfl := e4.symm
   rw [HB1.out]
   cases BB
   ·go_wp2
    exact bodyPost_ret (v := .tuple #[.int .i64 0, .bool false]) (by simp [results, Tryz.results52, go_sem, *]) rfl ⟨rfl, HB.out⟩
   ·go_wp2
    exact bodyPost_ret (v := .tuple #[.int .i64 I, .bool true]) (by simp [results, Tryz.results52, go_sem, *]) rfl ⟨rfl, HB.out⟩

set_option maxRecDepth 100000 in
set_option maxHeartbeats 400000 in
theorem specClassOf_any (a : Option Addr) (n c : Nat) (o : Option Addr) (p q : Nat) (v : VT) (port tag : Int) (w : World) (h : VTab w a n c o p q v) (hp8 : p ≤ 8) :
  Calls Tryz.prog 52 #[.agg #[.slice a n c, .slice o p q], .int .i64 port, .int .i64 tag] w fun e w' => e = .returned (.tuple #[.int .i64 (classOf v port tag).1, .bool (classOf v port tag).2]) ∧ Below w.heap.size w w' := by
 have hsz := h.own.size
 unfold classOf
 rw [hsz]
 cases hin : (decide (0 ≤ port) && decide (port ≤ (p : Int) - 1))
 ·rw [Bool.false_and, if_neg Bool.false_ne_true]
  have hsub : IntKind.i64.wrap ((p : Int) - 1) = (p : Int) - 1 := by rw [IntKind.wrap_i64]; omega
  have HIN := hide hin
  clear hin
  have b01 := below_one w (Obj.cells #[Value.slice a n c, Value.slice o p q] 29)
  go_enter Tryz.func52, Tryz.ntmps52
  go_wp2_with fail
  refine (within_any port 0 ((p : Int) - 1) _).mono ?_
  rintro e w2 ⟨rfl, e2⟩
  subst e2
  rw [HIN.out]
  go_wp2
  exact bodyPost_ret (v := .tuple #[.int .i64 0, .bool false]) (by simp [results, Tryz.results52, go_sem, *]) rfl ⟨rfl, b01⟩
 ·obtain ⟨k, rfl⟩ : ∃ k : Nat, port = (k : Int) := ⟨port.toNat, by simp at hin; omega⟩
  have hk : k < p := by simp at hin; omega
  rw [Bool.true_and]
  refine (specClass_end a n c o p q v k tag (classId v (k : Int) tag) w h hk (fun y hy => by unfold classId; rw [Int.toNat_natCast, List.getD_eq_getElem?_getD, hy]; rfl) _ rfl).mono ?_
  rintro e w' ⟨rfl, hb⟩
  refine ⟨?_, hb⟩
  cases bitOf (egressOf v (classId v (k : Int) tag)) (k : Int) <;> rfl

set_option maxRecDepth 100000 in
set_option maxHeartbeats 4000000 in
theorem implShown_any (a : Option Addr) (n c : Nat) (o : Option Addr) (p q : Nat) (v : VT) (id port : Int) (w : World) (h : GRow vrowF w a n c v.rows) (hR : ∀ r ∈ v.rows, r.Rng ∧ 0 ≤ r.b ∧ r.b ≤ 63) (hp : port ≤ 9) :
  Calls Tryz.prog 18 #[.agg #[.slice a n c, .slice o p q], .int .i64 id, .int .i64 port] w fun e w' => e = .returned (.int .i64 (shownTag v id port)) ∧ Below w.heap.size w w' := by
 have q0 := below_one w (.cells #[.slice a n c, .slice o p q] 29)
 cases hf : v.rows.find? (fun r => r.i == id) with
 | none =>
  rw [show shownTag v id port = 0 by unfold shownTag; rw [hf]]
  have HF : Hid (findRow v.rows id = ⟨0, 0, 0⟩) := hide (by unfold findRow; rw [hf]; rfl)
  have HT : Hid ((v.rows.find? (fun r => r.i == id)).isSome = false) := hide (by rw [hf]; rfl)
  clear hf
  go_enter Tryz.func18, Tryz.ntmps18
  go_wp2_with fail
  refine (implRowsOf_any a n c o p q _).mono ?_
  rintro e w1 ⟨rfl, hb1⟩
  have q1 := gr_trans q0 hb1
  clear hb1
  go_wp2_with fail
  refine (implFind_any a n c v.rows id _ (h.below q1)).mono ?_
  rw [HF.out, HT.out]
  rintro e w2 ⟨rfl, hb2⟩
  have HB := hide (gr_trans q1 hb2)
  clear hb2 q1 q0
  go_wp2
  go_ret
  exact ⟨rfl, gr_trans HB.out (below_one _ _)⟩
 | some x =>
  have hx := hR x (List.mem_of_find?_eq_some hf)
  have hS := hasP_same (n := x.b) (port := port) hx.1.2.2 (by by_cases h7 : port ≤ 7; exact .inl h7; exact .inr ⟨hp, hx.2⟩)
  rw [show shownTag v id port = if bitOf x.b port then 0 else id by unfold shownTag; rw [hf]]
  generalize bitOf x.b port = BB at hS
  have HF : Hid (findRow v.rows id = x) := hide (by unfold findRow; rw [hf]; rfl)
  have HT : Hid ((v.rows.find? (fun r => r.i == id)).isSome = true) := hide (by rw [hf]; rfl)
  have HS := hide hS
  clear hf hS hx
  go_enter Tryz.func18, Tryz.ntmps18
  go_wp2_with fail
  refine (implRowsOf_any a n c o p q _).mono ?_
  rintro e w1 ⟨rfl, hb1⟩
  have q1 := gr_trans q0 hb1
  clear hb1
  go_wp2_with fail
  refine (implFind_any a n c v.rows id _ (h.below q1)).mono ?_
  rw [HF.out, HT.out]
  rintro e w2 ⟨rfl, hb2⟩
  have q2 := gr_trans q1 hb2
  clear hb2 q1 q0
  go_wp2_with fail
  refine (implHasPort_any x.b port hp _).mono ?_
  rintro e w4 ⟨rfl, e4⟩
  subst e4
  rw [HS.out]
  have HB := hide (gr_trans q2 (below_one w2 (.cells #[.int .i64 x.i, .int .i64 x.m, .int .i64 x.b] 100)))
  clear q2
  cases BB
  ·go_wp2
   go_ret
   exact ⟨rfl, HB.out⟩
  ·go_wp2
   go_ret
   exact ⟨rfl, HB.out⟩

set_option maxRecDepth 100000 in
set_option maxHeartbeats 4000000 in
theorem specShown_any (a : Option Addr) (n c : Nat) (o : Option Addr) (p q : Nat) (v : VT) (id port : Int) (w : World) (h : GRow vrowF w a n c v.rows) :
  Calls Tryz.prog 125 #[.agg #[.slice a n c, .slice o p q], .int .i64 id, .int .i64 port] w fun e w' => e = .returned (.int .i64 (shownTag v id port)) ∧ Below w.heap.size w w' := by
 have hle := h.le
 have htop := h.top
 unfold maxLen at htop
 have hsz := hide h.size
 generalize hw1 : w.alloc (Obj.cells #[Value.slice a n c, Value.slice o p q] 29) = w1
 have q0 : Below w.heap.size w w1 := by subst hw1; exact below_one _ _
 obtain ⟨x0, x1⟩ := box_two hw1 (Below.refl _ w1)
 cases hr : rowIdx v.rows id with
 | none =>
  rw [show shownTag v id port = 0 by unfold shownTag; rw [rowIdx_find hr]]
  have HA := hide (rowAt_no hr)
  clear hr
  go_enter Tryz.func125, Tryz.ntmps125
  go_wp2_with fail
  refine (specRowAt_any a n c v.rows o p q id _ (h.below q0)).mono ?_
  rintro r w2 ⟨rfl, hb2⟩
  rw [HA.out]
  have HB := hide (gr_trans q0 hb2)
  clear hb2 x0 x1
  go_wp2
  go_ret
  exact ⟨rfl, HB.out⟩
 | some k =>
  obtain ⟨x, hx, -, hf⟩ := rowIdx_some hr
  rw [show shownTag v id port = if bitOf x.b port then 0 else id by unfold shownTag; rw [hf]]
  generalize hBB : bitOf x.b port = BB
  have HBB := hide hBB
  have HA := hide (rowAt_yes hr)
  have hkn : k < n := by have := (List.getElem?_eq_some_iff.1 hx).1; have := hsz.out; omega
  have hneg : ¬ ((k : Int) < 0) := by omega
  have i1 : (0 : Int) ≤ (k : Int) := by omega
  have i2 : (k : Int) < (n : Int) := by omega
  clear hr hf hBB
  go_enter Tryz.func125, Tryz.ntmps125
  go_wp2_with fail
  refine (specRowAt_any a n c v.rows o p q id _ (h.below q0)).mono ?_
  rintro r w2 ⟨rfl, hb2⟩
  rw [HA.out]
  obtain ⟨y, b, off, hy, rfl, c0, c1, c2⟩ := vrow_at (h.below (gr_trans q0 hb2)) k hkn
  rw [hx] at hy
  cases hy
  obtain ⟨y0, y1⟩ := box_two hw1 hb2
  have HB := hide (gr_trans q0 hb2)
  clear hb2 x0 x1 hx
  go_wp2_with fail
  refine (specBit_any x.b port _).mono ?_
  rintro e w4 ⟨rfl, e4⟩
  obtain rfl := e4.symm
  rw [HBB.out]
  cases BB
  ·go_wp2
   go_ret
   exact ⟨rfl, HB.out⟩
  ·go_wp2
   go_ret
   exact ⟨rfl, HB.out⟩

def mayB (B : BR) (k : Nat) (id : Int) : Int := bits .andNot .i64 (bits .and .i64 (sendsOf B.id B.ports) (egressOf B.v id)) (2 ^ k)
def toB (F : List FE) (id d : Int) : Int := if d = 0 then -1 else lookUp F id d
def waysB (B : BR) (k : Nat) (id d : Int) (F : List FE) : Int := if 0 ≤ toB F id d then bits .and .i64 (mayB B k id) (2 ^ (toB F id d).toNat) else mayB B k id

def outTo (v : VT) (id m d s : Int) (z : List Int) : Nat → List OD
 | 0 => []
 | i + 1 => outTo v id m d s z i ++ (if bitOf m (i : Int) = true then [⟨(i : Int), d, s, shownTag v id (i : Int), z⟩] else [])

def letB (B : BR) (port t : Int) : Bool := bitOf (sendsOf B.id B.ports) port && (classOf B.v port t).2

def fwdB (B : BR) (port d s t : Int) (n : Nat) : BR :=
 if (thereB B port && okF d s t n) = true then
  if letB B port t = true then { B with f := learnF B.f (classOf B.v port t).1 s port, vers := oneMore B.vers } else { B with drops := oneMore B.drops }
 else B

def fwdO (B : BR) (port d s t : Int) (n : Nat) (z : List Int) : List OD :=
 if (thereB B port && okF d s t n) = true then
  if letB B port t = true then outTo B.v (classOf B.v port t).1 (waysB B port.toNat (classOf B.v port t).1 d (learnF B.f (classOf B.v port t).1 s port)) d s z B.ports.length else []
 else []

theorem i64_bv (x : BitVec 64) : I64 x.toInt := by
 have h1 := BitVec.toInt_lt (x := x)
 have h2 := BitVec.le_toInt (x := x)
 unfold I64
 omega

theorem i64_and (a b : Int) : I64 (bits .and .i64 a b) := by rw [bits_and]; exact i64_bv _
theorem i64_andNot (a b : Int) : I64 (bits .andNot .i64 a b) := by rw [bits_andNot]; exact i64_bv _

theorem bit_get (n : Int) (k : Nat) (hk : k ≤ 7) (hn : I64 n) : bitOf n (k : Int) = (BitVec.ofInt 64 n).getLsbD k := by
 rw [bitOf_in hk, ← bit_same n k (by omega) hn, bits_and]
 have e : BitVec.ofInt 64 (2 ^ k) = BitVec.twoPow 64 k := by
  rcases (show k = 0 ∨ k = 1 ∨ k = 2 ∨ k = 3 ∨ k = 4 ∨ k = 5 ∨ k = 6 ∨ k = 7 by omega) with rfl | rfl | rfl | rfl | rfl | rfl | rfl | rfl <;> rfl
 rw [e, BitVec.and_twoPow]
 cases h : (BitVec.ofInt 64 n).getLsbD k
 ·simp
 ·simp only [if_true, bne_iff_ne, ne_eq]
  rcases (show k = 0 ∨ k = 1 ∨ k = 2 ∨ k = 3 ∨ k = 4 ∨ k = 5 ∨ k = 6 ∨ k = 7 by omega) with rfl | rfl | rfl | rfl | rfl | rfl | rfl | rfl <;> decide

theorem ofInt_toInt (x : BitVec 64) : BitVec.ofInt 64 x.toInt = x := by
 apply BitVec.toInt_inj.1
 exact toInt_of _ (i64_bv x)

theorem bit_and (a b : Int) (k : Nat) (hk : k ≤ 7) (ha : I64 a) (hb : I64 b) : bitOf (bits .and .i64 a b) (k : Int) = (bitOf a (k : Int) && bitOf b (k : Int)) := by
 rw [bit_get _ k hk (i64_and a b), bit_get a k hk ha, bit_get b k hk hb, bits_and, ofInt_toInt, BitVec.getLsbD_and]

theorem bit_andNot (a b : Int) (k : Nat) (hk : k ≤ 7) (ha : I64 a) (hb : I64 b) : bitOf (bits .andNot .i64 a b) (k : Int) = (bitOf a (k : Int) && !bitOf b (k : Int)) := by
 rw [bit_get _ k hk (i64_andNot a b), bit_get a k hk ha, bit_get b k hk hb, bits_andNot, ofInt_toInt, BitVec.getLsbD_and, BitVec.getLsbD_not]
 have : k < 64 := by omega
 simp [this]

theorem bit_pow8 : ∀ k i : Fin 8, bitOf (2 ^ k.val) (i.val : Int) = decide (i.val = k.val) := by decide +kernel

theorem bit_pow (k i : Nat) (hk : k ≤ 7) (hi : i ≤ 7) : bitOf (2 ^ k) (i : Int) = decide (i = k) := bit_pow8 ⟨k, by omega⟩ ⟨i, by omega⟩

theorem i64_pow (k : Nat) (hk : k ≤ 7) : I64 (2 ^ k) := by
 unfold I64
 rcases (show k = 0 ∨ k = 1 ∨ k = 2 ∨ k = 3 ∨ k = 4 ∨ k = 5 ∨ k = 6 ∨ k = 7 by omega) with rfl | rfl | rfl | rfl | rfl | rfl | rfl | rfl <;> decide

theorem six_rng : ∀ b0 b1 b2 b3 b4 b5 : Bool, ∀ n : Fin 7, 0 ≤ sendsB (six b0 b1 b2 b3 b4 b5) n.val ∧ sendsB (six b0 b1 b2 b3 b4 b5) n.val ≤ 63 := by
 decide +kernel

theorem six_of (f : Nat → Bool) (n : Nat) (hn : n ≤ 6) : sendsB f n = sendsB (six (f 0) (f 1) (f 2) (f 3) (f 4) (f 5)) n := by
 refine sendsB_cut f _ n (fun j hj => ?_)
 rcases (show j = 0 ∨ j = 1 ∨ j = 2 ∨ j = 3 ∨ j = 4 ∨ j = 5 by omega) with rfl | rfl | rfl | rfl | rfl | rfl <;> rfl

theorem sends_rng (id : Int) (l : List PT) : 0 ≤ sendsOf id l ∧ sendsOf id l ≤ 63 := by
 unfold sendsOf
 rw [sends_is, six_of _ _ (by omega)]
 exact six_rng _ _ _ _ _ _ ⟨min l.length 6, by omega⟩

theorem sends_i64 (id : Int) (l : List PT) : I64 (sendsOf id l) := by
 have := sends_rng id l
 unfold I64
 omega

theorem sends_out (id : Int) (l : List PT) (i : Nat) (hi : l.length ≤ i) (h6 : i < 6) : bitOf (sendsOf id l) (i : Int) = false := by
 unfold sendsOf
 rw [sends_is, six_of _ _ (by omega)]
 have h := six_bits (decide (roleOf id l ((0 : Nat) : Int) ≤ 2)) (decide (roleOf id l ((1 : Nat) : Int) ≤ 2)) (decide (roleOf id l ((2 : Nat) : Int) ≤ 2)) (decide (roleOf id l ((3 : Nat) : Int) ≤ 2)) (decide (roleOf id l ((4 : Nat) : Int) ≤ 2)) (decide (roleOf id l ((5 : Nat) : Int) ≤ 2)) ⟨min l.length 6, by omega⟩ ⟨i, h6⟩
 rw [h]
 rw [decide_eq_false (show ¬ i < min l.length 6 by omega), Bool.false_and]

theorem may_bit (B : BR) (k : Nat) (id : Int) (i : Nat) (hi : i ≤ 7) (hk : k ≤ 7) (hv : I64 (egressOf B.v id)) : bitOf (mayB B k id) (i : Int) = (bitOf (sendsOf B.id B.ports) (i : Int) && bitOf (egressOf B.v id) (i : Int) && !decide (i = k)) := by
 unfold mayB
 rw [bit_andNot _ _ i hi (i64_and _ _) (i64_pow k hk), bit_and _ _ i hi (sends_i64 _ _) hv, bit_pow k i hk hi]

theorem may_i64 (B : BR) (k : Nat) (id : Int) : I64 (mayB B k id) := i64_andNot _ _

theorem ways_i64 (B : BR) (k : Nat) (id d : Int) (F : List FE) : I64 (waysB B k id d F) := by
 unfold waysB
 split
 ·exact i64_and _ _
 ·exact may_i64 B k id

theorem look_rng {F : List FE} (h : fdbOk F = true) (id d : Int) : -1 ≤ lookUp F id d ∧ lookUp F id d ≤ 7 := by
 unfold lookUp
 cases hl : lookE F id d with
 | none => simp
 | some e =>
  have hm : e ∈ F := by
   unfold lookE at hl
   exact List.mem_of_find?_eq_some hl
  have := (entOk_iff e).1 ((((fdbOk_iff F).1 h).1).1 e hm)
  simp only
  omega

theorem to_rng {F : List FE} (h : fdbOk F = true) (id d : Int) : -1 ≤ toB F id d ∧ toB F id d ≤ 7 := by
 unfold toB
 split
 ·omega
 ·exact look_rng h id d

theorem ways_bit (B : BR) (k : Nat) (id d : Int) (F : List FE) (hF : fdbOk F = true) (i : Nat) (hi : i ≤ 7) : bitOf (waysB B k id d F) (i : Int) = (bitOf (mayB B k id) (i : Int) && (decide (toB F id d < 0) || decide (toB F id d = (i : Int)))) := by
 have hr := to_rng hF id d
 unfold waysB
 by_cases h0 : 0 ≤ toB F id d
 ·obtain ⟨t, ht⟩ : ∃ t : Nat, toB F id d = (t : Int) := ⟨(toB F id d).toNat, by omega⟩
  rw [if_pos h0, ht, Int.toNat_natCast, bit_and _ _ i hi (may_i64 B k id) (i64_pow t (by omega)), bit_pow t i (by omega) hi, decide_eq_false (show ¬ (t : Int) < 0 by omega), Bool.false_or]
  congr 1
  rw [Bool.eq_iff_iff]
  simp only [decide_eq_true_eq]
  omega
 ·rw [if_neg h0, decide_eq_true (show toB F id d < 0 by omega), Bool.true_or, Bool.and_true]

theorem outTo_more (v : VT) (id m d s : Int) (z : List Int) (n : Nat) : ∀ j, (∀ i, n ≤ i → i < n + j → bitOf m (i : Int) = false) → outTo v id m d s z (n + j) = outTo v id m d s z n
 | 0, _ => rfl
 | j + 1, h => by
  rw [← Nat.add_assoc, outTo, h (n + j) (by omega) (by omega), outTo_more v id m d s z n j (fun i h1 h2 => h i h1 (by omega))]
  simp

theorem out_six (B : BR) (k : Nat) (id d s : Int) (z : List Int) (F : List FE) (hF : fdbOk F = true) (hk : k ≤ 7) (hv : I64 (egressOf B.v id)) (hn : B.ports.length ≤ 6) : outTo B.v id (waysB B k id d F) d s z 6 = outTo B.v id (waysB B k id d F) d s z B.ports.length := by
 have := outTo_more B.v id (waysB B k id d F) d s z B.ports.length (6 - B.ports.length) (fun i h1 h2 => by
  rw [ways_bit B k id d F hF i (by omega), may_bit B k id i (by omega) hk hv, sends_out B.id B.ports i h1 (by omega)]
  simp)
 rw [← this]
 congr 1
 omega

theorem outTo_len (v : VT) (id m d s : Int) (z : List Int) : ∀ n, (outTo v id m d s z n).length ≤ n
 | 0 => Nat.le_refl _
 | n + 1 => by
  have := outTo_len v id m d s z n
  rw [outTo, List.length_append]
  split <;> simp <;> omega

theorem fwdB_len (B : BR) (port d s t : Int) (n : Nat) : (fwdB B port d s t n).ports = B.ports ∧ (fwdB B port d s t n).v = B.v ∧ (fwdB B port d s t n).f.length ≤ B.f.length + 1 := by
 unfold fwdB
 split
 ·split
  ·exact ⟨rfl, rfl, learn_len _ _ _ _⟩
  ·exact ⟨rfl, rfl, by simp⟩
 ·exact ⟨rfl, rfl, by simp⟩

theorem fwdB_ok {B : BR} (h : bridgeOk B = true) (port d s t : Int) (n : Nat) : bridgeOk (fwdB B port d s t n) = true := by
 unfold fwdB
 obtain ⟨p1, p2, p3, p4, p5, p6, p7, p8, p9, p10, p11⟩ := bridgeOk_parts h
 split
 ·split
  ·exact bridgeOk_of ⟨p1, p2, p3, p4, learn_ok p5 _ _ _, p6, p7, p8, p9, p10, oneMore_in p11⟩
  ·exact bridgeOk_of ⟨p1, p2, p3, p4, p5, p6, p7, p8, p9, oneMore_in p10, p11⟩
 ·exact h

theorem wrap_pow (k : Nat) (hk : k ≤ 7) : wrap64 (2 ^ k) = 2 ^ k := by
 rcases (show k = 0 ∨ k = 1 ∨ k = 2 ∨ k = 3 ∨ k = 4 ∨ k = 5 ∨ k = 6 ∨ k = 7 by omega) with rfl | rfl | rfl | rfl | rfl | rfl | rfl | rfl <;> exact Go.IntWalk.wrap64_in _ (by decide)

theorem kind_pow (k : Nat) (hk : k ≤ 7) : IntKind.i64.wrap (2 ^ k) = 2 ^ k := by
 rcases (show k = 0 ∨ k = 1 ∨ k = 2 ∨ k = 3 ∨ k = 4 ∨ k = 5 ∨ k = 6 ∨ k = 7 by omega) with rfl | rfl | rfl | rfl | rfl | rfl | rfl | rfl <;> decide

theorem vtab_own6 {v : VT} {p : Int} (h : vtabOk v p = true) : (v.own.length : Int) = p ∧ 1 ≤ p ∧ p ≤ 6 := by
 unfold vtabOk in3 at h
 simp only [Bool.and_eq_true, decide_eq_true_eq, beq_iff_eq] at h
 omega

def newPt : PT := ⟨false, 1, false, ⟨0, 0, 0, 0, 0⟩⟩
def zeroBr : BR := ⟨0, ByteArray.empty, [], [], ⟨[], []⟩, 0, 0, 0, 0, 0⟩
def bridgeNew (id : Int) (m : Nat) : BR := ⟨id, ByteArray.empty, List.replicate m newPt, [], vtabNew m, 0, 0, 0, 0, 0⟩

theorem BrOwn.boxed11 {w : World} {base : Nat} {a : Option Addr} {n c : Nat} {fa : Option Addr} {fn fc : Nat} {ra : Option Addr} {rn rc : Nat} {oa : Option Addr} {on oc : Nat} {B : BR} (h : BrOwn w base a n c fa fn fc ra rn rc oa on oc B) {X : Nat} {cs : Array Value} (hX : w.heap[X]? = some (.cells cs 31)) (u0 u1 u2 u3 u4 u5 u6 u7 u8 u9 u10 : Value) : BrOwn (((((((((((w.setCell ⟨X, 0, none⟩ u0).setCell ⟨X, 1, none⟩ u1).setCell ⟨X, 2, none⟩ u2).setCell ⟨X, 3, none⟩ u3).setCell ⟨X, 4, none⟩ u4).setCell ⟨X, 5, none⟩ u5).setCell ⟨X, 6, none⟩ u6).setCell ⟨X, 7, none⟩ u7).setCell ⟨X, 8, none⟩ u8).setCell ⟨X, 9, none⟩ u9).setCell ⟨X, 10, none⟩ u10) base a n c fa fn fc ra rn rc oa on oc B :=
 (BrOwn.boxed (BrOwn.boxed (BrOwn.boxed (BrOwn.boxed (BrOwn.boxed (BrOwn.boxed (BrOwn.boxed (BrOwn.boxed (BrOwn.boxed (BrOwn.boxed (BrOwn.boxed h hX 0 u0) (box11 hX 0 u0) 1 u1) (box11 (box11 hX 0 u0) 1 u1) 2 u2) (box11 (box11 (box11 hX 0 u0) 1 u1) 2 u2) 3 u3) (box11 (box11 (box11 (box11 hX 0 u0) 1 u1) 2 u2) 3 u3) 4 u4) (box11 (box11 (box11 (box11 (box11 hX 0 u0) 1 u1) 2 u2) 3 u3) 4 u4) 5 u5) (box11 (box11 (box11 (box11 (box11 (box11 hX 0 u0) 1 u1) 2 u2) 3 u3) 4 u4) 5 u5) 6 u6) (box11 (box11 (box11 (box11 (box11 (box11 (box11 hX 0 u0) 1 u1) 2 u2) 3 u3) 4 u4) 5 u5) 6 u6) 7 u7) (box11 (box11 (box11 (box11 (box11 (box11 (box11 (box11 hX 0 u0) 1 u1) 2 u2) 3 u3) 4 u4) 5 u5) 6 u6) 7 u7) 8 u8) (box11 (box11 (box11 (box11 (box11 (box11 (box11 (box11 (box11 hX 0 u0) 1 u1) 2 u2) 3 u3) 4 u4) 5 u5) 6 u6) 7 u7) 8 u8) 9 u9) (box11 (box11 (box11 (box11 (box11 (box11 (box11 (box11 (box11 (box11 hX 0 u0) 1 u1) 2 u2) 3 u3) 4 u4) 5 u5) 6 u6) 7 u7) 8 u8) 9 u9) 10 u10)

theorem below_set11 {K : Nat} {a w : World} (h : Below K a w) {g : Nat} (hB : K ≤ g) (u0 u1 u2 u3 u4 u5 u6 u7 u8 u9 u10 : Value) : Below K a (((((((((((w.setCell ⟨g, 0, none⟩ u0).setCell ⟨g, 1, none⟩ u1).setCell ⟨g, 2, none⟩ u2).setCell ⟨g, 3, none⟩ u3).setCell ⟨g, 4, none⟩ u4).setCell ⟨g, 5, none⟩ u5).setCell ⟨g, 6, none⟩ u6).setCell ⟨g, 7, none⟩ u7).setCell ⟨g, 8, none⟩ u8).setCell ⟨g, 9, none⟩ u9).setCell ⟨g, 10, none⟩ u10) :=
 (below_set (below_set (below_set (below_set (below_set (below_set (below_set (below_set (below_set (below_set (below_set h hB 0 u0) hB 1 u1) hB 2 u2) hB 3 u3) hB 4 u4) hB 5 u5) hB 6 u6) hB 7 u7) hB 8 u8) hB 9 u9) hB 10 u10)

set_option maxRecDepth 100000 in
set_option maxHeartbeats 4000000 in
theorem specBridgeNew_made (id : Int) (m : Nat) (w : World) (hid : (decide (1 ≤ id) && decide (id ≤ 99)) = true) (hm : (decide (1 ≤ (m : Int)) && decide ((m : Int) ≤ 6)) = true) :
  Calls Tryz.prog 96 #[.int .i64 id, .int .i64 m] w fun e w' => ∃ (a : Option Addr) (c : Nat) (ra : Option Addr) (rn rc : Nat) (oa : Option Addr) (on oc : Nat), e = .returned (.agg #[.int .i64 id, .string ⟨#[]⟩, .slice a m c, .slice none 0 0, .slice ra rn rc, .slice oa on oc, .int .i64 0, .int .i64 0, .int .i64 0, .int .i64 0, .int .i64 0]) ∧ BrOwn w' w.heap.size a m c none 0 0 ra rn rc oa on oc (bridgeNew id m) ∧ Below w.heap.size w w' := by
 have h6 : m ≤ 6 := by simp at hm; omega
 have HID := hide hid
 have HM := hide hm
 clear hid hm
 generalize hw1 : w.alloc (Obj.cells #[.int .i64 0, .string ⟨#[]⟩, .slice none 0 0, .slice none 0 0, .slice none 0 0, .slice none 0 0, .int .i64 0, .int .i64 0, .int .i64 0, .int .i64 0, .int .i64 0] 31) = w1
 have b1 : Below w.heap.size w w1 := by rw [← hw1]; exact below_one _ _
 have kR : w1.heap[w.heap.size]? = some (.cells #[.int .i64 0, .string ⟨#[]⟩, .slice none 0 0, .slice none 0 0, .slice none 0 0, .slice none 0 0, .int .i64 0, .int .i64 0, .int .i64 0, .int .i64 0, .int .i64 0] 31) := by rw [← hw1]; exact block_last _ _
 go_enter Tryz.func96, Tryz.ntmps96
 go_wp2_with fail
 refine (within_any id 1 99 _).mono ?_
 rintro r wx ⟨rfl, ew⟩
 obtain rfl := ew.symm
 rw [HID.out]
 go_wp2_with fail
 refine (within_any (m : Int) 1 6 _).mono ?_
 rintro r wx ⟨rfl, ew⟩
 obtain rfl := ew.symm
 rw [HM.out]
 go_wp2_with fail
 refine (specVtabNew_made (m : Int) _).mono ?_
 rintro r w2 ⟨ra, rn, rc, oa, on, oc, rfl, hv, hb2⟩
 have hv := hv.lt (base' := w.heap.size) b1.size
 have b2 := gr_trans b1 hb2
 have kR := kept_block kR hb2
 clear hw1 hb2 b1
 go_upto_region 4 with fail
 generalize hw3 : w2.alloc (Obj.cells #[.int .i64 id, .string ⟨#[]⟩, .slice none 0 0, .slice none 0 0, .slice ra rn rc, .slice oa on oc, .int .i64 0, .int .i64 0, .int .i64 0, .int .i64 0, .int .i64 0] 31) = w3
 have b3 : Below w2.heap.size w2 w3 := by rw [← hw3]; exact below_one _ _
 have kX : w3.heap[w2.heap.size]? = some (.cells #[.int .i64 id, .string ⟨#[]⟩, .slice none 0 0, .slice none 0 0, .slice ra rn rc, .slice oa on oc, .int .i64 0, .int .i64 0, .int .i64 0, .int .i64 0, .int .i64 0] 31) := by rw [← hw3]; exact block_last _ _
 have kR := kept_block kR b3
 have o3 : BrOwn w3 w.heap.size none 0 0 none 0 0 ra rn rc oa on oc { bridgeNew id m with ports := List.replicate 0 newPt } := ⟨World.ownsRow_nil _ _ _ _, World.ownsRow_nil _ _ _ _, hv.below b3⟩
 have HX : Hid (w.heap.size < w2.heap.size) := hide (Array.getElem?_eq_some_iff.1 (show w2.heap[w.heap.size]? = some (.cells #[.int .i64 0, .string ⟨#[]⟩, .slice none 0 0, .slice none 0 0, .slice none 0 0, .slice none 0 0, .int .i64 0, .int .i64 0, .int .i64 0, .int .i64 0, .int .i64 0] 31) from by assumption)).1
 have b3 := gr_trans b2 b3
 clear hw3 b2 hv
 go_wp2_with fail
 go_loopw [6] (fun i wr => ∃ (k : Nat) (a : Option Addr) (c : Nat), k ≤ m ∧ i = .int .i64 k ∧ wr.heap[w.heap.size]? = some (.cells #[.int .i64 0, .string ⟨#[]⟩, .slice none 0 0, .slice none 0 0, .slice none 0 0, .slice none 0 0, .int .i64 0, .int .i64 0, .int .i64 0, .int .i64 0, .int .i64 0] 31) ∧ wr.heap[w2.heap.size]? = some (.cells #[.int .i64 id, .string ⟨#[]⟩, .slice a k c, .slice none 0 0, .slice ra rn rc, .slice oa on oc, .int .i64 0, .int .i64 0, .int .i64 0, .int .i64 0, .int .i64 0] 31) ∧ BrOwn wr w.heap.size a k c none 0 0 ra rn rc oa on oc { bridgeNew id m with ports := List.replicate k newPt } ∧ Below w.heap.size w wr) (fun i _ => m - (intOf i).toNat)
 case atStart => exact ⟨0, none, 0, Nat.zero_le _, rfl, kR, kX, o3, b3⟩
 case round =>
  obtain ⟨k, a, c, hk, rfl, kR, kX, o, hb⟩ := hrel
  clear o3 b3
  obtain ⟨x0, x1, x2, x3, x4, x5, x6, x7, x8, x9, x10⟩ := cells11 kX
  by_cases hlt : k < m
  ·have b9 := below_one wr (.cells #[.bool false, .int .i64 1, .bool false, .int .i64 0, .int .i64 0, .int .i64 0, .int .i64 0, .int .i64 0] 95)
   have o9 := o.below b9
   have p9 := o9.ports
   have kX9 := kept_block kX b9
   have kR9 := kept_block kR b9
   have HB9 := hide (gr_trans hb b9)
   have hbase9 : w.heap.size ≤ (wr.alloc (.cells #[.bool false, .int .i64 1, .bool false, .int .i64 0, .int .i64 0, .int .i64 0, .int .i64 0, .int .i64 0] 95)).heap.size := HB9.out.size
   have HO9 := hide o9
   have KX9 := hide kX9
   have KR9 := hide kR9
   clear hb b9 o9 kX9 kR9 o kX kR
   go_wp2_with (at_builtin; refine pt_append _ rfl _ _ rfl w.heap.size _ k (List.replicate k newPt) rfl p9 _ 1 1 [newPt] rfl (grow_one ptF _ newPt _ _ rfl) (by omega) hbase9 ?_)
   rintro a' c' wz oz - gz bz
   have kz := kept_grown KX9.out gz (fun i e => box_ne HO9.out.ports KX9.out (by decide) i e)
   have rz := kept_grown KR9.out gz (fun i e => box_ne HO9.out.ports KR9.out (by decide) i e)
   have hrep : List.replicate k newPt ++ [newPt] = List.replicate (k + 1) newPt := by rw [List.replicate_succ']
   rw [hrep] at oz
   have on := HO9.out.newPorts gz oz
   have HON := hide (BrOwn.boxed on kz 2 (.slice a' (k + 1) c'))
   have HKX := hide (box11 kz 2 (.slice a' (k + 1) c'))
   have HKR : Hid ((wz.setCell ⟨w2.heap.size, 2, none⟩ (.slice a' (k + 1) c')).heap[w.heap.size]? = some (.cells #[.int .i64 0, .string ⟨#[]⟩, .slice none 0 0, .slice none 0 0, .slice none 0 0, .slice none 0 0, .int .i64 0, .int .i64 0, .int .i64 0, .int .i64 0, .int .i64 0] 31)) := hide (kept_set rz (Nat.ne_of_lt HX.out))
   have HBZ := hide (below_set (g := w2.heap.size) (HB9.out.trans bz) (Nat.le_of_lt HX.out) 2 (.slice a' (k + 1) c'))
   have fz := frozen8 kz 2
   obtain ⟨-, -, y2, -⟩ := cells11 kz
   clear x0 x1 x2 x3 x4 x5 x6 x7 x8 x9 x10 kz rz gz bz oz on p9 hbase9
   go_wp2
   go_roundw
   case rel => exact ⟨k + 1, a', c', by omega, by go_num, HKR.out, HKX.out, HON.out, HBZ.out⟩
   case measure => simp [intOf]; omega
  ·have hkm : k = m := by omega
   subst hkm
   obtain ⟨z0, z1, z2, z3, z4, z5, z6, z7, z8, z9, z10⟩ := cells11 kR
   have f0 := frozen8 kR
   have ne1 : ¬ w2.heap.size = w.heap.size := by have := HX.out; omega
   have ne2 : ¬ w.heap.size = w2.heap.size := by have := HX.out; omega
   have HO := hide (o.boxed11 kR (.int .i64 id) (.string ⟨#[]⟩) (.slice a k c) (.slice none 0 0) (.slice ra rn rc) (.slice oa on oc) (.int .i64 0) (.int .i64 0) (.int .i64 0) (.int .i64 0) (.int .i64 0))
   have HB := hide (below_set11 hb (Nat.le_refl w.heap.size) (.int .i64 id) (.string ⟨#[]⟩) (.slice a k c) (.slice none 0 0) (.slice ra rn rc) (.slice oa on oc) (.int .i64 0) (.int .i64 0) (.int .i64 0) (.int .i64 0) (.int .i64 0))
   clear o hb kX kR
   go_wp2
   exact bodyPost_ret (v := .agg #[.int .i64 id, .string ⟨#[]⟩, .slice a k c, .slice none 0 0, .slice ra rn rc, .slice oa on oc, .int .i64 0, .int .i64 0, .int .i64 0, .int .i64 0, .int .i64 0]) (by simp [results, Tryz.results96, go_sem, *]) rfl ⟨a, c, ra, rn, rc, oa, on, oc, rfl, HO.out, HB.out⟩

def putRow (v : VT) (r : VR) : VT × Bool := if vtabOk v v.own.length then orV ⟨putRowF v.rows r false, v.own⟩ v else (v, false)

set_option maxRecDepth 100000 in
set_option maxHeartbeats 4000000 in
theorem specPutRow_made (a : Option Addr) (n c : Nat) (o : Option Addr) (p q : Nat) (v : VT) (r : VR) (w : World) (h : VTab w a n c o p q v) (hn : n ≤ 16777216) (hp : p ≤ 16777216) :
  Calls Tryz.prog 155 #[.agg #[.slice a n c, .slice o p q], .agg #[.int .i64 r.i, .int .i64 r.m, .int .i64 r.b]] w fun e w' => ∃ a' n' c' o' p' q', e = .returned (.tuple #[.agg #[.slice a' n' c', .slice o' p' q'], .bool (putRow v r).2]) ∧ VOwn w' w.heap.size a' n' c' o' p' q' (putRow v r).1 ∧ Below w.heap.size w w' := by
 generalize hw1 : w.alloc (Obj.cells #[Value.slice a n c, Value.slice o p q] 29) = w1
 generalize hw2 : w1.alloc (Obj.cells #[Value.int .i64 r.i, Value.int .i64 r.m, Value.int .i64 r.b] 100) = w2
 generalize hw3 : w2.alloc (Obj.cells #[Value.slice none 0 0, Value.slice none 0 0] 29) = w3
 have b01 : Below w.heap.size w w1 := by subst hw1; exact below_one _ _
 have b12 : Below w1.heap.size w1 w2 := by subst hw2; exact below_one _ _
 have b23 : Below w2.heap.size w2 w3 := by subst hw3; exact below_one _ _
 have b13 := gr_trans b12 b23
 have b03 := gr_trans b01 b13
 have k2 : w3.heap[w2.heap.size]? = some (.cells #[.slice none 0 0, .slice none 0 0] 29) := by rw [← hw3]; exact block_last _ _
 have z3 : Hid (w2.heap.size < w3.heap.size) := hide (by rw [← hw3]; simp)
 obtain ⟨e0, e0x⟩ := box_two hw1 b12
 have kr : w2.heap[w1.heap.size]? = some (.cells #[.int .i64 r.i, .int .i64 r.m, .int .i64 r.b] 100) := by rw [← hw2]; exact block_last _ _
 obtain ⟨⟨e1, e2, e3⟩, -⟩ := cells3 kr
 have hb1 := box_two hw1 b13
 have h3 := h.below b03
 have hl := h.own.size
 unfold putRow
 rw [hl]
 cases hok : vtabOk v p
 ·rw [if_neg Bool.false_ne_true]
  go_enter Tryz.func155, Tryz.ntmps155
  go_wp2_with (refine (specVtabOk_any a n c o p q v (p : Int) _ h3).mono ?_; rintro e w4 ⟨rfl, hb4⟩; rw [hok]; have hc1 := box_two hw1 (gr_trans b13 hb4))
  go_wp2_with (refine (specCopyV_made a n c o p q v _ (h3.below hb4) hn hp).mono ?_; rintro e w5 ⟨a', c', o', q', rfl, hO, hb5⟩; obtain ⟨⟨g0, g1⟩, f0, f1⟩ := cells2 (kept_block k2 (gr_trans hb4 hb5)))
  have hbW : Below w.heap.size w ((w5.setCell ⟨w2.heap.size, 0, none⟩ (.slice a' n c')).setCell ⟨w2.heap.size, 1, none⟩ (.slice o' p q')) := below_set (below_set (gr_trans b03 (gr_trans hb4 hb5)) (gr_trans b01 b12).size _ _) (gr_trans b01 b12).size _ _
  have hO' := (hO.set2 (g := w2.heap.size) (by have := hb4.size; have := z3.out; omega) (.slice a' n c') (.slice o' p q')).lt (base' := w.heap.size) (by have := hb4.size; have := b03.size; omega)
  have HO := hide hO'
  clear hO hO'
  exact bodyPost_ret (v := .tuple #[.agg #[.slice a' n c', .slice o' p q'], .bool false]) (by simp [results, Tryz.results155, go_sem, *]) rfl ⟨_, _, _, _, _, _, rfl, HO.out, hbW⟩
 ·rw [if_pos rfl]
  go_enter Tryz.func155, Tryz.ntmps155
  go_wp2_with (refine (specVtabOk_any a n c o p q v (p : Int) _ h3).mono ?_; rintro e w4 ⟨rfl, hb4⟩; rw [hok])
  have vv : Below w3.heap.size w3 w4.drew := gr_drew hb4
  have vb : Below w2.heap.size w2 w4.drew := gr_trans b23 vv
  refine wp_region_held_drew (S := (fun W => W.cell? ⟨w.heap.size, 0, none⟩ = some (.slice a n c) ∧ W.cell? ⟨w.heap.size, 1, none⟩ = some (.slice o p q) ∧ W.cell? ⟨w1.heap.size, 0, none⟩ = some (.int .i64 r.i) ∧ W.cell? ⟨w1.heap.size, 1, none⟩ = some (.int .i64 r.m) ∧ W.cell? ⟨w1.heap.size, 2, none⟩ = some (.int .i64 r.b))) (by kernel_rfl) (⟨kept_cell e0 vb, kept_cell e0x vb, kept_cell e1 vb, kept_cell e2 vb, kept_cell e3 vb⟩) (fun hHeld => ?_)
  refine kK 0 ⟨some 14, .load 29 (.tmp 2), 29, "l09_vlan.go:113", #[], none⟩ ?_
  refine kK 1 ⟨some 15, .load 100 (.tmp 3), 100, "l09_vlan.go:113", #[], none⟩ ?_
  refine kK 3 ⟨some 17, .load 29 (.tmp 2), 29, "l09_vlan.go:113", #[], none⟩ ?_
  refine tR [2] ?_
  refine AllReadyH.cons (o := ⟨some 16, .call ⟨.value (.func 185), #[.tmp 14, .tmp 15], #[29, 100]⟩, 29, "l09_vlan.go:113", #[⟨0, .data⟩, ⟨1, .data⟩], none⟩) rfl (fun K hK => ?_) ?_
  ·go_simp
   refine (specRow_made a n c o p q v r _ (h3.below vv) hn hp).mono ?_
   rintro e w5 ⟨a5, n5, c5, o5, q5, rfl, hO5, hb5⟩
   have hO5 := hO5.lt (base' := w3.heap.size) vv.size
   have vv := gr_trans vv hb5
   have vb := gr_trans vb hb5
   go_wp2_with fail
   refine hK.out _ _ (⟨kept_cell e0 vb, kept_cell e0x vb, kept_cell e1 vb, kept_cell e2 vb, kept_cell e3 vb⟩) (fun hHeld => ?_)
   clear hK K
   try simp only [Act.put, lA, lB, lC]
   refine tR [4] ?_
   refine AllReadyH.cons (o := ⟨some 18, .call ⟨.value (.func 184), #[.tmp 16, .tmp 17], #[29, 29]⟩, 177, "l09_vlan.go:113", #[⟨2, .data⟩, ⟨3, .data⟩, ⟨2, .chain⟩], none⟩) rfl (fun K hK => ?_) ?_
   ·go_simp
    refine (specOr_made w3.heap.size a5 n5 c5 o5 p q5 _ a n c o p q v _ hO5 (h3.below vv) hn hp vv.size).mono ?_
    rintro e w6 ⟨a6, n6, c6, o6, p6, q6, rfl, hO6, hb6⟩
    have vv := gr_trans vv hb6
    have vb := gr_trans vb hb6
    clear hO5
    go_wp2_with fail
    refine hK.out _ _ (⟨kept_cell e0 vb, kept_cell e0x vb, kept_cell e1 vb, kept_cell e2 vb, kept_cell e3 vb⟩) (fun hHeld => ?_)
    clear hK K
    try simp only [Act.put, lA, lB, lC]
    refine kK 5 ⟨some 19, .extract (.tmp 18) 0, 29, "l09_vlan.go:113", #[⟨4, .data⟩], none⟩ ?_
    refine kK 6 ⟨some 20, .extract (.tmp 18) 1, 4, "l09_vlan.go:113", #[⟨4, .data⟩], none⟩ ?_
    refine tR [7] ?_
    refine AllReadyH.cons (o := ⟨none, .store 29 (.tmp 4) (.tmp 19), 0, "l09_vlan.go:113", #[⟨5, .data⟩, ⟨4, .chain⟩, ⟨0, .phase⟩, ⟨1, .phase⟩, ⟨2, .phase⟩, ⟨3, .phase⟩, ⟨4, .phase⟩, ⟨5, .phase⟩, ⟨6, .phase⟩], none⟩) rfl (fun K hK => ?_) ?_
    ·obtain ⟨⟨g0, g1⟩, f0, f1⟩ := cells2 (kept_block k2 vv)
     go_simp
     have vb := below_set (below_set vb (Nat.le_refl _) 0 (.slice a6 n6 c6)) (Nat.le_refl _) 1 (.slice o6 p6 q6)
     have hO6 := hO6.set2 (g := w2.heap.size) z3.out (.slice a6 n6 c6) (.slice o6 p6 q6)
     refine hK.out _ _ (⟨kept_cell e0 vb, kept_cell e0x vb, kept_cell e1 vb, kept_cell e2 vb, kept_cell e3 vb⟩) (fun hHeld => ?_)
     clear hK K
     try simp only [Act.put, lA, lB, lC]
     refine kK 8 ⟨some 5, .assign (.tmp 20), 4, "l09_vlan.go:113", #[⟨6, .data⟩, ⟨7, .chain⟩, ⟨0, .phase⟩, ⟨1, .phase⟩, ⟨2, .phase⟩, ⟨3, .phase⟩, ⟨4, .phase⟩, ⟨5, .phase⟩, ⟨6, .phase⟩, ⟨7, .phase⟩], none⟩ ?_
     refine wpAnyH_done (by kernel_rfl) ?_ _
     have HO := hide (hO6.lt (base' := w.heap.size) b03.size)
     have HB := hide (gr_trans (gr_trans b01 b12) vb)
     clear hO6
     go_wp2
     exact bodyPost_ret (v := .tuple #[.agg #[.slice a6 n6 c6, .slice o6 p6 q6], .bool (orV ⟨putRowF v.rows r false, v.own⟩ v).2]) (by simp [results, Tryz.results155, go_sem, *]) rfl ⟨_, _, _, _, _, _, rfl, HO.out, HB.out⟩
    exact AllReadyH.nil
   exact AllReadyH.nil
  exact AllReadyH.nil

end Go.Proofs.YtddalpglihhipaaGreat
