/-
  Packed: BrCopyS VlanPorts BrTurnS BrInner BrInner2 VlanCopy FdbTab.
-/
import Derived.Test.YtdmplbmfkliiiaaGreatPNKW
import Derived.Test.YtdmplbmfkliiiaaGreatPNFdbImplA
import Derived.Test.YtdmplbmfkliiiaaGreatPNK01
import Derived.Test.YtdmplbmfkliiiaaGreatPNK03
import Derived.Test.YtdmplbmfkliiiaaGreatPNK04
import Derived.Test.YtdmplbmfkliiiaaGreatPNK05
import Derived.Test.YtdmplbmfkliiiaaGreatPNK06
import Derived.Test.YtdmplbmfkliiiaaGreatPNK10
import Derived.Test.YtdmplbmfkliiiaaGreatPNK14
import Derived.Test.YtdmplbmfkliiiaaGreatPNVtabOkS
namespace Go.Proofs.YtdmplbmfkliiiaaGreat
open Go.RowKit

set_option maxRecDepth 100000 in
set_option maxHeartbeats 8000000 in
theorem specCopyB_made (a : Option Addr) (n c : Nat) (fa : Option Addr) (fn fc : Nat) (ra : Option Addr) (rn rc : Nat) (oa : Option Addr) (on oc : Nat) (B : BR) (w : World) (h : BrRow w a n c fa fn fc ra rn rc oa on oc B) (hn : n ≤ 16777216) (hfn : fn ≤ 16777216) (hrn : rn ≤ 16777216) (hon : on ≤ 16777216) :
  Calls Tryz.prog 79 #[.agg #[.int .i64 B.id, .string B.name, .slice a n c, .slice fa fn fc, .slice ra rn rc, .slice oa on oc, .int .i64 B.ticks, .int .i64 B.parse, .int .i64 B.word, .int .i64 B.drops, .int .i64 B.vers]] w fun e w' => ∃ (a2 : Option Addr) (c2 : Nat) (fa2 : Option Addr) (fc2 : Nat) (ra2 : Option Addr) (rc2 : Nat) (oa2 : Option Addr) (oc2 : Nat), e = .returned (.agg #[.int .i64 B.id, .string B.name, .slice a2 n c2, .slice fa2 fn fc2, .slice ra2 rn rc2, .slice oa2 on oc2, .int .i64 B.ticks, .int .i64 B.parse, .int .i64 B.word, .int .i64 B.drops, .int .i64 B.vers]) ∧ BrOwn w' w.heap.size a2 n c2 fa2 fn fc2 ra2 rn rc2 oa2 on oc2 B ∧ Below w.heap.size w w' := by
 generalize hw1 : w.alloc (Obj.cells #[.int .i64 B.id, .string B.name, .slice a n c, .slice fa fn fc, .slice ra rn rc, .slice oa on oc, .int .i64 B.ticks, .int .i64 B.parse, .int .i64 B.word, .int .i64 B.drops, .int .i64 B.vers] 71) = w1
 generalize hw2 : w1.alloc (Obj.cells #[.int .i64 0, .string ⟨#[]⟩, .slice none 0 0, .slice none 0 0, .slice none 0 0, .slice none 0 0, .int .i64 0, .int .i64 0, .int .i64 0, .int .i64 0, .int .i64 0] 71) = w2
 generalize hw3 : w2.alloc (Obj.cells #[.int .i64 B.id, .string B.name, .slice a n c, .slice fa fn fc, .slice ra rn rc, .slice oa on oc, .int .i64 B.ticks, .int .i64 B.parse, .int .i64 B.word, .int .i64 B.drops, .int .i64 B.vers] 71) = w3
 generalize hw4 : w3.alloc (Obj.cells #[] 89) = w4
 have b01 : Below w.heap.size w w1 := by rw [← hw1]; exact below_one _ _
 have b12 : Below w1.heap.size w1 w2 := by rw [← hw2]; exact below_one _ _
 have b23 : Below w2.heap.size w2 w3 := by rw [← hw3]; exact below_one _ _
 have b34 : Below w3.heap.size w3 w4 := by rw [← hw4]; exact below_one _ _
 have z1 : w.heap.size < w1.heap.size := by rw [← hw1]; simp
 have z2 : w1.heap.size < w2.heap.size := by rw [← hw2]; simp
 have k1 : w1.heap[w.heap.size]? = some (.cells #[.int .i64 B.id, .string B.name, .slice a n c, .slice fa fn fc, .slice ra rn rc, .slice oa on oc, .int .i64 B.ticks, .int .i64 B.parse, .int .i64 B.word, .int .i64 B.drops, .int .i64 B.vers] 71) := by rw [← hw1]; exact block_last _ _
 have kA2 := kept_block k1 b12
 have kA4 := kept_block (kept_block kA2 b23) b34
 have st4 : BcSt w w4 w1.heap.size w2.heap.size #[.int .i64 B.id, .string B.name, .slice a n c, .slice fa fn fc, .slice ra rn rc, .slice oa on oc, .int .i64 B.ticks, .int .i64 B.parse, .int .i64 B.word, .int .i64 B.drops, .int .i64 B.vers] := BcSt.later ⟨by rw [← hw3]; exact block_last _ _, kept_block (by rw [← hw2]; exact block_last _ _) b23, gr_trans (gr_trans b01 b12) b23, by omega, Nat.le_of_lt z1, Nat.ne_of_lt z2⟩ b34
 have k4 : w4.heap[w3.heap.size]? = some (.cells #[] 89) := by rw [← hw4]; exact block_last _ _
 have b03 := gr_trans (gr_trans b01 b12) b23
 have nil4 : w4.ownsRow w.heap.size 89 8 (.slice (some ⟨w3.heap.size, 0, none⟩) 0 0) 0 (ptF.all []) := flat_nil ptF w w4 89 w3.heap.size k4 b03.size
 have HZ1 := hide z1
 have HZ2 := hide z2
 have nAX : ¬ w.heap.size = w2.heap.size := by omega
 have nXA : ¬ w2.heap.size = w.heap.size := by omega
 obtain ⟨x0, x1, x2, x3, x4, x5, x6, x7, x8, x9, x10⟩ := cells11 kA2
 have SZ23 := hide b23.size
 clear z1 z2 b01 b12 b23 b34 k1 b03
 go_enter Tryz.func79, Tryz.ntmps79
 go_upto_region 2 with fail
 clear x0 x1 x2 x3 x4 x5 x6 x7 x8 x9 x10 hw1 hw2 hw3
 obtain ⟨x0, x1, x2, x3, x4, x5, x6, x7, x8, x9, x10⟩ := cells11 kA4
 have HST := hide st4
 have HKA := hide kA4
 have HN4 := hide nil4
 have hp4 := h.ports.below st4.below
 have hs4 := st4.below.size
 clear st4 kA4 kA2
 go_wp2_with (at_builtin; refine pt_append _ rfl _ _ rfl w.heap.size _ 0 [] rfl nil4 a n c B.ports rfl hp4 (by omega) hs4 ?_)
 intro a4 c4 w5 o5 hr5 hg5 hb5
 have o5 : w5.ownsRow w.heap.size 89 8 (.slice a4 n c4) n (ptF.all B.ports) := by simpa using o5
 have st5 := HST.out.grown HN4.out (by decide) hg5 hb5
 have kA5 := kept_grown HKA.out hg5 (fun i e => by have h1 := (HN4.out.lt i e).1; have h2 : i = w3.heap.size := (Option.some.inj e).symm; have h3 := HZ2.out; have h4 := HZ1.out; have h5 : w2.heap.size ≤ w3.heap.size := SZ23.out; omega)
 try simp only [Nat.zero_add]
 clear x0 x1 x2 x3 x4 x5 x6 x7 x8 x9 x10 hr5 hg5 hb5 nil4 hp4 hs4 HST HKA HN4
 generalize hX : w2.heap.size = X at *
 generalize hR : w1.heap.size = R at *
 have st6 := st5.put 2 (.slice a4 n c4) (cs' := #[.int .i64 B.id, .string B.name, .slice a4 n c4, .slice fa fn fc, .slice ra rn rc, .slice oa on oc, .int .i64 B.ticks, .int .i64 B.parse, .int .i64 B.word, .int .i64 B.drops, .int .i64 B.vers]) rfl
 have o6 := st5.stay o5 (by decide) 2 (.slice a4 n c4)
 have kA6 := kept_set (b := X) (j := 2) (u := .slice a4 n c4) kA5 nAX
 obtain ⟨y0, y1, y2, y3, y4, y5, y6, y7, y8, y9, y10⟩ := cells11 st5.box
 have f2 := frozen8 st5.box 2
 generalize hw6 : w5.setCell ⟨X, 2, none⟩ (.slice a4 n c4) = w6 at st6 o6 kA6
 go_upto_region 3 with fail
 try rw [hw6]
 clear y0 y1 y2 y3 y4 y5 y6 y7 y8 y9 y10 f2 hw6 st5 o5 kA5
 obtain ⟨x0, x1, x2, x3, x4, x5, x6, x7, x8, x9, x10⟩ := cells11 kA6
 go_wp2_with fail
 refine (specCopyF_any fa fn fc B.f _ (h.f.below st6.below) hfn).mono ?_
 rintro e w7 ⟨fa6, fc6, rfl, oF, -, hb7⟩
 have st7 := st6.later hb7
 have o7 := gown_below o6 hb7
 have oF := gown_lt oF (base' := w.heap.size) st6.below.size
 have kA7 := kept_block kA6 hb7
 clear x0 x1 x2 x3 x4 x5 x6 x7 x8 x9 x10 hb7 o6 st6 kA6
 obtain ⟨y0, y1, y2, y3, y4, y5, y6, y7, y8, y9, y10⟩ := cells11 st7.box
 have f3 := frozen8 st7.box 3
 have st8 := st7.put 3 (.slice fa6 fn fc6) (cs' := #[.int .i64 B.id, .string B.name, .slice a4 n c4, .slice fa6 fn fc6, .slice ra rn rc, .slice oa on oc, .int .i64 B.ticks, .int .i64 B.parse, .int .i64 B.word, .int .i64 B.drops, .int .i64 B.vers]) rfl
 have o8 := st7.stay o7 (by decide) 3 (.slice fa6 fn fc6)
 have oF8 := st7.stay oF (by decide) 3 (.slice fa6 fn fc6)
 have kA8 := kept_set (b := X) (j := 3) (u := .slice fa6 fn fc6) kA7 nAX
 generalize hw8 : w7.setCell ⟨X, 3, none⟩ (.slice fa6 fn fc6) = w8 at st8 o8 oF8 kA8
 go_upto_region 4 with fail
 try rw [hw8]
 clear y0 y1 y2 y3 y4 y5 y6 y7 y8 y9 y10 f3 hw8 st7 o7 oF kA7
 obtain ⟨x0, x1, x2, x3, x4, x5, x6, x7, x8, x9, x10⟩ := cells11 kA8
 go_wp2_with fail
 refine (specCopyV_made ra rn rc oa on oc B.v _ (h.v.below st8.below) hrn hon).mono ?_
 rintro e w9 ⟨ra8, rc8, oa8, oc8, rfl, oV, hb9⟩
 have st9 := st8.later hb9
 have own9 : BrOwn w9 w.heap.size a4 n c4 fa6 fn fc6 ra8 rn rc8 oa8 on oc8 B := ⟨gown_below o8 hb9, gown_below oF8 hb9, oV.lt (base' := w.heap.size) st8.below.size⟩
 clear x0 x1 x2 x3 x4 x5 x6 x7 x8 x9 x10 hb9 o8 oF8 kA8 st8 oV
 have st10 := (st9.put 4 (.slice ra8 rn rc8) rfl).put 5 (.slice oa8 on oc8) (cs' := #[.int .i64 B.id, .string B.name, .slice a4 n c4, .slice fa6 fn fc6, .slice ra8 rn rc8, .slice oa8 on oc8, .int .i64 B.ticks, .int .i64 B.parse, .int .i64 B.word, .int .i64 B.drops, .int .i64 B.vers]) rfl
 have own10 := (own9.boxed st9.box 4 (.slice ra8 rn rc8)).boxed (st9.put 4 (.slice ra8 rn rc8) rfl).box 5 (.slice oa8 on oc8)
 obtain ⟨y0, y1, y2, y3, y4, y5, y6, y7, y8, y9, y10⟩ := cells11 st9.box
 have f4 := frozen8 st9.box 4
 have f5 := frozen8 st9.box 5
 obtain ⟨u0, u1, u2, u3, u4, u5, u6, u7, u8, u9, u10⟩ := cells11 st9.res
 have fr := frozen8 st9.res
 have fr0 := fr 0
 have fr1 := fr 1
 have fr2 := fr 2
 have fr3 := fr 3
 have fr4 := fr 4
 have fr5 := fr 5
 have fr6 := fr 6
 have fr7 := fr 7
 have fr8 := fr 8
 have fr9 := fr 9
 have fr10 := fr 10
 have ne1 : ¬ X = R := fun e => st9.ne e.symm
 have ne2 : ¬ R = X := st9.ne
 obtain ⟨HO0, HB0⟩ := st10.out own10 (.int .i64 B.id) (.string B.name) (.slice a4 n c4) (.slice fa6 fn fc6) (.slice ra8 rn rc8) (.slice oa8 on oc8) (.int .i64 B.ticks) (.int .i64 B.parse) (.int .i64 B.word) (.int .i64 B.drops) (.int .i64 B.vers)
 have HO := hide HO0
 have HB := hide HB0
 clear fr st9 st10 own9 own10 HO0 HB0
 go_wp2
 exact bodyPost_ret (v := .agg #[.int .i64 B.id, .string B.name, .slice a4 n c4, .slice fa6 fn fc6, .slice ra8 rn rc8, .slice oa8 on oc8, .int .i64 B.ticks, .int .i64 B.parse, .int .i64 B.word, .int .i64 B.drops, .int .i64 B.vers]) (by simp [results, Tryz.results79, go_sem, *]) rfl ⟨a4, c4, fa6, fc6, ra8, rc8, oa8, oc8, rfl, HO.out, HB.out⟩

set_option maxRecDepth 100000 in
set_option maxHeartbeats 2000000 in
theorem specThere_any (a : Option Addr) (n c : Nat) (fa : Option Addr) (fn fc : Nat) (ra : Option Addr) (rn rc : Nat) (oa : Option Addr) (on oc : Nat) (B : BR) (port : Int) (w : World) (h : BrRow w a n c fa fn fc ra rn rc oa on oc B) :
  Calls Tryz.prog 80 #[.agg #[.int .i64 B.id, .string B.name, .slice a n c, .slice fa fn fc, .slice ra rn rc, .slice oa on oc, .int .i64 B.ticks, .int .i64 B.parse, .int .i64 B.word, .int .i64 B.drops, .int .i64 B.vers], .int .i64 port] w fun e w' => e = .returned (.bool (thereB B port)) ∧ Below w.heap.size w w' := by
 have hle := h.ports.le
 have htop := h.ports.top
 unfold maxLen at htop
 have HTB : Hid (thereB B port = (bridgeOk B && (decide (0 ≤ port) && decide (port ≤ (n : Int) - 1)))) := hide (by unfold thereB; rw [h.ports.size])
 generalize hw1 : w.alloc (Obj.cells #[.int .i64 B.id, .string B.name, .slice a n c, .slice fa fn fc, .slice ra rn rc, .slice oa on oc, .int .i64 B.ticks, .int .i64 B.parse, .int .i64 B.word, .int .i64 B.drops, .int .i64 B.vers] 71) = w1
 have b01 : Below w.heap.size w w1 := by rw [← hw1]; exact below_one _ _
 have k1 : w1.heap[w.heap.size]? = some (.cells #[.int .i64 B.id, .string B.name, .slice a n c, .slice fa fn fc, .slice ra rn rc, .slice oa on oc, .int .i64 B.ticks, .int .i64 B.parse, .int .i64 B.word, .int .i64 B.drops, .int .i64 B.vers] 71) := by rw [← hw1]; exact block_last _ _
 obtain ⟨x0, x1, x2, x3, x4, x5, x6, x7, x8, x9, x10⟩ := cells11 k1
 cases hok : bridgeOk B
 ·have HQ : Hid (thereB B port = false) := hide (by rw [HTB.out, hok]; rfl)
  have HOK := hide hok
  clear hok
  go_enter Tryz.func80, Tryz.ntmps80
  go_wp2_with fail
  refine (specBridgeOk_any a n c fa fn fc ra rn rc oa on oc B _ (h.below b01)).mono ?_
  rintro e w2 ⟨rfl, hb2⟩
  rw [HOK.out]
  have HB := hide (gr_trans b01 hb2)
  clear x0 x1 x2 x3 x4 x5 x6 x7 x8 x9 x10 hb2
  go_wp2
  go_ret
  exact ⟨(by rw [HQ.out]; rfl), HB.out⟩
 ·have HOK := hide hok
  have HQ : Hid (thereB B port = (decide (0 ≤ port) && decide (port ≤ (n : Int) - 1))) := hide (by rw [HTB.out, hok]; rfl)
  clear hok
  go_enter Tryz.func80, Tryz.ntmps80
  go_wp2_with fail
  refine (specBridgeOk_any a n c fa fn fc ra rn rc oa on oc B _ (h.below b01)).mono ?_
  rintro e w2 ⟨rfl, hb2⟩
  rw [HOK.out]
  have HB := hide (gr_trans b01 hb2)
  have k2 := kept_block k1 hb2
  clear x0 x1 x2 x3 x4 x5 x6 x7 x8 x9 x10 hb2
  obtain ⟨x0, x1, x2, x3, x4, x5, x6, x7, x8, x9, x10⟩ := cells11 k2
  go_wp2_with fail
  refine (within_any port 0 ((n : Int) - 1) _).mono ?_
  rintro r w3 ⟨rfl, ew⟩
  obtain rfl := ew.symm
  go_wp2
  go_ret
  exact ⟨(by rw [HQ.out]; rfl), HB.out⟩

theorem bitOf_out {n port : Int} (h : in3 port 0 7 = false) : bitOf n port = false := by
 unfold bitOf
 rw [h]
 rfl

theorem bitOf_in {n : Int} {k : Nat} (h : k ≤ 7) : bitOf n (k : Int) = (bits .and .i64 (n / 2 ^ k) 1 == 1) := by
 unfold bitOf in3
 rw [Int.toNat_natCast, decide_eq_true (show (0 : Int) ≤ (k : Int) by omega), decide_eq_true (show (k : Int) ≤ 7 by omega)]
 rfl

set_option maxRecDepth 100000 in
set_option maxHeartbeats 2000000 in
theorem specBit_any (n port : Int) (w : World) :
  Calls Tryz.prog 118 #[.int .i64 n, .int .i64 port] w fun e w' => e = .returned (.bool (bitOf n port)) ∧ w' = w := by
 cases hin : in3 port 0 7
 ·rw [bitOf_out hin]
  have HIN := hide hin
  clear hin
  go_enter Tryz.func118, Tryz.ntmps118
  go_wp2_with fail
  refine (within_any port 0 7 _).mono ?_
  rintro e w1 ⟨rfl, e1⟩
  obtain rfl := e1.symm
  rw [show (decide (0 ≤ port) && decide (port ≤ 7)) = false from HIN.out]
  go_wp2
  go_ret
  exact ⟨rfl, rfl⟩
 ·have hp : 0 ≤ port ∧ port ≤ 7 := by unfold in3 at hin; simpa using hin
  obtain ⟨k, rfl⟩ : ∃ k : Nat, port = (k : Int) := ⟨port.toNat, by omega⟩
  rw [bitOf_in (by omega)]
  generalize hB : (bits .and .i64 (n / 2 ^ k) 1 == 1) = B
  have hwk : IntKind.u64.wrap (k : Int) = (k : Int) := by rw [IntKind.wrap_u64]; omega
  have HIN := hide hin
  clear hin
  go_enter Tryz.func118, Tryz.ntmps118
  go_wp2_with fail
  refine (within_any (k : Int) 0 7 _).mono ?_
  rintro e w1 ⟨rfl, e1⟩
  obtain rfl := e1.symm
  rw [show (decide (0 ≤ (k : Int)) && decide ((k : Int) ≤ 7)) = true from HIN.out]
  go_wp2
  go_ret
  exact ⟨ret_bool (by first | rfl | simp [hB]), rfl⟩

def hasP (n port : Int) : Bool := decide (0 ≤ port) && (bits .and .i64 n (2 ^ port.toNat) != 0)

theorem hasP_same {n port : Int} (hn : I64 n) (h : port ≤ 7 ∨ (port ≤ 9 ∧ 0 ≤ n ∧ n ≤ 63)) : hasP n port = bitOf n port := by
 unfold hasP
 by_cases h0 : 0 ≤ port
 ·obtain ⟨k, rfl⟩ : ∃ k : Nat, port = (k : Int) := ⟨port.toNat, by omega⟩
  rw [decide_eq_true h0, Bool.true_and, Int.toNat_natCast, bit_same n k (by omega) hn]
  by_cases h7 : k ≤ 7
  ·rw [bitOf_in h7]
  ·rw [bitOf_out (by unfold in3; rw [decide_eq_false (show ¬ (k : Int) ≤ 7 by omega), Bool.and_false])]
   have hn2 : 0 ≤ n ∧ n ≤ 63 := by rcases h with h | h <;> omega
   rcases (show k = 8 ∨ k = 9 by omega) with rfl | rfl
   ·rw [show n / 2 ^ 8 = 0 by simp; omega]
    decide
   ·rw [show n / 2 ^ 9 = 0 by simp; omega]
    decide
 ·rw [decide_eq_false h0, Bool.false_and, bitOf_out (by unfold in3; rw [decide_eq_false h0, Bool.false_and])]

set_option maxRecDepth 100000 in
set_option maxHeartbeats 2000000 in
theorem implHasPort_any (n port : Int) (hp : port ≤ 9) (w : World) :
  Calls Tryz.prog 175 #[.int .i64 n, .int .i64 port] w fun e w' => e = .returned (.bool (hasP n port)) ∧ w' = w := by
 by_cases h0 : 0 ≤ port
 ·have hx : port = 0 ∨ port = 1 ∨ port = 2 ∨ port = 3 ∨ port = 4 ∨ port = 5 ∨ port = 6 ∨ port = 7 ∨ port = 8 ∨ port = 9 := by omega
  rcases hx with rfl | rfl | rfl | rfl | rfl | rfl | rfl | rfl | rfl | rfl
  ·rw [show hasP n 0 = (bits .and .i64 n 1 != 0) from rfl]
   generalize hB : (bits .and .i64 n 1 != 0) = B
   go_enter Tryz.func175, Tryz.ntmps175
   go_wp2
   go_ret
   exact ⟨ret_bool (by first | rfl | simp [hB]), rfl⟩
  ·rw [show hasP n 1 = (bits .and .i64 n 2 != 0) from rfl]
   generalize hB : (bits .and .i64 n 2 != 0) = B
   go_enter Tryz.func175, Tryz.ntmps175
   go_wp2
   go_ret
   exact ⟨ret_bool (by first | rfl | simp [hB]), rfl⟩
  ·rw [show hasP n 2 = (bits .and .i64 n 4 != 0) from rfl]
   generalize hB : (bits .and .i64 n 4 != 0) = B
   go_enter Tryz.func175, Tryz.ntmps175
   go_wp2
   go_ret
   exact ⟨ret_bool (by first | rfl | simp [hB]), rfl⟩
  ·rw [show hasP n 3 = (bits .and .i64 n 8 != 0) from rfl]
   generalize hB : (bits .and .i64 n 8 != 0) = B
   go_enter Tryz.func175, Tryz.ntmps175
   go_wp2
   go_ret
   exact ⟨ret_bool (by first | rfl | simp [hB]), rfl⟩
  ·rw [show hasP n 4 = (bits .and .i64 n 16 != 0) from rfl]
   generalize hB : (bits .and .i64 n 16 != 0) = B
   go_enter Tryz.func175, Tryz.ntmps175
   go_wp2
   go_ret
   exact ⟨ret_bool (by first | rfl | simp [hB]), rfl⟩
  ·rw [show hasP n 5 = (bits .and .i64 n 32 != 0) from rfl]
   generalize hB : (bits .and .i64 n 32 != 0) = B
   go_enter Tryz.func175, Tryz.ntmps175
   go_wp2
   go_ret
   exact ⟨ret_bool (by first | rfl | simp [hB]), rfl⟩
  ·rw [show hasP n 6 = (bits .and .i64 n 64 != 0) from rfl]
   generalize hB : (bits .and .i64 n 64 != 0) = B
   go_enter Tryz.func175, Tryz.ntmps175
   go_wp2
   go_ret
   exact ⟨ret_bool (by first | rfl | simp [hB]), rfl⟩
  ·rw [show hasP n 7 = (bits .and .i64 n 128 != 0) from rfl]
   generalize hB : (bits .and .i64 n 128 != 0) = B
   go_enter Tryz.func175, Tryz.ntmps175
   go_wp2
   go_ret
   exact ⟨ret_bool (by first | rfl | simp [hB]), rfl⟩
  ·rw [show hasP n 8 = (bits .and .i64 n 256 != 0) from rfl]
   generalize hB : (bits .and .i64 n 256 != 0) = B
   go_enter Tryz.func175, Tryz.ntmps175
   go_wp2
   go_ret
   exact ⟨ret_bool (by first | rfl | simp [hB]), rfl⟩
  ·rw [show hasP n 9 = (bits .and .i64 n 512 != 0) from rfl]
   generalize hB : (bits .and .i64 n 512 != 0) = B
   go_enter Tryz.func175, Tryz.ntmps175
   go_wp2
   go_ret
   exact ⟨ret_bool (by first | rfl | simp [hB]), rfl⟩
 ·rw [show hasP n port = false by unfold hasP; rw [decide_eq_false h0]; rfl]
  go_enter Tryz.func175, Tryz.ntmps175
  go_wp2
  go_ret
  exact ⟨rfl, rfl⟩

set_option maxRecDepth 100000 in
set_option maxHeartbeats 400000 in
theorem specOne_any (n : Int) (w : World) (h : n ≤ 9223372036854775806) (h0 : -9223372036854775808 ≤ n) :
  Calls Tryz.prog 116 #[.int .i64 n] w fun e w' => e = .returned (.int .i64 (oneMore n)) ∧ w' = w := by
 by_cases h1 : n ≥ 1000000
 ·rw [show oneMore n = n from if_pos h1]
  have h1' : (1000000 : Int) ≤ n := h1
  go_enter Tryz.func116, Tryz.ntmps116
  go_wp2
  go_ret
  exact ⟨rfl, rfl⟩
 ·rw [show oneMore n = n + 1 from if_neg h1]
  have h1' : ¬ (1000000 : Int) ≤ n := h1
  go_enter Tryz.func116, Tryz.ntmps116
  go_wp2
  go_ret
  exact ⟨rfl, rfl⟩

theorem flushTo_len (bits : Int) (l : List FE) (k : Nat) : (flushTo bits l k).length ≤ l.length := (flushTo_sub bits l k).length_le

set_option maxRecDepth 100000 in
set_option maxHeartbeats 8000000 in
theorem specTurned_made (base : Nat) (a : Option Addr) (n c : Nat) (fa : Option Addr) (fn fc : Nat) (ra : Option Addr) (rn rc : Nat) (oa : Option Addr) (on oc : Nat) (B : BR) (w : World) (h : BrOwn w base a n c fa fn fc ra rn rc oa on oc B) (hbase : base ≤ w.heap.size) (hn : n ≤ 1048576) (hfn : fn ≤ 16777216) (hv : -9223372036854775808 ≤ B.vers ∧ B.vers ≤ 9223372036854775806) :
  Calls Tryz.prog 81 #[.agg #[.int .i64 B.id, .string B.name, .slice a n c, .slice fa fn fc, .slice ra rn rc, .slice oa on oc, .int .i64 B.ticks, .int .i64 B.parse, .int .i64 B.word, .int .i64 B.drops, .int .i64 B.vers]] w fun e w' => ∃ (fa2 : Option Addr) (fn2 fc2 : Nat), e = .returned (.agg #[.int .i64 B.id, .string B.name, .slice a n c, .slice fa2 fn2 fc2, .slice ra rn rc, .slice oa on oc, .int .i64 B.ticks, .int .i64 B.parse, .int .i64 B.word, .int .i64 B.drops, .int .i64 (oneMore B.vers)]) ∧ BrOwn w' base a n c fa2 fn2 fc2 ra rn rc oa on oc (turned B) ∧ Below w.heap.size w w' := by
 have hpl : B.ports.length = n := (grow_own (F := ptF) h.ports).size
 have hfl : B.f.length = fn := (grow_own (F := fentF) h.f).size
 generalize hw1 : w.alloc (Obj.cells #[.int .i64 B.id, .string B.name, .slice a n c, .slice fa fn fc, .slice ra rn rc, .slice oa on oc, .int .i64 B.ticks, .int .i64 B.parse, .int .i64 B.word, .int .i64 B.drops, .int .i64 B.vers] 71) = w1
 generalize hw2 : w1.alloc (Obj.cells #[.int .i64 0, .string ⟨#[]⟩, .slice none 0 0, .slice none 0 0, .slice none 0 0, .slice none 0 0, .int .i64 0, .int .i64 0, .int .i64 0, .int .i64 0, .int .i64 0] 71) = w2
 have b01 : Below w.heap.size w w1 := by rw [← hw1]; exact below_one _ _
 have b12 : Below w1.heap.size w1 w2 := by rw [← hw2]; exact below_one _ _
 have z1 : w.heap.size < w1.heap.size := by rw [← hw1]; simp
 have st2 : BcSt w w2 w1.heap.size w.heap.size #[.int .i64 B.id, .string B.name, .slice a n c, .slice fa fn fc, .slice ra rn rc, .slice oa on oc, .int .i64 B.ticks, .int .i64 B.parse, .int .i64 B.word, .int .i64 B.drops, .int .i64 B.vers] := ⟨kept_block (by rw [← hw1]; exact block_last _ _) b12, by rw [← hw2]; exact block_last _ _, gr_trans b01 b12, Nat.le_refl _, Nat.le_of_lt z1, Nat.ne_of_gt z1⟩
 have own2 := h.below (gr_trans b01 b12)
 obtain ⟨x0, x1, x2, x3, x4, x5, x6, x7, x8, x9, x10⟩ := cells11 st2.box
 have f10 := frozen8 st2.box 10
 obtain ⟨V, hV⟩ : ∃ V, V = oneMore B.vers := ⟨_, rfl⟩
 have HV := hide hV
 have HVR := hide hv
 clear hv
 go_enter Tryz.func81, Tryz.ntmps81
 go_wp2_with fail
 refine (specOne_any B.vers _ HVR.out.2 HVR.out.1).mono ?_
 rintro e w3 ⟨rfl, e3⟩
 obtain rfl := e3.symm
 rw [← hV]
 clear hV hw1 hw2
 generalize hR : w1.heap.size = R at *
 generalize hw4 : w2.setCell ⟨w.heap.size, 10, none⟩ (.int .i64 V) = w4
 have st4 := st2.put 10 (.int .i64 V) (cs' := #[.int .i64 B.id, .string B.name, .slice a n c, .slice fa fn fc, .slice ra rn rc, .slice oa on oc, .int .i64 B.ticks, .int .i64 B.parse, .int .i64 B.word, .int .i64 B.drops, .int .i64 V]) rfl
 have own4 := own2.boxed st2.box 10 (.int .i64 V)
 rw [hw4] at st4 own4
 go_upto_region 2 with fail
 clear x0 x1 x2 x3 x4 x5 x6 x7 x8 x9 x10 f10 st2 own2 hw4
 obtain ⟨x0, x1, x2, x3, x4, x5, x6, x7, x8, x9, x10⟩ := cells11 st4.box
 go_wp2_with fail
 refine (specSends_any B.id a n c B.ports _ (grow_own (F := ptF) own4.ports)).mono ?_
 rintro e w5 ⟨rfl, hb5⟩
 have st5 := st4.later hb5
 have own5 := own4.below hb5
 generalize hbits : sendsOf B.id B.ports = bits
 have HBI := hide hbits
 clear x0 x1 x2 x3 x4 x5 x6 x7 x8 x9 x10 st4 own4 hb5 hbits
 have HFL := hide hfl
 clear hfl
 go_wp2_with fail
 go_loopw [4] (fun i wr => ∃ (k : Nat) (fa2 : Option Addr) (fn2 fc2 : Nat), k ≤ n ∧ i = .int .i64 k ∧ fn2 ≤ fn ∧ BcSt w wr R w.heap.size #[.int .i64 B.id, .string B.name, .slice a n c, .slice fa2 fn2 fc2, .slice ra rn rc, .slice oa on oc, .int .i64 B.ticks, .int .i64 B.parse, .int .i64 B.word, .int .i64 B.drops, .int .i64 V] ∧ BrOwn wr base a n c fa2 fn2 fc2 ra rn rc oa on oc { B with f := flushTo bits B.f k }) (fun i _ => n - (intOf i).toNat)
 case atStart => exact ⟨0, fa, fn, fc, Nat.zero_le _, rfl, Nat.le_refl _, st5, own5⟩
 case round =>
  obtain ⟨k, fa2, fn2, fc2, hk, rfl, hf2, st, own⟩ := hrel
  clear st5 own5
  obtain ⟨x0, x1, x2, x3, x4, x5, x6, x7, x8, x9, x10⟩ := cells11 st.box
  by_cases hlt : k < n
  ·have i1 : (0 : Int) ≤ (k : Int) := by omega
   have i2 : (k : Int) < (n : Int) := by omega
   go_wp2_with fail
   refine (specBit_any bits (k : Int) _).mono ?_
   rintro e w6 ⟨rfl, e6⟩
   obtain rfl := e6.symm
   cases hb : bitOf bits (k : Int)
   ·have HF : Hid (flushTo bits B.f (k + 1) = flushF (flushTo bits B.f k) (k : Int)) := hide (by rw [flushTo, if_neg (by rw [hb]; decide)])
    clear hb
    go_wp2_with fail
    refine (specFlush_any fa2 fn2 fc2 (flushTo bits B.f k) (k : Int) _ (grow_own (F := fentF) own.f) (by omega)).mono ?_
    rintro e w7 ⟨fa7, fc7, rfl, o7, -, hb7⟩
    have hlen : (flushF (flushTo bits B.f k) (k : Int)).length ≤ fn := by
     have h1 : (flushF (flushTo bits B.f k) (k : Int)).length ≤ (flushTo bits B.f k).length := List.length_filter_le _ _
     have h2 := flushTo_len bits B.f k
     have h3 := HFL.out
     omega
    have st7 := st.later hb7
    have o7 := gown_lt o7 (base' := base) (Nat.le_trans hbase st.below.size)
    have own7 := (own.below hb7).putF (Below.refl _ _) o7
    clear x0 x1 x2 x3 x4 x5 x6 x7 x8 x9 x10 hb7 o7 st own
    obtain ⟨x0, x1, x2, x3, x4, x5, x6, x7, x8, x9, x10⟩ := cells11 st7.box
    have f3 := frozen8 st7.box 3
    rw [← HF.out] at own7 hlen ⊢
    generalize hL : (flushTo bits B.f (k + 1)).length = L at *
    have HST := hide (st7.put 3 (.slice fa7 L fc7) (cs' := #[.int .i64 B.id, .string B.name, .slice a n c, .slice fa7 L fc7, .slice ra rn rc, .slice oa on oc, .int .i64 B.ticks, .int .i64 B.parse, .int .i64 B.word, .int .i64 B.drops, .int .i64 V]) rfl)
    have HOW := hide (own7.boxed st7.box 3 (.slice fa7 L fc7))
    clear st7 own7
    go_wp2
    go_roundw
    case rel => exact ⟨k + 1, fa7, L, fc7, by omega, by go_num, hlen, HST.out, HOW.out⟩
    case measure => simp [intOf]; omega
   ·have HF : Hid (flushTo bits B.f (k + 1) = flushTo bits B.f k) := hide (by rw [flushTo, if_pos hb])
    have HOW : Hid (BrOwn wr base a n c fa2 fn2 fc2 ra rn rc oa on oc { B with f := flushTo bits B.f (k + 1) }) := hide (by rw [HF.out]; exact own)
    have HST := hide st
    clear hb st own x0 x1 x2 x3 x4 x5 x6 x7 x8 x9 x10
    go_wp2
    go_roundw
    case rel => exact ⟨k + 1, fa2, fn2, fc2, by omega, by go_num, hf2, HST.out, HOW.out⟩
    case measure => simp [intOf]; omega
  ·obtain rfl : n = k := by omega
   obtain ⟨y0, y1, y2, y3, y4, y5, y6, y7, y8, y9, y10⟩ := cells11 st.res
   have fr := frozen8 st.res
   have f0 := fr 0
   have f1 := fr 1
   have f2 := fr 2
   have f3 := fr 3
   have f4 := fr 4
   have f5 := fr 5
   have f6 := fr 6
   have f7 := fr 7
   have f8 := fr 8
   have f9 := fr 9
   have f10 := fr 10
   have ne1 : ¬ R = w.heap.size := st.ne
   have ne2 : ¬ w.heap.size = R := fun e => st.ne e.symm
   have HT : Hid (turned B = { B with vers := V, f := flushTo bits B.f n }) := hide (by unfold turned; rw [HBI.out, hpl, HV.out])
   obtain ⟨HO0, HB0⟩ := st.out own (.int .i64 B.id) (.string B.name) (.slice a n c) (.slice fa2 fn2 fc2) (.slice ra rn rc) (.slice oa on oc) (.int .i64 B.ticks) (.int .i64 B.parse) (.int .i64 B.word) (.int .i64 B.drops) (.int .i64 V)
   have HO := hide HO0
   have HB := hide HB0
   clear st own fr HO0 HB0
   go_wp2
   exact bodyPost_ret (v := .agg #[.int .i64 B.id, .string B.name, .slice a n c, .slice fa2 fn2 fc2, .slice ra rn rc, .slice oa on oc, .int .i64 B.ticks, .int .i64 B.parse, .int .i64 B.word, .int .i64 B.drops, .int .i64 V]) (by simp [results, Tryz.results81, go_sem, *]) rfl ⟨fa2, fn2, fc2, (by rw [HV.out]), (by rw [HT.out]; exact ⟨HO.out.ports, HO.out.f, HO.out.v⟩), HB.out⟩

theorem cells12 {w : World} {g : Nat} {T : TypeId} {c0 c1 c2 c3 c4 c5 c6 c7 c8 c9 c10 c11 : Value} (h : w.heap[g]? = some (.cells #[c0, c1, c2, c3, c4, c5, c6, c7, c8, c9, c10, c11] T)) :
  w.cell? ⟨g, 0, none⟩ = some c0 ∧ w.cell? ⟨g, 1, none⟩ = some c1 ∧ w.cell? ⟨g, 2, none⟩ = some c2 ∧ w.cell? ⟨g, 3, none⟩ = some c3 ∧ w.cell? ⟨g, 4, none⟩ = some c4 ∧ w.cell? ⟨g, 5, none⟩ = some c5 ∧ w.cell? ⟨g, 6, none⟩ = some c6 ∧ w.cell? ⟨g, 7, none⟩ = some c7 ∧ w.cell? ⟨g, 8, none⟩ = some c8 ∧ w.cell? ⟨g, 9, none⟩ = some c9 ∧ w.cell? ⟨g, 10, none⟩ = some c10 ∧ w.cell? ⟨g, 11, none⟩ = some c11 := by
 simp [World.cell?, h]

structure IbSt (w wr : World) (R X : Nat) (zs cs : Array Value) (TR TX : TypeId) : Prop where
 box : wr.heap[X]? = some (.cells cs TX)
 res : wr.heap[R]? = some (.cells zs TR)
 below : Below w.heap.size w wr
 hX : w.heap.size ≤ X
 hR : w.heap.size ≤ R
 ne : R ≠ X

theorem IbSt.later {w wr wx : World} {R X : Nat} {zs cs : Array Value} {TR TX : TypeId} (h : IbSt w wr R X zs cs TR TX) (hb : Below wr.heap.size wr wx) : IbSt w wx R X zs cs TR TX :=
 ⟨kept_block h.box hb, kept_block h.res hb, gr_trans h.below hb, h.hX, h.hR, h.ne⟩

theorem IbSt.put {w wr : World} {R X : Nat} {zs cs : Array Value} {TR TX : TypeId} (h : IbSt w wr R X zs cs TR TX) (j : Nat) (u : Value) {cs' : Array Value} (he : cs.setIfInBounds j u = cs') : IbSt w (wr.setCell ⟨X, j, none⟩ u) R X zs cs' TR TX :=
 ⟨by rw [← he]; exact box11 h.box j u, kept_set h.res h.ne, below_set h.below h.hX j u, h.hX, h.hR, h.ne⟩

theorem IbSt.grown {w wr wx : World} {R X : Nat} {zs cs : Array Value} {TR TX : TypeId} (h : IbSt w wr R X zs cs TR TX) {base k : Nat} {e : TypeId} {v : Value} {n : Nat} {ys : List Value} (ho : wr.ownsRow base e k v n ys) (h1 : (e : Nat) ≠ TX) (h2 : (e : Nat) ≠ TR) (hg : wr.grownBy wx v.ownBlock) (hb : Below w.heap.size wr wx) : IbSt w wx R X zs cs TR TX :=
 ⟨kept_grown h.box hg (fun i e => box_ne ho h.box h1 i e), kept_grown h.res hg (fun i e => box_ne ho h.res h2 i e), h.below.trans hb, h.hX, h.hR, h.ne⟩

theorem IbSt.stay {w wr : World} {R X : Nat} {zs cs : Array Value} {TR TX : TypeId} (h : IbSt w wr R X zs cs TR TX) {base k : Nat} {e : TypeId} {v : Value} {n : Nat} {ys : List Value} (ho : wr.ownsRow base e k v n ys) (hne : (e : Nat) ≠ TX) (j : Nat) (u : Value) : (wr.setCell ⟨X, j, none⟩ u).ownsRow base e k v n ys :=
 gown_other ho (grown_set (rb := X) j u) (box_ne ho h.box hne)

theorem BrOwn.other {w : World} {base : Nat} {a : Option Addr} {n c : Nat} {fa : Option Addr} {fn fc : Nat} {ra : Option Addr} {rn rc : Nat} {oa : Option Addr} {on oc : Nat} {B : BR} (h : BrOwn w base a n c fa fn fc ra rn rc oa on oc B) {X : Nat} {cs : Array Value} {T : TypeId} (hX : w.heap[X]? = some (.cells cs T)) (h1 : (89 : Nat) ≠ T) (h2 : (112 : Nat) ≠ T) (h3 : (115 : Nat) ≠ T) (h4 : (3 : Nat) ≠ T) (j : Nat) (u : Value) : BrOwn (w.setCell ⟨X, j, none⟩ u) base a n c fa fn fc ra rn rc oa on oc B :=
 ⟨gown_other h.ports (grown_set (rb := X) j u) (box_ne h.ports hX h1), gown_other h.f (grown_set (rb := X) j u) (box_ne h.f hX h2),
  ⟨gown_other h.v.rows (grown_set (rb := X) j u) (box_ne h.v.rows hX h3), gown_other h.v.own (grown_set (rb := X) j u) (box_ne h.v.own hX h4), h.v.i64⟩⟩

set_option maxRecDepth 100000 in
set_option maxHeartbeats 400000 in
theorem implOne_any (n : Int) (w : World) (h : n ≤ 1000000) (h0 : 0 ≤ n) :
  Calls Tryz.prog 140 #[.int .i64 n] w fun e w' => e = .returned (.int .i64 (oneMore n)) ∧ w' = w := by
 by_cases h1 : n ≥ 1000000
 ·have e : n = 1000000 := by omega
  subst e
  rw [show oneMore 1000000 = 1000000 from rfl]
  go_enter Tryz.func140, Tryz.ntmps140
  go_wp2
  go_ret
  exact ⟨rfl, rfl⟩
 ·rw [show oneMore n = n + 1 from if_neg h1]
  have h1' : min (n + 1) (1000000 : Int) = n + 1 := by omega
  go_enter Tryz.func140, Tryz.ntmps140
  go_wp2
  go_ret
  exact ⟨rfl, rfl⟩

set_option maxRecDepth 100000 in
set_option maxHeartbeats 400000 in
theorem implHas_any (a : Option Addr) (n c : Nat) (port : Int) (w : World) (hn : n ≤ 137438953472) :
  Calls Tryz.prog 88 #[.slice a n c, .int .i64 port] w fun e w' => e = .returned (.bool (decide (0 ≤ port) && decide (port ≤ (n : Int) - 1))) ∧ w' = w := by
 go_enter Tryz.func88, Tryz.ntmps88
 go_wp2_with fail
 refine (implIn_any port 0 ((n : Int) - 1) _).mono ?_
 rintro r w3 ⟨rfl, ew⟩
 obtain rfl := ew.symm
 go_wp2
 go_ret
 exact ⟨rfl, rfl⟩

set_option maxRecDepth 100000 in
set_option maxHeartbeats 2000000 in
theorem implFace_any (a : Option Addr) (n c : Nat) (fa : Option Addr) (fn fc : Nat) (ra : Option Addr) (rn rc : Nat) (oa : Option Addr) (on oc : Nat) (B : BR) (w : World) :
  Calls Tryz.prog 103 #[.agg #[.slice a n c, .int .i64 B.id, .string B.name, .slice none 0 0, .slice fa fn fc, .slice ra rn rc, .slice oa on oc, .int .i64 B.ticks, .int .i64 B.parse, .int .i64 B.word, .int .i64 B.drops, .int .i64 B.vers]] w fun e w' => e = .returned (.agg #[.int .i64 B.id, .string B.name, .slice a n c, .slice fa fn fc, .slice ra rn rc, .slice oa on oc, .int .i64 B.ticks, .int .i64 B.parse, .int .i64 B.word, .int .i64 B.drops, .int .i64 B.vers]) ∧ Below w.heap.size w w' := by
 generalize hw1 : w.alloc (Obj.cells #[.slice a n c, .int .i64 B.id, .string B.name, .slice none 0 0, .slice fa fn fc, .slice ra rn rc, .slice oa on oc, .int .i64 B.ticks, .int .i64 B.parse, .int .i64 B.word, .int .i64 B.drops, .int .i64 B.vers] 137) = w1
 generalize hw2 : w1.alloc (Obj.cells #[.int .i64 0, .string ⟨#[]⟩, .slice none 0 0, .slice none 0 0, .slice none 0 0, .slice none 0 0, .int .i64 0, .int .i64 0, .int .i64 0, .int .i64 0, .int .i64 0] 71) = w2
 generalize hw3 : w2.alloc (Obj.cells #[.int .i64 B.id, .string B.name, .slice none 0 0, .slice fa fn fc, .slice ra rn rc, .slice oa on oc, .int .i64 B.ticks, .int .i64 B.parse, .int .i64 B.word, .int .i64 B.drops, .int .i64 B.vers] 71) = w3
 have b01 : Below w.heap.size w w1 := by rw [← hw1]; exact below_one _ _
 have b12 : Below w1.heap.size w1 w2 := by rw [← hw2]; exact below_one _ _
 have b23 : Below w2.heap.size w2 w3 := by rw [← hw3]; exact below_one _ _
 have z1 : w.heap.size < w1.heap.size := by rw [← hw1]; simp
 have z2 : w1.heap.size < w2.heap.size := by rw [← hw2]; simp
 have k1 : w1.heap[w.heap.size]? = some (.cells #[.slice a n c, .int .i64 B.id, .string B.name, .slice none 0 0, .slice fa fn fc, .slice ra rn rc, .slice oa on oc, .int .i64 B.ticks, .int .i64 B.parse, .int .i64 B.word, .int .i64 B.drops, .int .i64 B.vers] 137) := by rw [← hw1]; exact block_last _ _
 have kA := kept_block (kept_block k1 b12) b23
 obtain ⟨x0, x1, x2, x3, x4, x5, x6, x7, x8, x9, x10, x11⟩ := cells12 (kept_block k1 b12)
 have st : BcSt w w3 w1.heap.size w2.heap.size #[.int .i64 B.id, .string B.name, .slice none 0 0, .slice fa fn fc, .slice ra rn rc, .slice oa on oc, .int .i64 B.ticks, .int .i64 B.parse, .int .i64 B.word, .int .i64 B.drops, .int .i64 B.vers] := ⟨by rw [← hw3]; exact block_last _ _, kept_block (by rw [← hw2]; exact block_last _ _) b23, gr_trans (gr_trans b01 b12) b23, by omega, Nat.le_of_lt z1, Nat.ne_of_lt z2⟩
 have nAX : ¬ w.heap.size = w2.heap.size := by omega
 have nXA : ¬ w2.heap.size = w.heap.size := by omega
 have nRX : ¬ w1.heap.size = w2.heap.size := by omega
 have nXR : ¬ w2.heap.size = w1.heap.size := by omega
 clear z1 z2 b01 b12 b23 k1
 go_enter Tryz.func103, Tryz.ntmps103
 go_upto_region 2 with fail
 clear x0 x1 x2 x3 x4 x5 x6 x7 x8 x9 x10 x11
 try rw [hw3]
 clear hw1 hw2 hw3
 generalize hX : w2.heap.size = X at *
 generalize hR : w1.heap.size = R at *
 have st5 := st.put 2 (.slice a n c) (cs' := #[.int .i64 B.id, .string B.name, .slice a n c, .slice fa fn fc, .slice ra rn rc, .slice oa on oc, .int .i64 B.ticks, .int .i64 B.parse, .int .i64 B.word, .int .i64 B.drops, .int .i64 B.vers]) rfl
 have HB := hide (below_set11 st5.below st5.hR (.int .i64 B.id) (.string B.name) (.slice a n c) (.slice fa fn fc) (.slice ra rn rc) (.slice oa on oc) (.int .i64 B.ticks) (.int .i64 B.parse) (.int .i64 B.word) (.int .i64 B.drops) (.int .i64 B.vers))
 obtain ⟨x0, x1, x2, x3, x4, x5, x6, x7, x8, x9, x10, x11⟩ := cells12 kA
 obtain ⟨y0, y1, y2, y3, y4, y5, y6, y7, y8, y9, y10⟩ := cells11 st.box
 obtain ⟨u0, u1, u2, u3, u4, u5, u6, u7, u8, u9, u10⟩ := cells11 st.res
 have g2 := frozen8 st.box 2
 have fr := frozen8 st.res
 have fr0 := fr 0
 have fr1 := fr 1
 have fr2 := fr 2
 have fr3 := fr 3
 have fr4 := fr 4
 have fr5 := fr 5
 have fr6 := fr 6
 have fr7 := fr 7
 have fr8 := fr 8
 have fr9 := fr 9
 have fr10 := fr 10
 clear fr st st5 kA
 go_wp2
 exact bodyPost_ret (v := .agg #[.int .i64 B.id, .string B.name, .slice a n c, .slice fa fn fc, .slice ra rn rc, .slice oa on oc, .int .i64 B.ticks, .int .i64 B.parse, .int .i64 B.word, .int .i64 B.drops, .int .i64 B.vers]) (by simp [results, Tryz.results103, go_sem, *]) rfl ⟨rfl, HB.out⟩

set_option maxRecDepth 100000 in
set_option maxHeartbeats 4000000 in
theorem implLink_at (base g n cap k : Nat) (l : List PT) (x : PT) (up : Bool) (w : World) (h : w.ownsRow base 89 8 (.slice (some ⟨g, 0, none⟩) n cap) n (ptF.all (l))) (hx : l[k]? = some x) (hk : k < n) :
  Calls Tryz.prog 104 #[.slice (some ⟨g, 0, none⟩) n cap, .int .i64 k, .bool up] w fun e w' => e = .returned (.tuple #[]) ∧ w'.ownsRow base 89 8 (.slice (some ⟨g, 0, none⟩) n cap) n (ptF.all (l.set k ⟨up, x.k, false, ⟨0, 0, 0, 0, 0⟩⟩)) ∧ w.grownBy w' (some g) := by
 have i1 : (0 : Int) ≤ (k : Int) := by omega
 have i2 : (k : Int) < (n : Int) := by omega
 obtain ⟨⟨t0, t1, t2, t3, t4, t5, t6, t7⟩, f0, f1, f2, f3, f4, f5, f6, f7⟩ := pt_cells h hx
 have HA := hide (link_own up h hx)
 have HG := hide (grown_set8 (w := w) (g := g) (k * 8) (k * 8 + 1) (k * 8 + 2) (k * 8 + 3) (k * 8 + 4) (k * 8 + 5) (k * 8 + 6) (k * 8 + 7) (.bool up) (.int .i64 x.k) (.bool false) (.int .i64 0) (.int .i64 0) (.int .i64 0) (.int .i64 0) (.int .i64 0))
 clear hx h
 go_enter Tryz.func104, Tryz.ntmps104
 go_wp2
 go_end0
 exact ⟨rfl, HA.out, HG.out⟩

set_option maxRecDepth 100000 in
set_option maxHeartbeats 1000000 in
theorem cloneP_any (ao : Option Addr) (n cap : Nat) (l : List PT) (w : World) (h : GRow ptF w ao n cap l) (hn : n ≤ 16777216) :
  Calls Tryz.prog 137 #[.slice ao n cap] w fun r w' => ∃ ao' cap', r = .returned (.slice ao' n cap') ∧ w'.ownsRow w.heap.size 89 8 (.slice ao' n cap') n (ptF.all l) ∧ Below w.heap.size w w' := by
 cases ao with
 | none =>
  have hc0 := h.nil rfl
  have hn0 : n = 0 := by have := h.le; omega
  subst hc0 hn0
  have hl : l = [] := List.eq_nil_of_length_eq_zero h.size
  subst hl
  have heq : ∀ W, (binOp .eql 65 (.slice none 0 0) (.slice none 0 0)).run Tryz.prog W = .ok (.bool true) W := fun _ => by kernel_rfl
  go_enter Tryz.func137, Tryz.ntmps137
  go_wp2
  go_ret
  exact ⟨none, 0, rfl, World.ownsRow_nil _ _ _ _, Below.refl _ _⟩
 | some a =>
  have heq : ∀ W, (binOp .eql 65 (.slice (some a) n cap) (.slice none 0 0)).run Tryz.prog W = .ok (.bool false) W := fun _ => by kernel_rfl
  go_enter Tryz.func137, Tryz.ntmps137
  go_wp2_with (at_builtin; refine pt_append _ rfl _ _ rfl w.heap.size _ 0 [] rfl (flat_nil ptF w _ 89 w.heap.size (block_last w _) (Nat.le_refl _)) (some a) n cap l rfl (h.below (below_one _ _)) (by omega) (by simp) ?_)
  intro ao' cap' w' how hr hgr hb
  have how : w'.ownsRow w.heap.size 89 8 (.slice ao' n cap') n (ptF.all l) := by simpa using how
  have HO := hide how
  have HB := hide ((below_one w _).trans hb)
  clear how hgr hb hr
  go_wp2
  go_ret
  exact ⟨ao', cap', (by simp), HO.out, HB.out⟩

set_option maxRecDepth 100000 in
set_option maxHeartbeats 1000000 in
theorem cloneI_any (ao : Option Addr) (n cap : Nat) (l : List Int) (w : World) (h : GRow intF w ao n cap l) (hn : n ≤ 16777216) :
  Calls Tryz.prog 173 #[.slice ao n cap] w fun r w' => ∃ ao' cap', r = .returned (.slice ao' n cap') ∧ w'.ownsRow w.heap.size 3 1 (.slice ao' n cap') n (intF.all l) ∧ Below w.heap.size w w' := by
 cases ao with
 | none =>
  have hc0 := h.nil rfl
  have hn0 : n = 0 := by have := h.le; omega
  subst hc0 hn0
  have hl : l = [] := List.eq_nil_of_length_eq_zero h.size
  subst hl
  have heq : ∀ W, (binOp .eql 24 (.slice none 0 0) (.slice none 0 0)).run Tryz.prog W = .ok (.bool true) W := fun _ => by kernel_rfl
  go_enter Tryz.func173, Tryz.ntmps173
  go_wp2
  go_ret
  exact ⟨none, 0, rfl, World.ownsRow_nil _ _ _ _, Below.refl _ _⟩
 | some a =>
  have heq : ∀ W, (binOp .eql 24 (.slice (some a) n cap) (.slice none 0 0)).run Tryz.prog W = .ok (.bool false) W := fun _ => by kernel_rfl
  go_enter Tryz.func173, Tryz.ntmps173
  go_wp2_with (at_builtin; refine wpList_append_flat (F := intF) _ rfl _ _ 24 3 rfl w.heap.size Tryz.underlying24 Tryz.infoI64 rfl (by decide) _ 0 [] rfl (flat_nil intF w _ 3 w.heap.size (block_last w _) (Nat.le_refl _)) (some a) n cap l rfl (h.below (below_one _ _)) (by omega) (by simp) ?_)
  intro ao' cap' w' how hr hgr hb
  have how : w'.ownsRow w.heap.size 3 1 (.slice ao' n cap') n (intF.all l) := by
   try simp only [Nat.zero_add, List.nil_append] at how
   exact how
  have HO := hide how
  have HB := hide ((below_one w _).trans hb)
  clear how hgr hb hr
  go_wp2
  go_ret
  exact ⟨ao', cap', (by simp), HO.out, HB.out⟩

set_option maxRecDepth 100000 in
set_option maxHeartbeats 1000000 in
theorem cloneV_any (ao : Option Addr) (n cap : Nat) (l : List VR) (w : World) (h : GRow vrowF w ao n cap l) (hn : n ≤ 16777216) :
  Calls Tryz.prog 172 #[.slice ao n cap] w fun r w' => ∃ ao' cap', r = .returned (.slice ao' n cap') ∧ w'.ownsRow w.heap.size 115 3 (.slice ao' n cap') n (vrowF.all l) ∧ Below w.heap.size w w' := by
 cases ao with
 | none =>
  have hc0 := h.nil rfl
  have hn0 : n = 0 := by have := h.le; omega
  subst hc0 hn0
  have hl : l = [] := List.eq_nil_of_length_eq_zero h.size
  subst hl
  have heq : ∀ W, (binOp .eql 67 (.slice none 0 0) (.slice none 0 0)).run Tryz.prog W = .ok (.bool true) W := fun _ => by kernel_rfl
  go_enter Tryz.func172, Tryz.ntmps172
  go_wp2
  go_ret
  exact ⟨none, 0, rfl, World.ownsRow_nil _ _ _ _, Below.refl _ _⟩
 | some a =>
  have heq : ∀ W, (binOp .eql 67 (.slice (some a) n cap) (.slice none 0 0)).run Tryz.prog W = .ok (.bool false) W := fun _ => by kernel_rfl
  go_enter Tryz.func172, Tryz.ntmps172
  go_wp2_with (at_builtin; refine wpList_append_flat (F := vrowF) _ rfl _ _ 67 115 rfl w.heap.size Tryz.underlying67 vrowInfo rfl (by decide) _ 0 [] rfl (flat_nil vrowF w _ 115 w.heap.size (block_last w _) (Nat.le_refl _)) (some a) n cap l rfl (h.below (below_one _ _)) (by omega) (by simp) ?_)
  intro ao' cap' w' how hr hgr hb
  have how : w'.ownsRow w.heap.size 115 3 (.slice ao' n cap') n (vrowF.all l) := by
   try simp only [Nat.zero_add, List.nil_append] at how
   exact how
  have HO := hide how
  have HB := hide ((below_one w _).trans hb)
  clear how hgr hb hr
  go_wp2
  go_ret
  exact ⟨ao', cap', (by simp), HO.out, HB.out⟩

set_option maxRecDepth 100000 in
set_option maxHeartbeats 4000000 in
theorem implCopyV_made (a : Option Addr) (n c : Nat) (o : Option Addr) (p q : Nat) (v : VT) (w : World) (h : VTab w a n c o p q v) (hn : n ≤ 16777216) (hp : p ≤ 16777216) :
  Calls Tryz.prog 139 #[.agg #[.slice a n c, .slice o p q]] w fun r w' => ∃ a' c' o' q', r = .returned (.agg #[.slice a' n c', .slice o' p q']) ∧ VOwn w' w.heap.size a' n c' o' p q' v ∧ Below w.heap.size w w' := by
 generalize hw1 : w.alloc (Obj.cells #[Value.slice a n c, Value.slice o p q] 69) = w1
 generalize hw2 : w1.alloc (Obj.cells #[Value.slice none 0 0, Value.slice none 0 0] 69) = w2
 have s1 : w1.heap.size = w.heap.size + 1 := by subst hw1; simp
 have s2 : w2.heap.size = w.heap.size + 1 + 1 := by subst hw2; simp [s1]
 have hk1 : w2.heap[w1.heap.size]? = some (.cells #[.slice none 0 0, .slice none 0 0] 69) := by rw [← hw2]; exact block_last _ _
 have b01 : Below w.heap.size w w1 := by subst hw1; exact below_one _ _
 have vb : Below w1.heap.size w1 w2.drew := by subst hw2; exact gr_drew (below_one _ _)
 have bw : Below w.heap.size w w2 := by subst hw2; exact gr_trans b01 (below_one _ _)
 have vv : Below w2.heap.size w2 w2.drew := gr_drew (Below.refl _ _)
 have HL : Hid (∀ b, some w1.heap.size = some b → b < w2.heap.size) := hide (by intro b hb; cases hb; omega)
 clear s1 s2
 go_enter Tryz.func139, Tryz.ntmps139
 go_wp2_with fail
 refine wp_region_held_drew (S := (fun W => W.cell? ⟨w.heap.size, 0, none⟩ = some (.slice a n c) ∧ W.cell? ⟨w.heap.size, 1, none⟩ = some (.slice o p q))) (by kernel_rfl) (box_two hw1 vb) (fun hHeld => ?_)
 refine kK 0 ⟨some 3, .fieldAddr 69 (.tmp 1) 0, 0, "l09_vlan.go:115", #[], none⟩ ?_
 refine kK 1 ⟨some 4, .load 67 (.tmp 3), 67, "l09_vlan.go:115", #[⟨0, .data⟩], none⟩ ?_
 refine kK 3 ⟨some 6, .fieldAddr 69 (.tmp 1) 1, 0, "l09_vlan.go:115", #[], none⟩ ?_
 refine kK 4 ⟨some 7, .load 24 (.tmp 6), 24, "l09_vlan.go:115", #[⟨3, .data⟩], none⟩ ?_
 refine kR 2 ⟨some 5, .call ⟨.value (.func 172), #[.tmp 4], #[67]⟩, 67, "l09_vlan.go:115", #[⟨1, .data⟩], none⟩ (fun K hK => ?_)
 go_simp
 refine (cloneV_any a n c v.rows _ (h.rows.below (gr_trans bw vv)) hn).mono ?_
 rintro e wx ⟨aR, cR, rfl, how, hbx⟩
 have hR := gown_lt how (base' := w2.heap.size) vv.size
 try have hI := gown_below hI hbx
 have vv := gr_trans vv hbx
 have vb := gr_trans vb hbx
 clear how hbx
 go_wp2_with fail
 refine hK.out _ _ (box_two hw1 vb) (fun hHeld => ?_)
 clear hK K
 try simp only [Act.put, lA, lB, lC]
 refine kR 5 ⟨some 8, .call ⟨.value (.func 173), #[.tmp 7], #[24]⟩, 24, "l09_vlan.go:115", #[⟨4, .data⟩, ⟨2, .chain⟩], none⟩ (fun K hK => ?_)
 go_simp
 refine (cloneI_any o p q v.own _ ((h.own.below (gr_trans bw vv)).flat) hp).mono ?_
 rintro e wx ⟨aI, cI', rfl, how, hbx⟩
 have hI := gown_lt how (base' := w2.heap.size) vv.size
 try have hR := gown_below hR hbx
 have vv := gr_trans vv hbx
 have vb := gr_trans vb hbx
 clear how hbx
 go_wp2_with fail
 refine hK.out _ _ (box_two hw1 vb) (fun hHeld => ?_)
 clear hK K
 try simp only [Act.put, lA, lB, lC]
 refine kK 6 ⟨some 9, .build 69 #[(0, .tmp 5), (1, .tmp 8)], 69, "l09_vlan.go:115", #[⟨2, .data⟩, ⟨5, .data⟩], none⟩ ?_
 refine kR 7 ⟨none, .store 69 (.tmp 2) (.tmp 9), 0, "l09_vlan.go:115", #[⟨6, .data⟩, ⟨5, .chain⟩, ⟨0, .phase⟩, ⟨1, .phase⟩, ⟨2, .phase⟩, ⟨3, .phase⟩, ⟨4, .phase⟩, ⟨5, .phase⟩, ⟨6, .phase⟩], none⟩ (fun K hK => ?_)
 obtain ⟨⟨g0, g1⟩, f0, f1⟩ := cells2 (kept_block hk1 vv)
 go_simp
 have hR := gown_apart (gown_apart hR (grown_set (rb := w1.heap.size) 0 (.slice aR n cR)) HL.out) (grown_set (rb := w1.heap.size) 1 (.slice aI p cI')) HL.out
 have hI := gown_apart (gown_apart hI (grown_set (rb := w1.heap.size) 0 (.slice aR n cR)) HL.out) (grown_set (rb := w1.heap.size) 1 (.slice aI p cI')) HL.out
 have vb := below_set (below_set vb (Nat.le_refl _) 0 (.slice aR n cR)) (Nat.le_refl _) 1 (.slice aI p cI')
 refine hK.out _ _ (box_two hw1 vb) (fun hHeld => ?_)
 clear hK K
 try simp only [Act.put, lA, lB, lC]
 refine wpAnyH_done (by kernel_rfl) ?_ _
 have HR := hide hR
 have HI := hide hI
 clear hR hI
 go_wp2
 refine bodyPost_ret (v := .agg #[.slice aR n cR, .slice aI p cI']) (by simp [results, Tryz.results139, go_sem, *]) rfl ⟨_, _, _, _, rfl, ⟨gown_lt HR.out bw.size, gown_lt (by rw [← intF_all]; exact HI.out) bw.size, h.own.byte⟩, gr_trans b01 vb⟩

section
open Go.RowKit Go.Maps

def fkF : Flat FK where
 k := 3
 cs := fun k => [.int .i64 k.1, .int .i64 k.2.1, .int .i64 k.2.2]
 len := fun _ => rfl
 pos := by decide
 one := fun _ v hv => by
  simp only [List.mem_cons, List.not_mem_nil, or_false] at hv
  rcases hv with rfl | rfl | rfl <;> rfl

theorem wf_of {n : Int} (h : -9223372036854775808 ≤ n ∧ n ≤ 9223372036854775807) : (Lit.int .i64 n).wf = true := by
 simp [Lit.wf, IntKind.min, IntKind.max, IntKind.bits, IntKind.signed]
 omega

theorem fk_laid : laidOutB Tryz.prog = true := by kernel_rfl
theorem fk_row : (206 : TypeId) < Tryz.prog.types.size := of_decide_eq_true (by kernel_rfl)
theorem fk_wide : (match Tryz.prog.underlying 206 with | some (.array _ _) | some (.struct _) => true | _ => false) = true := by kernel_rfl
set_option maxRecDepth 100000 in
theorem fk_law : Keyed Tryz.prog 206 := Keyed.of_law (deep_law_laid fk_laid (m := 2) (by omega) fk_row (by kernel_rfl) fk_wide)

def fkV (k : FK) : Value := .agg #[.int .i64 k.1, .int .i64 k.2.1, .int .i64 k.2.2]
def feV (e : FE) : Value := .agg #[.int .i64 e.t, .int .i64 e.m, .int .i64 e.p, .int .i64 e.a, .bool e.s]

theorem fk_key (k : FK) (h : FKok k) : ∃ l, keyOf Tryz.prog 206 (fkV k) = some l := by
 have w1 := wf_of h.1
 have w2 := wf_of h.2.1
 have w3 := wf_of h.2.2
 have h1 : Tryz.prog.keyType 206 = true := by kernel_rfl
 have hc3 : Tryz.prog.cellsOf 206 = 3 := by kernel_rfl
 have hc1 : Tryz.prog.cellsOf 3 = 1 := by kernel_rfl
 have h2 : (fkV k).formed Tryz.prog 206 = true := by simp [fkV, Value.formed, Tryz.underlying206, hc3]
 obtain ⟨q, hq⟩ : ∃ q, Tryz.prog.types.size = q + 1 := ⟨Tryz.prog.types.size - 1, by have : 0 < Tryz.prog.types.size := of_decide_eq_true (by kernel_rfl); omega⟩
 have h3 : Tryz.prog.keyLits (Tryz.prog.types.size + 1) 206 (fkV k).cells.toList = some [.int .i64 k.1, .int .i64 k.2.1, .int .i64 k.2.2] := by
  rw [hq]
  simp [Program.keyLits, fkV, Value.cells, Tryz.underlying206, Tryz.underlying3, hc3, hc1, w1, w2, w3]
 refine ⟨.string (keyBytes [.int .i64 k.1, .int .i64 k.2.1, .int .i64 k.2.2]), ?_⟩
 unfold keyOf
 rw [Tryz.underlying206]
 simp only [h1, h2, h3, Bool.and_self, if_true, Option.map_some]

theorem fkV_inj (a b : FK) (h : fkV a = fkV b) : a = b := by
 obtain ⟨a1, a2, a3⟩ := a
 obtain ⟨b1, b2, b3⟩ := b
 simp [fkV] at h
 obtain ⟨rfl, rfl, rfl⟩ := h
 rfl

def mE : MK Tryz.prog FK FE where
 T := 202
 K := 206
 E := 112
 law := fk_law
 und := Tryz.underlying202
 kv := fkV
 vv := feV
 ok := FKok
 key := fk_key
 inj := fkV_inj
 z := ⟨0, 0, 0, 0, false⟩
 zero := fun _ => by kernel_rfl

def mC : MK Tryz.prog FK Int where
 T := 223
 K := 206
 E := 3
 law := fk_law
 und := Tryz.underlying223
 kv := fkV
 vv := fun n => .int .i64 n
 ok := FKok
 key := fk_key
 inj := fkV_inj
 z := 0
 zero := fun _ => by kernel_rfl

structure TabN (N : Nat) (w : World) (base p bm : Nat) (ks : List FK) (g : FK → Option FE) : Prop where
 box : ∃ ao cap, w.heap[p]? = some (.cells #[.slice ao ks.length cap, .map (some bm)] 204) ∧ w.ownsRow base 206 3 (.slice ao ks.length cap) ks.length (fkF.all ks)
 map : MapIs mE w bm N g
 lp : base ≤ p
 lb : base ≤ bm
 oks : ∀ k ∈ ks, FKok k
 few : ks.length ≤ 16777216

abbrev Tab := TabN 16777216

theorem TabN.below {N : Nat} {w w' : World} {base p bm : Nat} {ks : List FK} {g : FK → Option FE} (h : TabN N w base p bm ks g) (hb : Below w.heap.size w w') : TabN N w' base p bm ks g := by
 obtain ⟨ao, cap, h1, h2⟩ := h.box
 exact ⟨⟨ao, cap, kept_block h1 hb, gown_below h2 hb⟩, h.map.kept hb, h.lp, h.lb, h.oks, h.few⟩

theorem fk_at {w : World} {ao : Option Addr} {len cap : Nat} {l : List FK} (h : GRow fkF w ao len cap l) (i : Nat) (hi : i < len) : ∃ (x : FK) (b off : Nat), l[i]? = some x ∧ ao = some ⟨b, off, none⟩ ∧
  w.cell? ⟨b, off + i * 3, none⟩ = some (.int .i64 x.1) ∧ w.cell? ⟨b, off + i * 3 + 1, none⟩ = some (.int .i64 x.2.1) ∧ w.cell? ⟨b, off + i * 3 + 2, none⟩ = some (.int .i64 x.2.2) := by
 obtain ⟨x, b, off, hx, ha, hc⟩ := h.at i hi
 exact ⟨x, b, off, hx, ha, hc 0 _ rfl, hc 1 _ rfl, hc 2 _ rfl⟩

theorem fkInfo : (Tryz.prog.info? 206).map (fun i => (i.zero, i.size, i.bytes)) = some (some (.agg #[.int .i64 0, .int .i64 0, .int .i64 0]), fkF.k, 24) := by kernel_rfl

set_option maxRecDepth 100000 in
set_option maxHeartbeats 400000 in
theorem firstKey_any (e : FE) (w : World) :
  Calls Tryz.prog 195 #[.agg #[.int .i64 e.t, .int .i64 e.m, .int .i64 e.p, .int .i64 e.a, .bool e.s]] w fun r w' => r = .returned (.agg #[.int .i64 e.t, .int .i64 e.m, .int .i64 0]) ∧ Below w.heap.size w w' := by
 go_enter Tryz.func195, Tryz.ntmps195
 go_wp2
 exact bodyPost_ret (v := .agg #[.int .i64 e.t, .int .i64 e.m, .int .i64 0]) (by simp [results, Tryz.results195, go_sem, *]) rfl ⟨rfl, below_two _ _ _⟩

end

end Go.Proofs.YtdmplbmfkliiiaaGreat
