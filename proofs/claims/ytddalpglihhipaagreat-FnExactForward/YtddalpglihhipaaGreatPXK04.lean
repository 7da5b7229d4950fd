/-
  Packed: VlanRow VlanBits FrameMath OutMark PtMark VrowHelp.
-/
import Derived.Test.YtddalpglihhipaaGreatPXKW
import Derived.Test.YtddalpglihhipaaGreatPXK01
import Derived.Test.YtddalpglihhipaaGreatPXK02
import Derived.Test.YtddalpglihhipaaGreatPXK03
import Derived.Deep.RegionHeld3
import Derived.Deep.RegionWith
namespace Go.Proofs.YtddalpglihhipaaGreat
open Go.RowKit

theorem cell1 {w : World} {g : Nat} {T : TypeId} {v : Value} (h : w.heap[g]? = some (.cells #[v] T)) : w.cell? ⟨g, 0, none⟩ = some v := by simp [World.cell?, h]

theorem number_of (v : Value) (w : World) : (method 331 100 v "loop.example/g00326/impl.number").run Tryz.prog w = .ok (213, v) w := by kernel_rfl

set_option maxRecDepth 100000 in
set_option maxHeartbeats 400000 in
theorem implNumber_any (r : VR) (w : World) : Calls Tryz.prog 213 #[.agg #[.int .i64 r.i, .int .i64 r.m, .int .i64 r.b]] w fun e w' => e = .returned (.int .i64 r.i) ∧ Below w.heap.size w w' := by
 go_enter Tryz.func213, Tryz.ntmps213
 go_wp2
 go_ret
 exact ⟨rfl, below_one _ _⟩

set_option maxRecDepth 100000 in
set_option maxHeartbeats 400000 in
theorem implRowsOf_any (a : Option Addr) (n c : Nat) (o : Option Addr) (p q : Nat) (w : World) : Calls Tryz.prog 72 #[.agg #[.slice a n c, .slice o p q]] w fun e w' => e = .returned (.slice a n c) ∧ Below w.heap.size w w' := by
 go_enter Tryz.func72, Tryz.ntmps72
 go_wp2
 go_ret
 exact ⟨rfl, below_one _ _⟩

set_option maxRecDepth 100000 in
set_option maxHeartbeats 2000000 in
theorem implPlace1_any (r : VR) (id : Int) (g : Nat) (w : World) (c : w.heap[g]? = some (.cells #[.int .i64 id] 3)) :
  Calls Tryz.prog 179 #[.agg #[.int .i64 r.i, .int .i64 r.m, .int .i64 r.b], .pointer (some ⟨g, 0, none⟩)] w fun e w' => e = .returned (.bool (r.i == id)) ∧ Below w.heap.size w w' := by
 have hm := number_of
 generalize hw1 : w.alloc (Obj.cells #[.int .i64 r.i, .int .i64 r.m, .int .i64 r.b] 100) = w1
 have q : Below w.heap.size w w1 := by subst hw1; exact below_one _ _
 have k0 : w1.heap[w.heap.size]? = some (.cells #[.int .i64 r.i, .int .i64 r.m, .int .i64 r.b] 100) := by rw [← hw1]; exact block_last _ _
 have HS : Hid (∀ W, Below w1.heap.size w1 W → (W.cell? ⟨w.heap.size, 0, none⟩ = some (.int .i64 r.i) ∧ W.cell? ⟨w.heap.size, 1, none⟩ = some (.int .i64 r.m) ∧ W.cell? ⟨w.heap.size, 2, none⟩ = some (.int .i64 r.b)) ∧ W.cell? ⟨g, 0, none⟩ = some (.int .i64 id)) := hide (fun W hW => ⟨(cells3 (kept_block k0 hW)).1, cell1 (kept_block (kept_block c q) hW)⟩)
 clear k0
 have vv : Below w1.heap.size w1 w1.drew := gr_drew (Below.refl _ _)
 go_enter Tryz.func179, Tryz.ntmps179
 go_wp2_with fail
 refine wp_region_held_drew (S := (fun W => (W.cell? ⟨w.heap.size, 0, none⟩ = some (.int .i64 r.i) ∧ W.cell? ⟨w.heap.size, 1, none⟩ = some (.int .i64 r.m) ∧ W.cell? ⟨w.heap.size, 2, none⟩ = some (.int .i64 r.b)) ∧ W.cell? ⟨g, 0, none⟩ = some (.int .i64 id))) (by kernel_rfl) (HS.out _ vv) (fun hHeld => ?_)
 refine tK (v := ?_) 0 ⟨some 4, .load 100 (.tmp 2), 100, "l09_vlan.go:152", #[], none⟩ ?_ ?_
 rotate_left
 ·(intro _ h; (try dsimp only at h); go_simp; try with_reducible rfl)
 simp only [Act.put, lA, lB, lC]
 refine tK (v := ?_) 1 ⟨some 5, .makeInterface 100 (.tmp 4), 20, "l09_vlan.go:152", #[⟨0, .data⟩], none⟩ ?_ ?_
 rotate_left
 ·(intro _ h; (try dsimp only at h); go_simp; try with_reducible rfl)
 simp only [Act.put, lA, lB, lC]
 refine tK (v := ?_) 3 ⟨some 7, .load 3 (.tmp 1), 3, "l09_vlan.go:152", #[], none⟩ ?_ ?_
 rotate_left
 ·(intro _ h; (try dsimp only at h); go_simp; try with_reducible rfl)
 simp only [Act.put, lA, lB, lC]
 refine tR [2] ?_
 refine AllReadyH.cons (o := ⟨some 6, .call ⟨.invoke (.tmp 5) "loop.example/g00326/impl.number", #[], #[]⟩, 3, "l09_vlan.go:152", #[⟨1, .data⟩], none⟩) rfl (fun K hK => ?_) ?_
 ·go_simp
  refine (implNumber_any r _).mono ?_
  rintro e wz ⟨rfl, hbz⟩
  have vv := gr_trans vv hbz
  go_wp2_with fail
  refine hK.out _ _ (HS.out _ vv) (fun hHeld => ?_)
  clear hK K
  try simp only [Act.put, lA, lB, lC]
  refine tK (v := ?_) 4 ⟨some 8, .binOp .eql 3 (.tmp 6) (.tmp 7) 3, 4, "l09_vlan.go:152", #[⟨2, .data⟩, ⟨3, .data⟩], none⟩ ?_ ?_
  rotate_left
  ·(intro _ h; (try dsimp only at h); go_simp; try with_reducible rfl)
  simp only [Act.put, lA, lB, lC]
  refine tK (v := ?_) 5 ⟨some 3, .assign (.tmp 8), 4, "l09_vlan.go:152", #[⟨4, .data⟩, ⟨2, .chain⟩, ⟨0, .phase⟩, ⟨1, .phase⟩, ⟨2, .phase⟩, ⟨3, .phase⟩, ⟨4, .phase⟩], none⟩ ?_ ?_
  rotate_left
  ·(intro _ h; (try dsimp only at h); go_simp; try with_reducible rfl)
  simp only [Act.put, lA, lB, lC]
  refine wpAnyH_done (by kernel_rfl) ?_ _
  have HB := hide (gr_trans q vv)
  clear HS vv q
  go_wp2
  go_ret
  exact ⟨rfl, HB.out⟩
 exact AllReadyH.nil

set_option maxRecDepth 100000 in
set_option maxHeartbeats 2000000 in
theorem rowIndex_any (a : Option Addr) (n c : Nat) (l : List VR) (id : Int) (g : Nat) (w : World) (h : GRow vrowF w a n c l) (cg : w.heap[g]? = some (.cells #[.int .i64 id] 3)) :
  Calls Tryz.prog 178 #[.slice a n c, .func (.func 179) #[] #[.pointer (some ⟨g, 0, none⟩)]] w fun r w' => r = .returned (.int .i64 (rowAt l id)) ∧ Below w.heap.size w w' := by
 have hle := h.le
 have htop := h.top
 unfold maxLen at htop
 have hsz := h.size
 go_enter Tryz.func178, Tryz.ntmps178
 go_wp2
 go_loopw [8] (fun i wr => ∃ k : Nat, k ≤ n ∧ i = .int .i64 k ∧ (∀ (j : Nat) (y : VR), j < k → l[j]? = some y → (y.i == id) = false) ∧ Below w.heap.size w wr) (fun i _ => n - (intOf i).toNat)
 case atStart => exact ⟨0, Nat.zero_le _, rfl, fun j y hj => by omega, Below.refl _ _⟩
 case round =>
  obtain ⟨k, hk, rfl, hno, hb⟩ := hrel
  by_cases hlt : k < n
  ·obtain ⟨x, b, off, hx, rfl, c0, c1, c2⟩ := vrow_at (h.below hb) k hlt
   cases t1 : (x.i == id)
   ·have HO := hide (vno_next hno hx t1)
    have HA := hide t1
    have HB := hide hb
    clear t1 hno hb hx
    go_wp2_with fail
    refine (implPlace1_any x id g _ (kept_block cg HB.out)).mono ?_
    rintro r w1 ⟨rfl, hb1⟩
    rw [HA.out]
    have HB1 := hide (gr_trans HB.out hb1)
    clear hb1 c0 c1 c2
    go_wp2
    go_roundw
    case rel => exact ⟨k + 1, by omega, by go_num, HO.out, HB1.out⟩
    case measure => simp [intOf]; omega
   ·have HF := hide (rowAt_found hno hx t1)
    have HA := hide t1
    have HB := hide hb
    clear t1 hno hb hx
    go_wp2_with fail
    refine (implPlace1_any x id g _ (kept_block cg HB.out)).mono ?_
    rintro r w1 ⟨rfl, hb1⟩
    rw [HA.out]
    have HB1 := hide (gr_trans HB.out hb1)
    clear hb1 c0 c1 c2
    go_wp2
    go_ret
    exact ⟨(by rw [HF.out]; rfl), HB1.out⟩
  ·have hkn : k = n := by omega
   have HF := hide (rowAt_none (l := l) (id := id) (fun i y hy => hno i y (by have := (List.getElem?_eq_some_iff.1 hy).1; omega) hy))
   have HB := hide hb
   clear hno hb
   subst hkn
   go_wp2
   go_ret
   exact ⟨(by rw [HF.out]; rfl), HB.out⟩

set_option maxRecDepth 100000 in
set_option maxHeartbeats 1000000 in
theorem implPlace_any (a : Option Addr) (n c : Nat) (l : List VR) (id : Int) (w : World) (h : GRow vrowF w a n c l) :
  Calls Tryz.prog 136 #[.slice a n c, .int .i64 id] w fun r w' => r = .returned (.int .i64 (rowAt l id)) ∧ Below w.heap.size w w' := by
 have hmf : ∀ (fn : Fn) (first cap : Array Value) (w : World), (Instr.makeFunc fn first cap).run Tryz.prog w = .ok (.func fn first cap) w := fun _ _ _ _ => rfl
 have q := below_one w (.cells #[.int .i64 id] 3)
 go_enter Tryz.func136, Tryz.ntmps136
 go_wp2_with fail
 refine (rowIndex_any a n c l id _ _ (h.below q) (block_last w _)).mono ?_
 rintro r w1 ⟨rfl, hb1⟩
 have HB := hide (gr_trans q hb1)
 clear hb1 q
 go_wp2
 go_ret
 exact ⟨rfl, HB.out⟩

set_option maxRecDepth 100000 in
set_option maxHeartbeats 1000000 in
theorem implRowAt_any (a : Option Addr) (n c : Nat) (l : List VR) (o : Option Addr) (p q : Nat) (id : Int) (w : World) (h : GRow vrowF w a n c l) :
  Calls Tryz.prog 132 #[.agg #[.slice a n c, .slice o p q], .int .i64 id] w fun r w' => r = .returned (.int .i64 (rowAt l id)) ∧ Below w.heap.size w w' := by
 have q0 := below_one w (.cells #[.slice a n c, .slice o p q] 29)
 go_enter Tryz.func132, Tryz.ntmps132
 go_wp2_with fail
 refine (implRowsOf_any a n c o p q _).mono ?_
 rintro r w1 ⟨rfl, hb1⟩
 have q1 := gr_trans q0 hb1
 clear hb1
 go_wp2_with fail
 refine (implPlace_any a n c l id _ (h.below q1)).mono ?_
 rintro r w2 ⟨rfl, hb2⟩
 have HB := hide (gr_trans q1 hb2)
 clear hb2 q1 q0
 go_wp2
 go_ret
 exact ⟨rfl, HB.out⟩

def findRow (l : List VR) (id : Int) : VR := (l.find? (fun r => r.i == id)).getD ⟨0, 0, 0⟩

set_option maxRecDepth 100000 in
set_option maxHeartbeats 2000000 in
theorem implFind_any (a : Option Addr) (n c : Nat) (l : List VR) (id : Int) (w : World) (h : GRow vrowF w a n c l) :
  Calls Tryz.prog 73 #[.slice a n c, .int .i64 id] w fun r w' => r = .returned (.tuple #[.agg #[.int .i64 (findRow l id).i, .int .i64 (findRow l id).m, .int .i64 (findRow l id).b], .bool (l.find? (fun r => r.i == id)).isSome]) ∧ Below w.heap.size w w' := by
 have hle := h.le
 have htop := h.top
 unfold maxLen at htop
 have hsz := h.size
 have q0 := below_one w (.cells #[.int .i64 0, .int .i64 0, .int .i64 0] 100)
 have k0 := block_last w (.cells #[.int .i64 0, .int .i64 0, .int .i64 0] 100)
 unfold findRow
 cases hr : rowIdx l id with
 | none =>
  rw [rowIdx_find hr]
  have hat : rowAt l id = -1 := by unfold rowAt; rw [hr]
  clear hr
  go_enter Tryz.func73, Tryz.ntmps73
  go_wp2_with fail
  refine (implPlace_any a n c l id _ (h.below q0)).mono ?_
  rintro r w1 ⟨rfl, hb1⟩
  rw [hat]
  obtain ⟨⟨x0, x1, x2⟩, f0, f1, f2⟩ := cells3 (kept_block k0 hb1)
  have HB := hide (below_set (below_set (below_set (gr_trans q0 hb1) (Nat.le_refl _) 0 (.int .i64 0)) (Nat.le_refl _) 1 (.int .i64 0)) (Nat.le_refl _) 2 (.int .i64 0))
  clear hb1 q0 hat
  go_wp2
  exact bodyPost_ret (v := .tuple #[.agg #[.int .i64 0, .int .i64 0, .int .i64 0], .bool false]) (by simp [results, Tryz.results73, go_sem, *]) rfl ⟨rfl, HB.out⟩
 | some k =>
  obtain ⟨x, hx, -, hf⟩ := rowIdx_some hr
  rw [hf]
  simp only [Option.getD_some, Option.isSome_some]
  have hat : rowAt l id = (k : Int) := by unfold rowAt; rw [hr]
  have hkn : k < n := by have := (List.getElem?_eq_some_iff.1 hx).1; omega
  clear hr hf
  go_enter Tryz.func73, Tryz.ntmps73
  go_wp2_with fail
  refine (implPlace_any a n c l id _ (h.below q0)).mono ?_
  rintro r w1 ⟨rfl, hb1⟩
  rw [hat]
  obtain ⟨y, b, off, hy, rfl, c0, c1, c2⟩ := vrow_at (h.below (gr_trans q0 hb1)) k hkn
  rw [hx] at hy
  cases hy
  obtain ⟨⟨x0, x1, x2⟩, f0, f1, f2⟩ := cells3 (kept_block k0 hb1)
  have HB := hide (below_set (below_set (below_set (gr_trans q0 hb1) (Nat.le_refl _) 0 (.int .i64 x.i)) (Nat.le_refl _) 1 (.int .i64 x.m)) (Nat.le_refl _) 2 (.int .i64 x.b))
  clear hb1 q0 hat hx
  go_wp2
  exact bodyPost_ret (v := .tuple #[.agg #[.int .i64 x.i, .int .i64 x.m, .int .i64 x.b], .bool true]) (by simp [results, Tryz.results73, go_sem, *]) rfl ⟨rfl, HB.out⟩

theorem egress_find (v : VT) (id : Int) : egressOf v id = (findRow v.rows id).m := by
 unfold egressOf findRow
 cases v.rows.find? (fun r => r.i == id) <;> rfl

set_option maxRecDepth 100000 in
set_option maxHeartbeats 2000000 in
theorem implEgress_any (a : Option Addr) (n c : Nat) (o : Option Addr) (p q : Nat) (v : VT) (id : Int) (w : World) (h : GRow vrowF w a n c v.rows) :
  Calls Tryz.prog 17 #[.agg #[.slice a n c, .slice o p q], .int .i64 id] w fun r w' => r = .returned (.int .i64 (egressOf v id)) ∧ Below w.heap.size w w' := by
 rw [egress_find]
 generalize hx : findRow v.rows id = x
 have HX := hide hx
 clear hx
 have q0 := below_one w (.cells #[.slice a n c, .slice o p q] 29)
 go_enter Tryz.func17, Tryz.ntmps17
 go_wp2_with fail
 refine (implRowsOf_any a n c o p q _).mono ?_
 rintro r w1 ⟨rfl, hb1⟩
 have q1 := gr_trans q0 hb1
 clear hb1
 go_wp2_with fail
 refine (implFind_any a n c v.rows id _ (h.below q1)).mono ?_
 rw [HX.out]
 generalize (v.rows.find? (fun r => r.i == id)).isSome = d
 rintro r w2 ⟨rfl, hb2⟩
 have q2 := gr_trans q1 hb2
 clear hb2 q1 q0
 have HB := hide q2
 clear q2
 go_wp2
 exact bodyPost_ret (v := .int .i64 x.m) (by simp [results, Tryz.results17, go_sem, *]) rfl ⟨rfl, gr_trans HB.out (below_one _ _)⟩

def I64 (x : Int) : Prop := -9223372036854775808 ≤ x ∧ x ≤ 9223372036854775807

def VR.Rng (r : VR) : Prop := I64 r.i ∧ I64 r.m ∧ I64 r.b

theorem bv_of (x : Int) : (BitVec.ofInt 64 x).toNat = (x % 18446744073709551616).toNat := by
 rw [BitVec.toNat_ofInt]
 rfl

theorem wrap_bv (x : BitVec 64) : IntKind.i64.wrap (x.toNat : Int) = x.toInt := by
 have := x.isLt
 rw [IntKind.wrap_i64, BitVec.toInt_eq_toNat_cond]
 split <;> omega

theorem bits_and (a b : Int) : bits .and .i64 a b = (BitVec.ofInt 64 a &&& BitVec.ofInt 64 b).toInt := by
 rw [← wrap_bv]
 rfl
theorem bits_andNot (a b : Int) : bits .andNot .i64 a b = (BitVec.ofInt 64 a &&& ~~~(BitVec.ofInt 64 b)).toInt := by
 rw [← wrap_bv]
 rfl

theorem toInt_zero {x : BitVec 64} : x.toInt = 0 ↔ x = 0#64 := by
 rw [← BitVec.toInt_inj]
 simp

theorem toInt_of (x : Int) (h : I64 x) : (BitVec.ofInt 64 x).toInt = x := by
 unfold I64 at h
 rw [BitVec.toInt_ofInt]
 rw [Int.bmod_def]
 omega

theorem andNot_and (b m : Int) (hb : I64 b) : (bits .andNot .i64 b m == 0) = (bits .and .i64 b m == b) := by
 rw [bits_and, bits_andNot]
 have key : (BitVec.ofInt 64 b &&& ~~~(BitVec.ofInt 64 m)) = 0#64 ↔ (BitVec.ofInt 64 b &&& BitVec.ofInt 64 m) = BitVec.ofInt 64 b := by
  constructor
  ·intro h
   apply BitVec.eq_of_getLsbD_eq
   intro i hi
   have := congrArg (fun z => z.getLsbD i) h
   simp only [BitVec.getLsbD_and, BitVec.getLsbD_not, hi, decide_true, Bool.true_and, BitVec.getLsbD_zero] at this
   simp only [BitVec.getLsbD_and]
   cases h1 : (BitVec.ofInt 64 b).getLsbD i <;> cases h2 : (BitVec.ofInt 64 m).getLsbD i <;> simp_all
  ·intro h
   apply BitVec.eq_of_getLsbD_eq
   intro i hi
   have := congrArg (fun z => z.getLsbD i) h
   simp only [BitVec.getLsbD_and] at this
   simp only [BitVec.getLsbD_and, BitVec.getLsbD_not, hi, decide_true, Bool.true_and, BitVec.getLsbD_zero]
   cases h1 : (BitVec.ofInt 64 b).getLsbD i <;> cases h2 : (BitVec.ofInt 64 m).getLsbD i <;> simp_all
 have e2 : ((BitVec.ofInt 64 b &&& BitVec.ofInt 64 m).toInt = b) ↔ (BitVec.ofInt 64 b &&& BitVec.ofInt 64 m) = BitVec.ofInt 64 b := by
  constructor
  ·intro h
   apply BitVec.toInt_inj.1
   rw [h, toInt_of b hb]
  ·intro h
   rw [h, toInt_of b hb]
 have e1 := toInt_zero (x := BitVec.ofInt 64 b &&& ~~~(BitVec.ofInt 64 m))
 rw [Bool.eq_iff_iff]
 simp only [beq_iff_eq]
 rw [e1, key, e2]

theorem mask_is (p : Nat) (hp : p ≤ 6) : (BitVec.ofInt 64 (allOf p)).toNat = 2 ^ p - 1 := by
 rcases (show p = 0 ∨ p = 1 ∨ p = 2 ∨ p = 3 ∨ p = 4 ∨ p = 5 ∨ p = 6 by omega) with rfl | rfl | rfl | rfl | rfl | rfl | rfl <;> rfl

theorem pow_le6 (p : Nat) (hp : p ≤ 6) : (2 : Nat) ^ p ≤ 64 ∧ ((2 : Int) ^ p = ((2 ^ p : Nat) : Int)) ∧ 1 ≤ (2 : Nat) ^ p := by
 rcases (show p = 0 ∨ p = 1 ∨ p = 2 ∨ p = 3 ∨ p = 4 ∨ p = 5 ∨ p = 6 by omega) with rfl | rfl | rfl | rfl | rfl | rfl | rfl <;> exact ⟨by decide, rfl, by decide⟩

theorem andNot_mask (m : Int) (p : Nat) (hm : I64 m) (hp : p ≤ 6) : (bits .andNot .i64 m (allOf p) == 0) = in3 m 0 (allOf p) := by
 rw [andNot_and m _ hm, bits_and]
 have hn : (BitVec.ofInt 64 m &&& BitVec.ofInt 64 (allOf p)).toNat = (BitVec.ofInt 64 m).toNat % 2 ^ p := by
  rw [BitVec.toNat_and, mask_is p hp, Nat.and_two_pow_sub_one_eq_mod]
 have e2 : ((BitVec.ofInt 64 m &&& BitVec.ofInt 64 (allOf p)).toInt = m) ↔ (BitVec.ofInt 64 m &&& BitVec.ofInt 64 (allOf p)).toNat = (BitVec.ofInt 64 m).toNat := by
  constructor
  ·intro h
   have : (BitVec.ofInt 64 m &&& BitVec.ofInt 64 (allOf p)) = BitVec.ofInt 64 m := by
    apply BitVec.toInt_inj.1
    rw [h, toInt_of m hm]
   rw [this]
  ·intro h
   rw [BitVec.eq_of_toNat_eq h, toInt_of m hm]
 rw [Bool.eq_iff_iff]
 simp only [beq_iff_eq]
 rw [e2, hn, bv_of m]
 obtain ⟨h64, hc, h1⟩ := pow_le6 p hp
 unfold in3 allOf
 rw [hc]
 unfold I64 at hm
 generalize (2 : Nat) ^ p = q at *
 simp only [Bool.and_eq_true, decide_eq_true_eq]
 constructor
 ·intro h
  have : (m % 18446744073709551616).toNat % q < q := Nat.mod_lt _ (by omega)
  omega
 ·intro h
  rw [Nat.mod_eq_of_lt (by omega)]

theorem and_small (b m : Int) (p : Nat) (hb : I64 b) (hp : p ≤ 6) (hm : in3 m 0 (allOf p) = true) (h : (bits .and .i64 b m == b) = true) : in3 b 0 (allOf p) = true := by
 obtain ⟨h64, hc, h1⟩ := pow_le6 p hp
 unfold in3 allOf at hm ⊢
 rw [hc] at hm ⊢
 generalize (2 : Nat) ^ p = q at *
 simp only [Bool.and_eq_true, decide_eq_true_eq, beq_iff_eq] at *
 have hmI : I64 m := by unfold I64; omega
 rw [bits_and] at h
 have e : (BitVec.ofInt 64 b &&& BitVec.ofInt 64 m) = BitVec.ofInt 64 b := by
  apply BitVec.toInt_inj.1
  rw [h, toInt_of b hb]
 have e' := congrArg BitVec.toNat e
 rw [BitVec.toNat_and, bv_of b, bv_of m] at e'
 have : (b % 18446744073709551616).toNat &&& (m % 18446744073709551616).toNat ≤ (m % 18446744073709551616).toNat := Nat.and_le_right
 unfold I64 at hb
 omega

theorem vrow_same (r : VR) (p : Nat) (hr : r.Rng) (hp : p ≤ 6) : (in3 r.i 1 99 && (bits .andNot .i64 r.m (allOf p) == 0) && (bits .andNot .i64 r.b r.m == 0)) = vrowOk (allOf p) r := by
 rw [andNot_mask r.m p hr.2.1 hp, andNot_and r.b r.m hr.2.2]
 unfold vrowOk
 cases h1 : in3 r.i 1 99
 ·rfl
 ·cases h2 : in3 r.m 0 (allOf p)
  ·rfl
  ·cases h3 : (bits .and .i64 r.b r.m == r.b)
   ·simp
   ·rw [and_small r.b r.m p hr.2.2 hp h2 h3]
    rfl

theorem and_pow (n k : Nat) : n &&& 2 ^ k = (n.testBit k).toNat * 2 ^ k := by
 apply Nat.eq_of_testBit_eq
 intro j
 rw [Nat.testBit_and, Nat.testBit_two_pow]
 by_cases h : k = j
 ·subst h
  cases n.testBit k
  ·simp
  ·simp
 ·cases n.testBit k
  ·simp [h]
  ·simp [h]

theorem bit_same (n : Int) (k : Nat) (hk : k ≤ 9) (hn : I64 n) : (bits .and .i64 n (2 ^ k) != 0) = (bits .and .i64 (n / 2 ^ k) 1 == 1) := by
 have h1 : I64 (n / 2 ^ k) := by
  unfold I64 at *
  rcases (show k = 0 ∨ k = 1 ∨ k = 2 ∨ k = 3 ∨ k = 4 ∨ k = 5 ∨ k = 6 ∨ k = 7 ∨ k = 8 ∨ k = 9 by omega) with rfl | rfl | rfl | rfl | rfl | rfl | rfl | rfl | rfl | rfl <;> simp <;> omega
 rw [bits_and, bits_and, bne, Bool.eq_iff_iff]
 simp only [Bool.not_eq_true', beq_eq_false_iff_ne, ne_eq, beq_iff_eq]
 rw [toInt_zero]
 have a1 : (BitVec.ofInt 64 (n / 2 ^ k) &&& BitVec.ofInt 64 1).toNat = (((n / 2 ^ k) % 18446744073709551616).toNat) % 2 := by
  rw [BitVec.toNat_and, bv_of _, show (BitVec.ofInt 64 1).toNat = 2 ^ 1 - 1 from rfl, Nat.and_two_pow_sub_one_eq_mod]
 have a2 : (BitVec.ofInt 64 n &&& BitVec.ofInt 64 (2 ^ k)).toNat = ((n % 18446744073709551616).toNat.testBit k).toNat * 2 ^ k := by
  rw [BitVec.toNat_and, bv_of _, ← and_pow]
  congr 1
  rcases (show k = 0 ∨ k = 1 ∨ k = 2 ∨ k = 3 ∨ k = 4 ∨ k = 5 ∨ k = 6 ∨ k = 7 ∨ k = 8 ∨ k = 9 by omega) with rfl | rfl | rfl | rfl | rfl | rfl | rfl | rfl | rfl | rfl <;> rfl
 have a3 : ((BitVec.ofInt 64 (n / 2 ^ k) &&& BitVec.ofInt 64 1).toInt = 1) ↔ (((n / 2 ^ k) % 18446744073709551616).toNat) % 2 = 1 := by
  rw [← a1, BitVec.toInt_eq_toNat_cond]
  have := (BitVec.ofInt 64 (n / 2 ^ k) &&& BitVec.ofInt 64 1).isLt
  have h2 : (BitVec.ofInt 64 (n / 2 ^ k) &&& BitVec.ofInt 64 1).toNat < 2 := by rw [a1]; omega
  rw [if_pos (by omega)]
  omega
 have a4 : ((BitVec.ofInt 64 n &&& BitVec.ofInt 64 (2 ^ k)) = 0#64) ↔ (n % 18446744073709551616).toNat.testBit k = false := by
  rw [← BitVec.toNat_inj, a2]
  have : 0 < 2 ^ k := Nat.two_pow_pos k
  cases (n % 18446744073709551616).toNat.testBit k
  ·simp
  ·simp
 rw [a3, a4, Bool.not_eq_false, Nat.testBit_eq_decide_div_mod_eq, decide_eq_true_eq]
 unfold I64 at hn
 rcases (show k = 0 ∨ k = 1 ∨ k = 2 ∨ k = 3 ∨ k = 4 ∨ k = 5 ∨ k = 6 ∨ k = 7 ∨ k = 8 ∨ k = 9 by omega) with rfl | rfl | rfl | rfl | rfl | rfl | rfl | rfl | rfl | rfl <;> simp <;> omega

def okF (d s g : Int) (n : Nat) : Bool := decide (0 ≤ d ∧ d ≤ 9999) && (decide (1 ≤ s ∧ s ≤ 9999) && (decide (0 ≤ g ∧ g ≤ 99) && decide (n ≤ 20)))
def headF (d s : Int) : List Int := putTlv (putTlv [] 1 (putInt d)) 1 (putInt s)
def bodyF (d s g : Int) (z : List Int) : List Int := if g = 0 then putTlv (headF d s) 3 z else putTlv (putTlv (headF d s) 2 (putInt g)) 3 z
def putF (d s g : Int) (z : List Int) : List Int := if okF d s g z.length = true then bodyF d s g z else []

def bulkO (l : List OI) : Nat := (l.map (·.n)).sum

theorem bulkO_cons (x : OI) (l : List OI) : bulkO (x :: l) = x.n + bulkO l := by simp [bulkO]
theorem bulkO_mem {l : List OI} {x : OI} (h : x ∈ l) : x.n ≤ bulkO l := by
 induction l with
 | nil => cases h
 | cons y r ih =>
  rw [bulkO_cons]
  rcases List.mem_cons.1 h with rfl | h
  ·omega
  ·have := ih h; omega
theorem bulkO_take (l : List OI) (j : Nat) : bulkO (l.take j) ≤ bulkO l := by
 induction l generalizing j with
 | nil => simp [bulkO]
 | cons y r ih =>
  cases j with
  | zero => simp [bulkO]
  | succ j => rw [List.take_succ_cons, bulkO_cons, bulkO_cons]; have := ih j; omega

def markO (k : Int) (x : OI) : OI := ⟨k, k + 1, k + 1 + 1, k + 1 + 1 + 1, x.a, x.n, x.c, marks (k + 1 + 1 + 1 + 1) x.n⟩
def endO (k : Int) (x : OI) : Int := k + 1 + 1 + 1 + 1 + x.n
def markOs : Int → List OI → List OI
 | _, [] => []
 | k, x :: r => markO k x :: markOs (endO k x) r
def endOs : Int → List OI → Int
 | k, [] => k
 | k, x :: r => endOs (endO k x) r

theorem markOs_snoc (a : List OI) (x : OI) : ∀ k, markOs k (a ++ [x]) = markOs k a ++ [markO (endOs k a) x] := by
 induction a with
 | nil => intro k; rfl
 | cons y r ih => intro k; simp only [List.cons_append, markOs, endOs, ih]
theorem endOs_snoc (a : List OI) (x : OI) : ∀ k, endOs k (a ++ [x]) = endO (endOs k a) x := by
 induction a with
 | nil => intro k; rfl
 | cons y r ih => intro k; simp only [List.cons_append, endOs, ih]
theorem markOs_length (a : List OI) : ∀ k, (markOs k a).length = a.length := by
 induction a with
 | nil => intro k; rfl
 | cons y r ih => intro k; simp only [markOs, List.length_cons, ih]
theorem endOs_le (a : List OI) : ∀ k, k ≤ endOs k a ∧ endOs k a ≤ k + bulkO a + 4 * a.length := by
 induction a with
 | nil => intro k; simp [endOs, bulkO]
 | cons y r ih =>
  intro k
  have := ih (endO k y)
  rw [bulkO_cons]
  unfold endOs
  unfold endO at *
  simp only [List.length_cons]
  omega
theorem markOs_get : ∀ (l : List OI) (k : Int) (j : Nat) (x : OI), l[j]? = some x → (markOs k l)[j]? = some (markO (endOs k (l.take j)) x)
 | [], _, j, _, h => by simp at h
 | y :: r, k, 0, x, h => by
  simp at h
  subst h
  rfl
 | y :: r, k, j + 1, x, h => by
  have := markOs_get r (endO k y) j x (by simpa using h)
  simpa [markOs, endOs] using this
theorem otake_one {α : Type} {l : List α} {j : Nat} {x : α} (h : l[j]? = some x) : l.take (j + 1) = l.take j ++ [x] := by
 obtain ⟨hj, rfl⟩ := List.getElem?_eq_some_iff.1 h
 rw [List.take_succ_eq_append_getElem hj]

set_option maxRecDepth 100000 in
set_option maxHeartbeats 4000000 in
theorem markOuts_grown (base : Nat) (ao : Option Addr) (n cap : Nat) (l : List OI) (k : Int) (w : World) (hown : OOwns w base ao n cap l) (hs : n + bulkO l ≤ 67108864) (hx0 : ∀ x ∈ l, x.n ≤ 16777216) (hk0 : 0 < k) (hk1 : k ≤ 1073741824) :
  Calls Tryz.prog 32 #[.slice ao n cap, .int .i64 k] w fun e w' => e = .returned (.int .i64 (endOs k l)) ∧ OOwns w' base ao n cap (markOs k l) ∧ Only (allO ao l) w w' := by
 have hl := hown.size
 have hend := endOs_le l k
 go_enter Tryz.func32, Tryz.ntmps32
 go_wp2
 go_loopw [1, 5] (fun m i wr => ∃ j : Nat, j ≤ n ∧ i = .int .i64 j ∧ m = .int .i64 (endOs k (l.take j)) ∧ OOwns wr base ao n cap (markOs k (l.take j) ++ l.drop j) ∧ Only (allO ao l) w wr) (fun _ i _ => n - (intOf i).toNat)
 case atStart => exact ⟨0, Nat.zero_le _, rfl, rfl, by simpa [markOs] using hown, Only.refl _ _⟩
 case round =>
  obtain ⟨j, hj, rfl, rfl, hbo, hon⟩ := hrel
  by_cases hlt : j < n
  ·have hx : l[j]? = some l[j] := List.getElem?_eq_getElem (by omega)
   generalize l[j] = x at hx
   have hw := bulkO_mem (List.mem_of_getElem? hx)
   have hxn := hx0 x (List.mem_of_getElem? hx)
   have hej := endOs_le (l.take j) k
   have hbj := bulkO_take l j
   have hlj : (l.take j).length ≤ n := by rw [List.length_take]; omega
   have hdr : l.drop j = x :: l.drop (j + 1) := by
    obtain ⟨h, rfl⟩ := List.getElem?_eq_some_iff.1 hx
    exact List.drop_eq_getElem_cons h
   have hmx : x ∈ l := List.mem_of_getElem? hx
   have EQ1 := hide (show markOs k (l.take (j + 1)) = markOs k (l.take j) ++ [markO (endOs k (l.take j)) x] by rw [otake_one hx, markOs_snoc])
   have EQ2 := hide (show endOs k (l.take (j + 1)) = endO (endOs k (l.take j)) x by rw [otake_one hx, endOs_snoc])
   rw [hdr] at hbo
   have hpl : (markOs k (l.take j)).length = j := by rw [markOs_length, List.length_take]; omega
   generalize endOs k (l.take j) = K0 at *
   generalize markOs k (l.take j) = pre at *
   generalize hpo : l.drop (j + 1) = post at *
   have HPO := hide hpo
   clear hpo
   subst hpl
   obtain ⟨g, hg, -⟩ := flat_addr (F := outF) hbo.row (by omega)
   subst hg
   obtain ⟨⟨a0, a1, a2, a3, a4⟩, f0, f1, f2, f3⟩ := hbo.cells
   have hsub : ∀ b, b ∈ x.blks ∨ b = g → b ∈ allO (some ⟨g, 0, none⟩) l := by
    intro b hb
    rcases hb with hb | rfl
    ·exact List.mem_append_right _ (List.mem_flatMap.2 ⟨x, hmx, hb⟩)
    ·exact List.mem_append_left _ (by simp [blkL])
   have HSUB := hide hsub
   have B4 := hbo.set4 K0 (K0 + 1) (K0 + 1 + 1) (K0 + 1 + 1 + 1)
   have O4 : Only (allO (some ⟨g, 0, none⟩) l) w _ := (((hon.trans ((Only.set wr g (pre.length * 5) (.int .i64 K0)).wider (fun b hb => hsub b (.inr (by simpa using hb))))).trans ((Only.set _ g (pre.length * 5 + 1) (.int .i64 (K0 + 1))).wider (fun b hb => hsub b (.inr (by simpa using hb))))).trans ((Only.set _ g (pre.length * 5 + 2) (.int .i64 (K0 + 1 + 1))).wider (fun b hb => hsub b (.inr (by simpa using hb))))).trans ((Only.set _ g (pre.length * 5 + 3) (.int .i64 (K0 + 1 + 1 + 1))).wider (fun b hb => hsub b (.inr (by simpa using hb))))
   have HB4 := hide B4
   have HO4 := hide O4
   have IZ := hide (B4.item _ (List.mem_append_right _ (List.mem_cons_self ..))).z
   clear hbo hon hsub hdr hx hmx hown B4 O4
   go_wp2_with fail
   refine (mark_grown base x.a x.n x.c x.z (K0 + 1 + 1 + 1 + 1) _ IZ.out (by omega) (by omega) (by omega)).mono ?_
   rintro e w5 ⟨rfl, ho5, hg5⟩
   have HB5 := hide (HB4.out.setZ hg5 ho5 (marks_byte _ _))
   have HO5 := hide (HO4.out.trans ((Only.of_grown hg5).wider (fun b hb => HSUB.out b (.inl hb))))
   clear a0 a1 a2 a3 a4 f0 f1 f2 f3 ho5 hg5 IZ HB4 HO4
   go_wp2
   go_roundw
   case rel =>
    refine ⟨pre.length + 1, by omega, by go_num, ?_, ?_, HO5.out⟩
    ·rw [EQ2.out]; unfold endO; rfl
    ·rw [EQ1.out, List.append_assoc, HPO.out]
     exact HB5.out
   case measure => simp [intOf]; omega
  ·have hj' : j = n := by omega
   subst hj'
   rw [List.take_of_length_le (by omega), List.drop_of_length_le (by omega), List.append_nil] at hbo
   rw [List.take_of_length_le (by omega)]
   go_wp2
   go_ret
   exact ⟨rfl, hbo, hon⟩

set_option maxRecDepth 100000 in
set_option maxHeartbeats 4000000 in
theorem heldOuts_any (ao : Option Addr) (n cap : Nat) (l : List OI) (k : Int) (w : World) (hr : GRow outF w ao n cap (markOs k l)) (hrow : ∀ x ∈ markOs k l, Row w x.a x.n x.c x.z) (hs : n + bulkO l ≤ 67108864) (hx0 : ∀ x ∈ l, x.n ≤ 16777216) (hk0 : 0 < k) (hk1 : k ≤ 1073741824) :
  Calls Tryz.prog 34 #[.slice ao n cap, .int .i64 k] w fun e w' => e = .returned (.int .i64 (endOs k l)) ∧ Below w.heap.size w w' := by
 have hl := hr.size
 rw [markOs_length] at hl
 have hend := endOs_le l k
 go_enter Tryz.func34, Tryz.ntmps34
 go_wp2
 go_loopw [1, 5] (fun m i wr => ∃ j : Nat, j ≤ n ∧ i = .int .i64 j ∧ m = .int .i64 (endOs k (l.take j)) ∧ Below w.heap.size w wr) (fun _ i _ => n - (intOf i).toNat)
 case atStart => exact ⟨0, Nat.zero_le _, rfl, rfl, Below.refl _ _⟩
 case round =>
  obtain ⟨j, hj, rfl, rfl, hb⟩ := hrel
  by_cases hlt : j < n
  ·have hx : l[j]? = some l[j] := List.getElem?_eq_getElem (by omega)
   generalize l[j] = x at hx
   have hw := bulkO_mem (List.mem_of_getElem? hx)
   have hxn := hx0 x (List.mem_of_getElem? hx)
   have hej := endOs_le (l.take j) k
   have hbj := bulkO_take l j
   have hlj : (l.take j).length ≤ n := by rw [List.length_take]; omega
   have hrx := hrow _ (List.mem_of_getElem? (markOs_get l k j x hx))
   obtain ⟨y, b, off, hy, rfl, a0, a1, a2, a3, a4⟩ := out_at (hr.below hb) j hlt
   rw [markOs_get l k j x hx] at hy
   cases hy
   have EQ2 := hide (show endOs k (l.take (j + 1)) = endO (endOs k (l.take j)) x by rw [otake_one hx, endOs_snoc])
   generalize endOs k (l.take j) = K0 at *
   unfold markO at a0 a1 a2 a3 a4 hrx
   simp only at a0 a1 a2 a3 a4 hrx
   have HB := hide hb
   clear hx
   go_wp2_with fail
   refine (held_any x.a x.n x.c (K0 + 1 + 1 + 1 + 1) _ (hrx.below hb) (by omega) (by omega) (by omega)).mono ?_
   rintro e w1 ⟨rfl, rfl⟩
   clear a0 a1 a2 a3 a4 hb hrx
   go_wp2
   go_roundw
   case rel =>
    refine ⟨j + 1, by omega, by go_num, ?_, HB.out⟩
    rw [EQ2.out]; unfold endO; rfl
   case measure => simp [intOf]; omega
  ·have hj' : j = n := by omega
   subst hj'
   rw [List.take_of_length_le (by omega)]
   go_wp2
   go_ret
   exact ⟨rfl, hb⟩

set_option maxRecDepth 100000 in
set_option maxHeartbeats 1000000 in
theorem eqOut_same (p : Int) (K N S : Int) (a1 : Option Addr) (l1 c1 : Nat) (a2 : Option Addr) (l2 c2 : Nat) (zs : List Int) (w : World) (h1 : Row w a1 l1 c1 zs) (h2 : Row w a2 l2 c2 zs) :
  Calls Tryz.prog 86 #[.agg #[.int .i64 p, .int .i64 K, .int .i64 N, .int .i64 S, .slice a1 l1 c1], .agg #[.int .i64 p, .int .i64 K, .int .i64 N, .int .i64 S, .slice a2 l2 c2]] w fun e w' => e = .returned (.bool true) ∧ Below w.heap.size w w' := by
 go_enter Tryz.func86, Tryz.ntmps86
 go_wp2_with fail
 refine (eqFrame_same K N S a1 l1 c1 a2 l2 c2 zs _ (h1.below (below_two _ _ _)) (h2.below (below_two _ _ _))).mono ?_
 rintro e w1 ⟨rfl, hb⟩
 go_wp2
 go_ret
 exact ⟨rfl, gr_trans (below_two _ _ _) hb⟩

theorem ov_get {l1 l2 : List OI} (he : l1.map OI.v = l2.map OI.v) {j : Nat} {x y : OI} (hx : l1[j]? = some x) (hy : l2[j]? = some y) : x.v = y.v := by
 have h1 : (l1.map OI.v)[j]? = some x.v := by rw [List.getElem?_map, hx]; rfl
 rw [he, List.getElem?_map, hy] at h1
 exact (Option.some.inj h1).symm

set_option maxRecDepth 100000 in
set_option maxHeartbeats 4000000 in
theorem eqOuts_same (a1 : Option Addr) (n1 c1 : Nat) (l1 : List OI) (a2 : Option Addr) (n2 c2 : Nat) (l2 : List OI) (w : World) (h1 : GRow outF w a1 n1 c1 l1) (r1 : ∀ x ∈ l1, Row w x.a x.n x.c x.z) (h2 : GRow outF w a2 n2 c2 l2) (r2 : ∀ x ∈ l2, Row w x.a x.n x.c x.z) (he : l1.map OI.v = l2.map OI.v) :
  Calls Tryz.prog 28 #[.slice a1 n1 c1, .slice a2 n2 c2] w fun e w' => e = .returned (.bool true) ∧ Below w.heap.size w w' := by
 have hl : l1.length = l2.length := by have := congrArg List.length he; simpa using this
 have hn : n1 = n2 := by have := h1.size; have := h2.size; omega
 subst hn
 have htop := h1.top
 have hle := h1.le
 unfold maxLen at htop
 go_enter Tryz.func28, Tryz.ntmps28
 go_wp2
 go_loopw [5] (fun i wr => ∃ j : Nat, j ≤ n1 ∧ i = .int .i64 j ∧ Below w.heap.size w wr) (fun i _ => n1 - (intOf i).toNat)
 case atStart => exact ⟨0, Nat.zero_le _, rfl, Below.refl _ _⟩
 case round =>
  obtain ⟨j, hj, rfl, hb⟩ := hrel
  by_cases hlt : j < n1
  ·obtain ⟨x, b1, o1, hx, rfl, p0, p1, p2, p3, p4⟩ := out_at (h1.below hb) j hlt
   obtain ⟨y, b2, o2, hy, rfl, q0, q1, q2, q3, q4⟩ := out_at (h2.below hb) j hlt
   have ev := ov_get he hx hy
   have rx := (r1 x (List.mem_of_getElem? hx)).below hb
   have ry := (r2 y (List.mem_of_getElem? hy)).below hb
   unfold OI.v at ev
   simp only [OD.mk.injEq] at ev
   obtain ⟨e1, e2, e3, e4, e5⟩ := ev
   rw [← e1] at q0
   rw [← e2] at q1
   rw [← e3] at q2
   rw [← e4] at q3
   rw [← e5] at ry
   have HB := hide hb
   clear e1 e2 e3 e4 e5 hx hy hb
   have i1 : (0 : Int) ≤ (j : Int) := by omega
   have i2 : (j : Int) < (n1 : Int) := by omega
   have CX : Hid (∀ W, Below wr.heap.size wr W → (W.cell? ⟨b1, o1 + j * 5, none⟩ = some (.int .i64 x.p) ∧ W.cell? ⟨b1, o1 + j * 5 + 1, none⟩ = some (.int .i64 x.d) ∧ W.cell? ⟨b1, o1 + j * 5 + 2, none⟩ = some (.int .i64 x.s) ∧ W.cell? ⟨b1, o1 + j * 5 + 3, none⟩ = some (.int .i64 x.t) ∧ W.cell? ⟨b1, o1 + j * 5 + 4, none⟩ = some (.slice x.a x.n x.c)) ∧ (W.cell? ⟨b2, o2 + j * 5, none⟩ = some (.int .i64 x.p) ∧ W.cell? ⟨b2, o2 + j * 5 + 1, none⟩ = some (.int .i64 x.d) ∧ W.cell? ⟨b2, o2 + j * 5 + 2, none⟩ = some (.int .i64 x.s) ∧ W.cell? ⟨b2, o2 + j * 5 + 3, none⟩ = some (.int .i64 x.t) ∧ W.cell? ⟨b2, o2 + j * 5 + 4, none⟩ = some (.slice y.a y.n y.c))) := fun W h => ⟨⟨(h.cell (block_lt p0)).trans p0, (h.cell (block_lt p1)).trans p1, (h.cell (block_lt p2)).trans p2, (h.cell (block_lt p3)).trans p3, (h.cell (block_lt p4)).trans p4⟩, (h.cell (block_lt q0)).trans q0, (h.cell (block_lt q1)).trans q1, (h.cell (block_lt q2)).trans q2, (h.cell (block_lt q3)).trans q3, (h.cell (block_lt q4)).trans q4⟩
   go_wp2_with fail
   go_region_held3 (fun W => (W.cell? ⟨b1, o1 + j * 5, none⟩ = some (.int .i64 x.p) ∧ W.cell? ⟨b1, o1 + j * 5 + 1, none⟩ = some (.int .i64 x.d) ∧ W.cell? ⟨b1, o1 + j * 5 + 2, none⟩ = some (.int .i64 x.s) ∧ W.cell? ⟨b1, o1 + j * 5 + 3, none⟩ = some (.int .i64 x.t) ∧ W.cell? ⟨b1, o1 + j * 5 + 4, none⟩ = some (.slice x.a x.n x.c)) ∧ (W.cell? ⟨b2, o2 + j * 5, none⟩ = some (.int .i64 x.p) ∧ W.cell? ⟨b2, o2 + j * 5 + 1, none⟩ = some (.int .i64 x.d) ∧ W.cell? ⟨b2, o2 + j * 5 + 2, none⟩ = some (.int .i64 x.s) ∧ W.cell? ⟨b2, o2 + j * 5 + 3, none⟩ = some (.int .i64 x.t) ∧ W.cell? ⟨b2, o2 + j * 5 + 4, none⟩ = some (.slice y.a y.n y.c))) (first | exact CX.out _ u1 | go_keep) (first
    | (go_at_call 86; refine (eqOut_same x.p x.d x.s x.t x.a x.n x.c y.a y.n y.c x.z _ (rx.below (below_drewN (Below.refl _ _) _)) (ry.below (below_drewN (Below.refl _ _) _))).mono ?_; rintro e w1 ⟨rfl, hb1⟩; have u1 := undrew hb1))
   clear hb1
   have hb1 := u1
   have HB1 := hide (gr_trans HB.out hb1)
   clear p0 p1 p2 p3 p4 q0 q1 q2 q3 q4 rx ry hb1
   go_wp2
   go_roundw
   case rel => exact ⟨j + 1, by omega, by go_num, HB1.out⟩
   case measure => simp [intOf]; omega
  ·go_wp2
   go_ret
   exact ⟨rfl, hb⟩

def markP (k : Int) : PT := ⟨(k) % 3 == 0, k + 1, (k + 1 + 1) % 3 == 0, ⟨k + 1 + 1 + 1, k + 1 + 1 + 1 + 1, k + 1 + 1 + 1 + 1 + 1, k + 1 + 1 + 1 + 1 + 1 + 1, k + 1 + 1 + 1 + 1 + 1 + 1 + 1⟩⟩
def markPs (k : Int) (n : Nat) : List PT := (List.range n).map fun (i : Nat) => markP (k + 8 * i)

theorem markPs_length (k : Int) (n : Nat) : (markPs k n).length = n := by simp [markPs]
theorem markPs_succ (k : Int) (j : Nat) : markPs k (j + 1) = markPs k j ++ [markP (k + 8 * j)] := by simp [markPs, List.range_succ]
theorem markPs_at (k : Int) (n j : Nat) (h : j < n) : (markPs k n)[j]? = some (markP (k + 8 * j)) := by simp [markPs, List.getElem?_map, List.getElem?_range h]

set_option maxRecDepth 100000 in
set_option maxHeartbeats 4000000 in
theorem markPts_at (base g n cap : Nat) (l : List PT) (k : Int) (w : World) (hown : w.ownsRow base 95 8 (.slice (some ⟨g, 0, none⟩) n cap) n (ptF.all l)) (hn : n ≤ 16777216) (hk0 : 0 ≤ k) (hk1 : k ≤ 1099511627776) :
  Calls Tryz.prog 88 #[.slice (some ⟨g, 0, none⟩) n cap, .int .i64 k] w fun r w' => r = .returned (.int .i64 (k + 8 * n)) ∧ w'.ownsRow base 95 8 (.slice (some ⟨g, 0, none⟩) n cap) n (ptF.all (markPs k n)) ∧ w.grownBy w' (some g) := by
 have hl : l.length = n := (grow_own (F := ptF) hown).size
 go_enter Tryz.func88, Tryz.ntmps88
 go_wp2
 go_loopw [1, 5] (fun m i wr => ∃ j : Nat, j ≤ n ∧ i = .int .i64 j ∧ m = .int .i64 (k + 8 * j) ∧ wr.ownsRow base 95 8 (.slice (some ⟨g, 0, none⟩) n cap) n (ptF.all (markPs k j ++ l.drop j)) ∧ w.grownBy wr (some g)) (fun _ i _ => n - (intOf i).toNat)
 case atStart => exact ⟨0, Nat.zero_le _, rfl, by simp, by simpa [markPs] using hown, World.grownBy.refl _ _⟩
 case round =>
  obtain ⟨j, hj, rfl, rfl, how, hg⟩ := hrel
  by_cases hlt : j < n
  ·obtain ⟨x, hx⟩ : ∃ x, l[j]? = some x := ⟨l[j]'(by omega), List.getElem?_eq_getElem (by omega)⟩
   have hdr : l.drop j = x :: l.drop (j + 1) := by
    obtain ⟨h, rfl⟩ := List.getElem?_eq_some_iff.1 hx
    exact List.drop_eq_getElem_cons h
   rw [hdr] at how
   have hlj := markPs_length k j
   have hz : (markPs k j ++ x :: l.drop (j + 1))[j]? = some x := by rw [List.getElem?_append_right (by omega), hlj, Nat.sub_self]; rfl
   obtain ⟨⟨t0, t1, t2, t3, t4, t5, t6, t7⟩, f0, f1, f2, f3, f4, f5, f6, f7⟩ := pt_cells how hz
   have o3 := pt_put (y := markP (k + 8 * j)) how
   rw [hlj] at o3
   have HO3 := hide o3
   have HG := hide (grownTr hg (grown_set8 (w := wr) (g := g) (j * 8) (j * 8 + 1) (j * 8 + 2) (j * 8 + 3) (j * 8 + 4) (j * 8 + 5) (j * 8 + 6) (j * 8 + 7) (.bool (markP (k + 8 * j)).up) (.int .i64 (markP (k + 8 * j)).k) (.bool (markP (k + 8 * j)).has) (.int .i64 (markP (k + 8 * j)).v.r) (.int .i64 (markP (k + 8 * j)).v.c) (.int .i64 (markP (k + 8 * j)).v.h) (.int .i64 (markP (k + 8 * j)).v.b) (.int .i64 (markP (k + 8 * j)).v.p)))
   have HM := hide (markPs_succ k j)
   have hm : 0 ≤ k + 8 * (j : Int) ∧ k + 8 * (j : Int) ≤ 2199023255552 := by omega
   clear how hg hown o3 hz hdr
   generalize hK : k + 8 * (j : Int) = K at *
   go_wp2
   go_roundw
   case rel => exact ⟨j + 1, by omega, by go_num, by simp; omega, by rw [HM.out, List.append_assoc]; exact HO3.out, HG.out⟩
   case measure => simp [intOf]; omega
  ·have hj' : j = n := by omega
   subst hj'
   rw [List.drop_eq_nil_of_le (by omega), List.append_nil] at how
   have HO := hide how
   clear how hown
   go_wp2
   go_ret
   exact ⟨rfl, HO.out, hg⟩

set_option maxRecDepth 100000 in
set_option maxHeartbeats 400000 in
theorem markPts_nil (k : Int) (c : Nat) (w : World) :
  Calls Tryz.prog 88 #[.slice none 0 c, .int .i64 k] w fun r w' => r = .returned (.int .i64 k) ∧ w' = w := by
 go_enter Tryz.func88, Tryz.ntmps88
 go_wp2
 go_loop [1, 5] (fun m i => m = .int .i64 k ∧ i = .int .i64 0) (fun _ _ => 0)
 case atStart => exact ⟨rfl, rfl⟩
 case round =>
  obtain ⟨rfl, rfl⟩ := hrel
  go_wp2
  go_ret
  exact ⟨rfl, rfl⟩

theorem markPts_grown (base : Nat) (ao : Option Addr) (n cap : Nat) (l : List PT) (k : Int) (w : World) (hown : w.ownsRow base 95 8 (.slice ao n cap) n (ptF.all l)) (hn : n ≤ 16777216) (hk0 : 0 ≤ k) (hk1 : k ≤ 1099511627776) :
  Calls Tryz.prog 88 #[.slice ao n cap, .int .i64 k] w fun r w' => r = .returned (.int .i64 (k + 8 * n)) ∧ w'.ownsRow base 95 8 (.slice ao n cap) n (ptF.all (markPs k n)) ∧ w.grownBy w' (Value.slice ao n cap).ownBlock := by
 rcases hown.2 with ⟨e, h0⟩ | ⟨g, cap', cur, e, -⟩
 ·cases e
  refine (markPts_nil k 0 w).mono ?_
  rintro r w' ⟨rfl, rfl⟩
  exact ⟨by simp, by simpa [markPs, Flat.all] using World.ownsRow_nil w' base 95 8, World.grownBy.refl _ _⟩
 ·cases e
  exact markPts_at base g n cap l k w hown hn hk0 hk1

set_option maxRecDepth 100000 in
set_option maxHeartbeats 4000000 in
theorem heldPts_any (ao : Option Addr) (n cap : Nat) (k : Int) (w : World) (h1 : GRow ptF w ao n cap (markPs k n)) (hn : n ≤ 16777216) (hk0 : 0 ≤ k) (hk1 : k ≤ 1099511627776) :
  Calls Tryz.prog 92 #[.slice ao n cap, .int .i64 k] w fun r w' => r = .returned (.int .i64 (k + 8 * n)) ∧ Below w.heap.size w w' := by
 go_enter Tryz.func92, Tryz.ntmps92
 go_wp2
 go_loopw [1, 5] (fun m i wr => ∃ j : Nat, j ≤ n ∧ i = .int .i64 j ∧ m = .int .i64 (k + 8 * j) ∧ Below w.heap.size w wr) (fun _ i _ => n - (intOf i).toNat)
 case atStart => exact ⟨0, Nat.zero_le _, rfl, by simp, Below.refl _ _⟩
 case round =>
  obtain ⟨j, hj, rfl, rfl, hb⟩ := hrel
  by_cases hlt : j < n
  ·obtain ⟨x, b, off, hx, rfl, c0, c1, c2, c3, c4, c5, c6, c7⟩ := pt_at (h1.below hb) j hlt
   rw [markPs_at k n j hlt] at hx
   cases hx
   have hm : 0 ≤ k + 8 * (j : Int) ∧ k + 8 * (j : Int) ≤ 2199023255552 := by omega
   unfold markP at c0 c1 c2 c3 c4 c5 c6 c7
   generalize hK : k + 8 * (j : Int) = K at *
   go_wp2
   go_roundw
   case rel => exact ⟨j + 1, by omega, by go_num, by simp; omega, hb⟩
   case measure => simp [intOf]; omega
  ·have hj' : j = n := by omega
   subst hj'
   go_wp2
   go_ret
   exact ⟨rfl, hb⟩

set_option maxRecDepth 100000 in
set_option maxHeartbeats 400000 in
theorem toVrow_made (e : VR) (w : World) :
  Calls Tryz.prog 181 #[.agg #[.int .i64 e.i, .int .i64 e.m, .int .i64 e.b]] w fun r w' => r = .returned (.agg #[.int .i64 e.i, .int .i64 e.m, .int .i64 e.b]) ∧ Below w.heap.size w w' := by
 go_enter Tryz.func181, Tryz.ntmps181
 go_wp2
 exact bodyPost_ret (v := .agg #[.int .i64 e.i, .int .i64 e.m, .int .i64 e.b]) (by simp [results, Tryz.results181, go_sem, *]) rfl ⟨rfl, below_three _ _ _ _⟩

theorem vrowInfoH : (Tryz.prog.info? 100).map (fun i => (i.zero, i.size, i.bytes)) = some (some (.agg #[.int .i64 0, .int .i64 0, .int .i64 0]), 3, 24) := by kernel_rfl

def VR.zero : VR := ⟨0, 0, 0⟩

theorem at3h {w w' : World} {b off n cap : Nat} {l : List VR} (h : GRow vrowF w (some ⟨b, off, none⟩) n cap l) (hb : Below w.heap.size w w') {i : Nat} {x : VR} (hx : l[i]? = some x) :
  w'.cell? ⟨b, off + i * 3, none⟩ = some (.int .i64 x.i) ∧ w'.cell? ⟨b, off + i * 3 + 1, none⟩ = some (.int .i64 x.m) ∧ w'.cell? ⟨b, off + i * 3 + 2, none⟩ = some (.int .i64 x.b) := by
 have hi : i < n := by
  have := (List.getElem?_eq_some_iff.1 hx).1
  have := h.size
  omega
 obtain ⟨y, b', off', hy, e, c⟩ := vrow_at (h.below hb) i hi
 cases e
 rw [hx] at hy
 cases hy
 exact c

theorem vrow_put {w : World} {base g n cap : Nat} {pre post : List VR} {x y : VR} (h : w.ownsRow base 100 3 (.slice (some ⟨g, 0, none⟩) n cap) n (vrowF.all (pre ++ x :: post))) :
  (((w.setCell ⟨g, pre.length * 3, none⟩ (.int .i64 y.i)).setCell ⟨g, pre.length * 3 + 1, none⟩ (.int .i64 y.m)).setCell ⟨g, pre.length * 3 + 2, none⟩ (.int .i64 y.b)).ownsRow base 100 3 (.slice (some ⟨g, 0, none⟩) n cap) n (vrowF.all (pre ++ y :: post)) := by
 have R0 := flat_stored (F := vrowF) (x' := ⟨y.i, x.m, x.b⟩) h 0 (.int .i64 y.i) (by decide) rfl
 have R1 := flat_stored (F := vrowF) (x' := ⟨y.i, y.m, x.b⟩) R0 1 (.int .i64 y.m) (by decide) rfl
 exact flat_stored (F := vrowF) (x' := y) R1 2 (.int .i64 y.b) (by decide) rfl

theorem grown_set3 {w : World} {g : Nat} (j0 j1 j2 : Nat) (u0 u1 u2 : Value) : w.grownBy (((w.setCell ⟨g, j0, none⟩ u0).setCell ⟨g, j1, none⟩ u1).setCell ⟨g, j2, none⟩ u2) (some g) :=
 grownTr (grownTr (grown_set _ _) (grown_set _ _)) (grown_set _ _)

theorem vrow_cells {w : World} {base g n cap : Nat} {T : TypeId} {l : List VR} (h : w.ownsRow base T 3 (.slice (some ⟨g, 0, none⟩) n cap) n (vrowF.all l)) {i : Nat} {x : VR} (hx : l[i]? = some x) :
  (w.cell? ⟨g, i * 3, none⟩ = some (.int .i64 x.i) ∧ w.cell? ⟨g, i * 3 + 1, none⟩ = some (.int .i64 x.m) ∧ w.cell? ⟨g, i * 3 + 2, none⟩ = some (.int .i64 x.b)) ∧
  (w.frozen? ⟨g, i * 3, none⟩ = false ∧ w.frozen? ⟨g, i * 3 + 1, none⟩ = false ∧ w.frozen? ⟨g, i * 3 + 2, none⟩ = false) := by
 have c0 := flat_cells (F := vrowF) h hx (j := 0) (v := .int .i64 x.i) rfl
 have c1 := flat_cells (F := vrowF) h hx (j := 1) (v := .int .i64 x.m) rfl
 have c2 := flat_cells (F := vrowF) h hx (j := 2) (v := .int .i64 x.b) rfl
 exact ⟨⟨c0.1, c1.1, c2.1⟩, c0.2, c1.2, c2.2⟩

set_option maxRecDepth 100000 in
set_option maxHeartbeats 2000000 in
theorem toVrows_made (ao : Option Addr) (n c : Nat) (l : List VR) (w : World) (hl : GRow vrowF w ao n c l) (hs : n ≤ 1048576) :
  Calls Tryz.prog 141 #[.slice ao n c] w fun r w' => ∃ ao' cap, r = .returned (.slice ao' n cap) ∧ w'.ownsRow w.heap.size 100 3 (.slice ao' n cap) n (vrowF.all l) ∧ GRow vrowF w' ao' n cap l ∧ Below w.heap.size w w' := by
 obtain ⟨i0, hi, hz0, hz1, hz2⟩ := finfo_parts vrowInfoH
 have s1 := hl.size
 go_enter Tryz.func141, Tryz.ntmps141
 go_wp2_with (at_make; refine wpList_make_full _ rfl _ _ 26 rfl w.heap.size 100 i0 (.agg #[.int .i64 0, .int .i64 0, .int .i64 0]) 3 Tryz.underlying26 hi hz0 hz1 .i64 .i64 _ _ n rfl rfl rfl rfl ?c1 ?c2 ?c3 ?_)
 case c1 => rw [hz2]; omega
 case c2 => unfold maxLen; omega
 case c3 => exact Nat.le_refl _
 intro w1 hown hgrow
 have hb1 : Below w.heap.size w w1 := (Below.refl _ _).grown hgrow (Nat.le_refl _) (by intro k hk; cases hk)
 have hown1 : w1.ownsRow w.heap.size 100 3 (.slice (some ⟨w.heap.size, 0, none⟩) n n) n (vrowF.all (l.take 0 ++ List.replicate (n - 0) VR.zero)) := by
  rw [List.take_zero, List.nil_append, Nat.sub_zero, ← flat_made]; exact hown
 clear hown hgrow hi hz0 hz1 hz2
 go_wp2
 go_loopw [4] (fun i wr => ∃ k : Nat, k ≤ n ∧ i = .int .i64 k ∧ wr.ownsRow w.heap.size 100 3 (.slice (some ⟨w.heap.size, 0, none⟩) n n) n (vrowF.all (l.take k ++ List.replicate (n - k) VR.zero)) ∧ Below w.heap.size w wr) (fun i _ => n - (intOf i).toNat)
 case atStart => exact ⟨0, Nat.zero_le _, rfl, hown1, hb1⟩
 case round =>
  obtain ⟨k, hk, rfl, ho, hb⟩ := hrel
  clear hown1 hb1
  by_cases hlt : k < n
  ·obtain ⟨x, b, off, hx, rfl, a0, a1, a2⟩ := vrow_at (hl.below hb) k hlt
   have hrep : List.replicate (n - k) VR.zero = VR.zero :: List.replicate (n - (k + 1)) VR.zero := by rw [← List.replicate_succ]; congr 1; omega
   have hlk : (l.take k).length = k := by rw [List.length_take]; omega
   rw [hrep] at ho
   have htk : l.take (k + 1) = l.take k ++ [x] := by rw [List.take_add_one, hx]; rfl
   have HTK := hide htk
   have HB := hide hb
   have HO := hide ho
   have HX := hide hx
   clear hb ho htk hx
   go_wp2_with fail
   refine (toVrow_made x _).mono ?_
   rintro r w2 ⟨rfl, hb2⟩
   have ho2 := gown_below HO.out hb2
   have hz : (l.take k ++ VR.zero :: List.replicate (n - (k + 1)) VR.zero)[k]? = some VR.zero := by rw [List.getElem?_append_right (by omega), hlk, Nat.sub_self]; rfl
   obtain ⟨⟨t0, t1, t2⟩, f0, f1, f2⟩ := vrow_cells ho2 hz
   have o3 := vrow_put (y := x) ho2
   rw [hlk] at o3
   have HO3 := hide o3
   have hb3 := gr_trans HB.out hb2
   have HB3 := hide (hb3.grown (grown_set3 (w := w2) (g := w.heap.size) (k * 3) (k * 3 + 1) (k * 3 + 2) (.int .i64 x.i) (.int .i64 x.m) (.int .i64 x.b)) hb3.size (by intro j e; cases e; exact Nat.le_refl _))
   clear ho2 hb2 hb3 o3 hz a0 a1 a2
   go_wp2
   go_roundw
   case rel => exact ⟨k + 1, by omega, by go_num, by rw [HTK.out, List.append_assoc]; exact HO3.out, HB3.out⟩
   case measure => simp [intOf]; omega
  ·have hkn : k = n := by omega
   subst hkn
   rw [Nat.sub_self, List.take_of_length_le (by omega), List.replicate_zero, List.append_nil] at ho
   have HO := hide ho
   have HR := hide (grow_own ho)
   have HB := hide hb
   clear ho hb
   go_wp2
   go_ret
   exact ⟨_, _, rfl, HO.out, HR.out, HB.out⟩

set_option maxRecDepth 100000 in
set_option maxHeartbeats 400000 in
theorem eqVrow_same (e : VR) (w : World) :
  Calls Tryz.prog 183 #[.agg #[.int .i64 e.i, .int .i64 e.m, .int .i64 e.b], .agg #[.int .i64 e.i, .int .i64 e.m, .int .i64 e.b]] w fun r w' => r = .returned (.bool true) ∧ Below w.heap.size w w' := by
 go_enter Tryz.func183, Tryz.ntmps183
 go_wp2
 go_ret
 exact ⟨rfl, below_two _ _ _⟩

set_option maxRecDepth 100000 in
set_option maxHeartbeats 400000 in
theorem szVrows_any (ao : Option Addr) (n c : Nat) (left : Int) (w : World) (hl : n ≤ maxLen) (h0 : 0 ≤ left) (h1 : left ≤ 1048576) :
  Calls Tryz.prog 137 #[.slice ao n c, .int .i64 left] w fun r w' => r = .returned (.int .i64 (if (n : Int) ≤ left then left - n else -1)) ∧ w' = w := by
 unfold maxLen at hl
 go_enter Tryz.func137, Tryz.ntmps137
 go_wp2
 all_goals go_ret
 all_goals exact ⟨rfl, rfl⟩

set_option maxRecDepth 100000 in
set_option maxHeartbeats 400000 in
theorem szInts9_any (ao : Option Addr) (n c : Nat) (left : Int) (w : World) (hl : n ≤ maxLen) (h0 : 0 ≤ left) (h1 : left ≤ 1048576) :
  Calls Tryz.prog 138 #[.slice ao n c, .int .i64 left] w fun r w' => r = .returned (.int .i64 (if (n : Int) ≤ left then left - n else -1)) ∧ w' = w := by
 unfold maxLen at hl
 go_enter Tryz.func138, Tryz.ntmps138
 go_wp2
 all_goals go_ret
 all_goals exact ⟨rfl, rfl⟩

def markR (k : Int) : VR := ⟨k, k + 1, k + 1 + 1⟩
def markRs (k : Int) (n : Nat) : List VR := (List.range n).map fun (i : Nat) => markR (k + 3 * i)

theorem markRs_length (k : Int) (n : Nat) : (markRs k n).length = n := by simp [markRs]
theorem markRs_succ (k : Int) (j : Nat) : markRs k (j + 1) = markRs k j ++ [markR (k + 3 * j)] := by simp [markRs, List.range_succ]
theorem markRs_at (k : Int) (n j : Nat) (h : j < n) : (markRs k n)[j]? = some (markR (k + 3 * j)) := by simp [markRs, List.getElem?_map, List.getElem?_range h]

set_option maxRecDepth 100000 in
set_option maxHeartbeats 2000000 in
theorem markVrows_at (base g n cap : Nat) (l : List VR) (k : Int) (w : World) (hown : w.ownsRow base 100 3 (.slice (some ⟨g, 0, none⟩) n cap) n (vrowF.all l)) (hn : n ≤ 16777216) (hk0 : 0 ≤ k) (hk1 : k ≤ 1099511627776) :
  Calls Tryz.prog 147 #[.slice (some ⟨g, 0, none⟩) n cap, .int .i64 k] w fun r w' => r = .returned (.int .i64 (k + 3 * n)) ∧ w'.ownsRow base 100 3 (.slice (some ⟨g, 0, none⟩) n cap) n (vrowF.all (markRs k n)) ∧ w.grownBy w' (some g) := by
 have hl : l.length = n := (grow_own (F := vrowF) hown).size
 go_enter Tryz.func147, Tryz.ntmps147
 go_wp2
 go_loopw [1, 5] (fun m i wr => ∃ j : Nat, j ≤ n ∧ i = .int .i64 j ∧ m = .int .i64 (k + 3 * j) ∧ wr.ownsRow base 100 3 (.slice (some ⟨g, 0, none⟩) n cap) n (vrowF.all (markRs k j ++ l.drop j)) ∧ w.grownBy wr (some g)) (fun _ i _ => n - (intOf i).toNat)
 case atStart => exact ⟨0, Nat.zero_le _, rfl, by simp, by simpa [markRs] using hown, World.grownBy.refl _ _⟩
 case round =>
  obtain ⟨j, hj, rfl, rfl, how, hg⟩ := hrel
  by_cases hlt : j < n
  ·obtain ⟨x, hx⟩ : ∃ x, l[j]? = some x := ⟨l[j]'(by omega), List.getElem?_eq_getElem (by omega)⟩
   have hdr : l.drop j = x :: l.drop (j + 1) := by
    obtain ⟨h, rfl⟩ := List.getElem?_eq_some_iff.1 hx
    exact List.drop_eq_getElem_cons h
   rw [hdr] at how
   have hlj := markRs_length k j
   have hz : (markRs k j ++ x :: l.drop (j + 1))[j]? = some x := by rw [List.getElem?_append_right (by omega), hlj, Nat.sub_self]; rfl
   obtain ⟨⟨t0, t1, t2⟩, f0, f1, f2⟩ := vrow_cells how hz
   have o3 := vrow_put (y := markR (k + 3 * j)) how
   rw [hlj] at o3
   have HO3 := hide o3
   have HG := hide (grownTr hg (grown_set3 (w := wr) (g := g) (j * 3) (j * 3 + 1) (j * 3 + 2) (.int .i64 (markR (k + 3 * j)).i) (.int .i64 (markR (k + 3 * j)).m) (.int .i64 (markR (k + 3 * j)).b)))
   have HM := hide (markRs_succ k j)
   have hm : 0 ≤ k + 3 * (j : Int) ∧ k + 3 * (j : Int) ≤ 2199023255552 := by omega
   clear how hg hown o3 hz hdr
   generalize hK : k + 3 * (j : Int) = K at *
   go_wp2
   go_roundw
   case rel => exact ⟨j + 1, by omega, by go_num, by simp; omega, by rw [HM.out, List.append_assoc]; exact HO3.out, HG.out⟩
   case measure => simp [intOf]; omega
  ·have hj' : j = n := by omega
   subst hj'
   rw [List.drop_eq_nil_of_le (by omega), List.append_nil] at how
   have HO := hide how
   clear how hown
   go_wp2
   go_ret
   exact ⟨rfl, HO.out, hg⟩

set_option maxRecDepth 100000 in
set_option maxHeartbeats 400000 in
theorem markVrows_nil (k : Int) (c : Nat) (w : World) :
  Calls Tryz.prog 147 #[.slice none 0 c, .int .i64 k] w fun r w' => r = .returned (.int .i64 k) ∧ w' = w := by
 go_enter Tryz.func147, Tryz.ntmps147
 go_wp2
 go_loop [1, 5] (fun m i => m = .int .i64 k ∧ i = .int .i64 0) (fun _ _ => 0)
 case atStart => exact ⟨rfl, rfl⟩
 case round =>
  obtain ⟨rfl, rfl⟩ := hrel
  go_wp2
  go_ret
  exact ⟨rfl, rfl⟩

theorem markVrows_grown (base : Nat) (ao : Option Addr) (n cap : Nat) (l : List VR) (k : Int) (w : World) (hown : w.ownsRow base 100 3 (.slice ao n cap) n (vrowF.all l)) (hn : n ≤ 16777216) (hk0 : 0 ≤ k) (hk1 : k ≤ 1099511627776) :
  Calls Tryz.prog 147 #[.slice ao n cap, .int .i64 k] w fun r w' => r = .returned (.int .i64 (k + 3 * n)) ∧ w'.ownsRow base 100 3 (.slice ao n cap) n (vrowF.all (markRs k n)) ∧ w.grownBy w' (Value.slice ao n cap).ownBlock := by
 rcases hown.2 with ⟨e, h0⟩ | ⟨g, cap', cur, e, -⟩
 ·cases e
  refine (markVrows_nil k 0 w).mono ?_
  rintro r w' ⟨rfl, rfl⟩
  exact ⟨by simp, by simpa [markRs, Flat.all] using World.ownsRow_nil w' base 100 3, World.grownBy.refl _ _⟩
 ·cases e
  exact markVrows_at base g n cap l k w hown hn hk0 hk1

set_option maxRecDepth 100000 in
set_option maxHeartbeats 2000000 in
theorem heldVrows_any (ao : Option Addr) (n cap : Nat) (k : Int) (w : World) (h1 : GRow vrowF w ao n cap (markRs k n)) (hn : n ≤ 16777216) (hk0 : 0 ≤ k) (hk1 : k ≤ 1099511627776) :
  Calls Tryz.prog 149 #[.slice ao n cap, .int .i64 k] w fun r w' => r = .returned (.int .i64 (k + 3 * n)) ∧ Below w.heap.size w w' := by
 go_enter Tryz.func149, Tryz.ntmps149
 go_wp2
 go_loopw [1, 5] (fun m i wr => ∃ j : Nat, j ≤ n ∧ i = .int .i64 j ∧ m = .int .i64 (k + 3 * j) ∧ Below w.heap.size w wr) (fun _ i _ => n - (intOf i).toNat)
 case atStart => exact ⟨0, Nat.zero_le _, rfl, by simp, Below.refl _ _⟩
 case round =>
  obtain ⟨j, hj, rfl, rfl, hb⟩ := hrel
  by_cases hlt : j < n
  ·obtain ⟨x, b, off, hx, rfl, c0, c1, c2⟩ := vrow_at (h1.below hb) j hlt
   rw [markRs_at k n j hlt] at hx
   cases hx
   have hm : 0 ≤ k + 3 * (j : Int) ∧ k + 3 * (j : Int) ≤ 2199023255552 := by omega
   unfold markR at c0 c1 c2
   generalize hK : k + 3 * (j : Int) = K at *
   go_wp2
   go_roundw
   case rel => exact ⟨j + 1, by omega, by go_num, by simp; omega, hb⟩
   case measure => simp [intOf]; omega
  ·have hj' : j = n := by omega
   subst hj'
   go_wp2
   go_ret
   exact ⟨rfl, hb⟩

set_option maxRecDepth 100000 in
set_option maxHeartbeats 2000000 in
theorem eqVrows_same (ao : Option Addr) (n c : Nat) (ao' : Option Addr) (n' c' : Nat) (l : List VR) (w : World) (hl : GRow vrowF w ao n c l) (hl' : GRow vrowF w ao' n' c' l) :
  Calls Tryz.prog 145 #[.slice ao n c, .slice ao' n' c'] w fun r w' => r = .returned (.bool true) ∧ Below w.heap.size w w' := by
 have hs := hl.size
 have hs' := hl'.size
 have htop := Nat.le_trans hl.le hl.top
 unfold maxLen at htop
 have hnn : n' = n := by omega
 subst hnn
 go_enter Tryz.func145, Tryz.ntmps145
 go_wp2
 go_loopw [5] (fun i wr => ∃ k : Nat, k ≤ n' ∧ i = .int .i64 k ∧ Below w.heap.size w wr) (fun i _ => n' - (intOf i).toNat)
 case atStart => exact ⟨0, Nat.zero_le _, rfl, Below.refl _ _⟩
 case round =>
  obtain ⟨k, hk, rfl, hb⟩ := hrel
  by_cases hlt : k < n'
  ·obtain ⟨x, b, off, hx, rfl, a0, a1, a2⟩ := vrow_at (hl.below hb) k hlt
   obtain ⟨y, b', off', hy, rfl, e0, e1, e2⟩ := vrow_at (hl'.below hb) k hlt
   rw [hx] at hy
   cases hy
   have HS : Hid (∀ W, Below wr.heap.size wr W → (W.cell? ⟨b, off + k * 3, none⟩ = some (.int .i64 x.i) ∧ W.cell? ⟨b, off + k * 3 + 1, none⟩ = some (.int .i64 x.m) ∧ W.cell? ⟨b, off + k * 3 + 2, none⟩ = some (.int .i64 x.b)) ∧ (W.cell? ⟨b', off' + k * 3, none⟩ = some (.int .i64 x.i) ∧ W.cell? ⟨b', off' + k * 3 + 1, none⟩ = some (.int .i64 x.m) ∧ W.cell? ⟨b', off' + k * 3 + 2, none⟩ = some (.int .i64 x.b))) := hide (fun W h => ⟨at3h (hl.below hb) h hx, at3h (hl'.below hb) h hx⟩)
   have vv : Below wr.heap.size wr wr.drew := gr_drew (Below.refl _ _)
   have i1 : (0 : Int) ≤ (k : Int) := by omega
   have i2 : (k : Int) < (n' : Int) := by omega
   have HB := hide hb
   clear hb a0 a1 a2 e0 e1 e2 hx
   go_wp2_with fail
   refine wp_region_held_drew (S := (fun W => (W.cell? ⟨b, off + k * 3, none⟩ = some (.int .i64 x.i) ∧ W.cell? ⟨b, off + k * 3 + 1, none⟩ = some (.int .i64 x.m) ∧ W.cell? ⟨b, off + k * 3 + 2, none⟩ = some (.int .i64 x.b)) ∧ (W.cell? ⟨b', off' + k * 3, none⟩ = some (.int .i64 x.i) ∧ W.cell? ⟨b', off' + k * 3 + 1, none⟩ = some (.int .i64 x.m) ∧ W.cell? ⟨b', off' + k * 3 + 2, none⟩ = some (.int .i64 x.b)))) (by kernel_rfl) (HS.out _ vv) (fun hHeld => ?_)
   refine tK (v := ?_) 0 ⟨some 17, .move (.tmp 0), 26, "exact.go:657", #[], none⟩ ?_ ?_
   rotate_left
   ·(intro _ h; (try dsimp only at h); go_simp; try with_reducible rfl)
   simp only [Act.put, lA, lB, lC]
   refine tK (v := ?_) 1 ⟨some 18, .move (.tmp 5), 3, "exact.go:657", #[], none⟩ ?_ ?_
   rotate_left
   ·(intro _ h; (try dsimp only at h); go_simp; try with_reducible rfl)
   simp only [Act.put, lA, lB, lC]
   refine tK (v := ?_) 2 ⟨some 19, .indexAddr 26 (.tmp 17) (.tmp 18), 0, "exact.go:657", #[⟨0, .data⟩, ⟨1, .data⟩], none⟩ ?_ ?_
   rotate_left
   ·(intro _ h; (try dsimp only at h); go_simp; try with_reducible rfl)
   simp only [Act.put, lA, lB, lC]
   refine tK (v := ?_) 3 ⟨some 20, .load 100 (.tmp 19), 100, "exact.go:657", #[⟨2, .data⟩], none⟩ ?_ ?_
   rotate_left
   ·(intro _ h; (try dsimp only at h); go_simp; try with_reducible rfl)
   simp only [Act.put, lA, lB, lC]
   refine tK (v := ?_) 4 ⟨some 21, .move (.tmp 1), 26, "exact.go:657", #[], none⟩ ?_ ?_
   rotate_left
   ·(intro _ h; (try dsimp only at h); go_simp; try with_reducible rfl)
   simp only [Act.put, lA, lB, lC]
   refine tK (v := ?_) 5 ⟨some 22, .move (.tmp 5), 3, "exact.go:657", #[], none⟩ ?_ ?_
   rotate_left
   ·(intro _ h; (try dsimp only at h); go_simp; try with_reducible rfl)
   simp only [Act.put, lA, lB, lC]
   refine tK (v := ?_) 6 ⟨some 23, .indexAddr 26 (.tmp 21) (.tmp 22), 0, "exact.go:657", #[⟨4, .data⟩, ⟨5, .data⟩], none⟩ ?_ ?_
   rotate_left
   ·(intro _ h; (try dsimp only at h); go_simp; try with_reducible rfl)
   simp only [Act.put, lA, lB, lC]
   refine tK (v := ?_) 7 ⟨some 24, .load 100 (.tmp 23), 100, "exact.go:657", #[⟨6, .data⟩], none⟩ ?_ ?_
   rotate_left
   ·(intro _ h; (try dsimp only at h); go_simp; try with_reducible rfl)
   simp only [Act.put, lA, lB, lC]
   refine tR [8] ?_
   refine AllReadyH.cons (o := ⟨some 25, .call ⟨.value (.func 183), #[.tmp 20, .tmp 24], #[100, 100]⟩, 4, "exact.go:657", #[⟨3, .data⟩, ⟨7, .data⟩], none⟩) rfl (fun K hK => ?_) ?_
   ·go_simp
    refine (eqVrow_same x _).mono ?_
    rintro r wz ⟨rfl, hbz⟩
    have vv := gr_trans vv hbz
    go_wp2_with fail
    refine hK.out _ _ (HS.out _ vv) (fun hHeld => ?_)
    clear hK K
    try simp only [Act.put, lA, lB, lC]
    refine tK (v := ?_) 9 ⟨some 26, .unOp .not 4 (.tmp 25), 4, "exact.go:657", #[⟨8, .data⟩], none⟩ ?_ ?_
    rotate_left
    ·(intro _ h; (try dsimp only at h); go_simp; try with_reducible rfl)
    simp only [Act.put, lA, lB, lC]
    refine wpAnyH_done (by kernel_rfl) ?_ _
    have b1 := gr_trans HB.out vv
    clear HS hHeld vv
    go_wp2
    go_roundw
    case rel => exact ⟨k + 1, by omega, by go_num, b1⟩
    case measure => simp [intOf]; omega
   exact AllReadyH.nil
  ·have hk' : k = n' := by omega
   subst hk'
   go_wp2
   go_ret
   exact ⟨rfl, hb⟩

end Go.Proofs.YtddalpglihhipaaGreat
