/-
  Packed: FlatCopy OutMark VrowHelp DrawFrameG FrameBy FrameSame SameOuts Same Big SameStr EqRows OidSame.
-/
import Derived.Test.YtddalpglihhipaaGreatPSKW
import Derived.Test.YtddalpglihhipaaGreatPSK01
import Derived.Test.YtddalpglihhipaaGreatPSK02
import Derived.Test.YtddalpglihhipaaGreatPSK03
import Derived.Test.YtddalpglihhipaaGreatPSK04
import Derived.Laws.CopyRow
import Derived.Lib.AppendZeros
import Derived.Lib.Overlaps
import Derived.Deep.RegionHeld3
import Derived.Deep.CutRange
namespace Go.Proofs.YtddalpglihhipaaGreat
open Go.RowKit

theorem run_copy_flat {P : Program} (w : World) (dT sT ty elem : TypeId) (g o dLen dCap : Nat) (a : Addr) (sLen sCap : Nat) (cur : Array Value) (t : TypeId) (cs : List Value) (K : Nat)
  (hu : P.underlying dT = some (.slice elem)) (hs : (P.info? elem).map (·.size) = some K)
  (hg : w.heap[g]? = some (.cells cur t (0, 0))) (hn : cs.length = Nat.min sLen dLen * K)
  (hsrc : ∀ j v, cs[j]? = some v → w.cell? (a.add j) = some v) (hfit : o + cs.length ≤ cur.size) (h1 : ∀ v ∈ cs, v.oneCell' = true) :
  (Builtin.copy_ #[dT, sT] ty #[.slice (some ⟨g, o, none⟩) dLen dCap, .slice (some a) sLen sCap]).run P w =
   .ok (goInt (Nat.min sLen dLen)) (w.setRow g (cur.toList.take o ++ cs ++ cur.toList.drop (o + cs.length)).toArray) := by
 have hl := run_loadCells_list (P := P) w a cs hsrc
 have hst := run_storeCells_at P g o t cs 0 cur w hg (by simpa using hfit) h1
 cases hq : P.info? elem with
 | none => simp [hq] at hs
 | some i =>
  have hi : i.size = K := by simpa [hq] using hs
  simp [Builtin.copy_, run_underlying hu, Builtin.lenOf, Builtin.firstCells, sizeOf, typeInfo, hq, hi, ← hn, hl, hst]

theorem run_append_zeros {P : Program} (w : World) (t tn ty e : TypeId) (i : TypeInfo) (z : Value) (k kn : IntKind) (ht : P.underlying t = some (.slice e)) (htn : P.underlying tn = some (.int kn)) (hi : P.info? e = some i) (hz : i.zero = some z)
  (b : Addr) (sLen sCap : Nat) (olds : List Value) (hlo : olds.length = sLen * i.size) (holds : ∀ j v, olds[j]? = some v → w.cell? (b.add j) = some v)
  (n : Nat) (h0 : 0 < n) (hs : 0 < i.size) (hg : sCap < sLen + n) (h63 : ((sLen + n : Nat) : Int) ≤ 9223372036854775807) (h48 : (sLen + n) * i.bytes ≤ 140737488355328) :
  (Builtin.append_ #[t, tn] ty #[.slice (some b) sLen sCap, .int k n]).run P w =
   .ok (.slice (some ⟨w.heap.size, 0, none⟩) (sLen + n) (grownCap w (sLen + n) sCap e))
    (w.drew.alloc (.cells (olds.toArray ++ Builtin.zeroCells z.cells n ++ Builtin.zeroCells z.cells (grownCap w (sLen + n) sCap e - (sLen + n))) e)) := by
 have hn : ¬ (sLen + n ≤ sCap) := by omega
 have hw : IntKind.i64.wrap (n : Int) = n := by rw [IntKind.wrap_i64]; omega
 have h63' : ¬ (9223372036854775807 < ((sLen : Int) + (n : Int))) := by omega
 have h48' : ¬ (281474976710656 < Builtin.nextslicecap (sLen + n) sCap * i.bytes) := by
  have := growslice_fits (need := sLen + n) (old := sCap) (bytes := i.bytes) hg h48
  omega
 have h48i : ¬ (281474976710656 < (n : Int) * (i.bytes : Int)) := by
  rw [← Int.natCast_mul]
  have : n * i.bytes ≤ (sLen + n) * i.bytes := Nat.mul_le_mul_right _ (by omega)
  omega
 have hneg : ¬ ((n : Int) < 0) := by omega
 have hns : ¬ (n * i.size = 0) := Nat.mul_ne_zero (by omega) (by omega)
 have hfo := run_firstCells_some (P := P) w.drew i.size sLen b sLen sCap olds hlo (by simpa using holds)
 simp [Builtin.append_, run_underlying ht, run_underlying htn, sizeOf, typeInfo, zeroValue, hi, hz, asInt, asIntOf, hw, hn, hneg, hns, h63', h48', h48i, Question.forced, hfo, newRow, grownCap]

theorem wp_copy_eq {P : Program} (w : World) {o : Oper} {a : Act} {K : Act → World → Prop} {Q : Exit → Act → World → Prop} (d s : Operand) (t t' : TypeId)
  (ho : o.op = .call { callee := .builtin .copy, args := #[d, s], argTypes := #[t, t'] }) (v u : Value) (hd : a.eval d = v) (hs : a.eval s = u) {v' : Value} {w' : World}
  (hr : (Builtin.copy_ #[t, t'] o.type #[v, u]).run P w = .ok v' w') (h : K (a.put o.dst v') w') : o.wp P a w K Q := by
 unfold Oper.wp execOp
 simp only [ho, resolve, invoke, builtin, Sem.run_bind, Sem.run_pure, Result.andThen_ok, List.map_toArray, List.map_cons, List.map_nil, hd, hs, hr]
 exact h

theorem wpList_copy_eq {P : Program} (w : World) {ops : Array Oper} {rest : List Oper} {o : Oper} {a : Act} {Q : Exit → Act → World → Prop} (hgd : o.guard = none) (d s : Operand) (t t' : TypeId)
  (ho : o.op = .call { callee := .builtin .copy, args := #[d, s], argTypes := #[t, t'] }) (v u : Value) (hd : a.eval d = v) (hs : a.eval s = u) {v' : Value} {w' : World}
  (hr : (Builtin.copy_ #[t, t'] o.type #[v, u]).run P w = .ok v' w') (h : wpList P ops Q rest (a.put o.dst v') w') : wpList P ops Q (o :: rest) a w :=
 wpList_plain hgd fun _ hK => wp_copy_eq w d s t t' ho v u hd hs hr (hK _ _ h)

theorem step_copy_eq {P : Program} {ops : Array Oper} {o : Oper} {a : Act} {w : World} {K : Act → World → Prop} {Q : Exit → Act → World → Prop} {E : Prop}
  (hg : o.guard = none) (d x : Operand) (dT sT : TypeId) (hop : o.op = Op.call { callee := Callee.builtin Builtin.copy, args := #[d, x], argTypes := #[dT, sT] })
  (v u : Value) (hd : a.eval d = v) (hx : a.eval x = u) {v' : Value} {w' : World} (hr : (Builtin.copy_ #[dT, sT] o.type #[v, u]).run P w = .ok v' w') (hK : K (a.put o.dst v') w') :
  if Region.wanted o (yielded ops a.tmps) = true then Oper.wp P o a w K Q else E := by
 have hw : Region.wanted o (yielded ops a.tmps) = true := by simp [Region.wanted, hg]
 rw [if_pos hw]
 unfold Oper.wp
 simp [execOp, hop, resolve, invoke, builtin, hd, hx, hr, Result.andThen]
 exact hK

def spl (L : List Value) (o : Nat) (cs : List Value) : List Value := L.take o ++ cs ++ L.drop (o + cs.length)

theorem spl_length {L : List Value} {o : Nat} {cs : List Value} (h : o + cs.length ≤ L.length) : (spl L o cs).length = L.length := by
 unfold spl
 simp
 omega

theorem spl_shift {cur A C : List Value} {a k n : Nat} (hC : C.length = k) (hA : A.length = n) (ha : a ≤ n) (hcur : n + k ≤ cur.length) (ht : cur.take n = A) :
  (spl (spl cur (a + k) (A.drop a)) a C).take (n + k) = A.take a ++ C ++ A.drop a := by
 have hd : (A.drop a).length = n - a := by rw [List.length_drop, hA]
 have hl1 : (cur.take (a + k)).length = a + k := by rw [List.length_take]; omega
 have h1 : (spl cur (a + k) (A.drop a)).take a = A.take a := by
  unfold spl
  rw [List.append_assoc, List.take_append_of_le_length (by omega), List.take_take, Nat.min_eq_left (by omega), ← ht, List.take_take, Nat.min_eq_left ha]
 have h2 : (spl cur (a + k) (A.drop a)).drop (a + k) = A.drop a ++ cur.drop (a + k + (A.drop a).length) := by
  unfold spl
  rw [List.append_assoc, List.drop_append_of_le_length (by omega), List.drop_eq_nil_of_le (by omega), List.nil_append]
 have h3 : spl (spl cur (a + k) (A.drop a)) a C = A.take a ++ C ++ A.drop a ++ cur.drop (a + k + (A.drop a).length) := by
  show (spl cur (a + k) (A.drop a)).take a ++ C ++ (spl cur (a + k) (A.drop a)).drop (a + C.length) = _
  rw [h1, hC, h2]
  simp
 rw [h3, List.take_append_of_le_length (by simp; omega), List.take_of_length_le (by simp; omega)]

theorem spl_new {Z A C : List Value} {a k n : Nat} (hC : C.length = k) (hA : A.length = n) (ha : a ≤ n) :
  (spl (spl (A.take a ++ Z) a C) (a + k) (A.drop a)).take (n + k) = A.take a ++ C ++ A.drop a := by
 have hd : (A.drop a).length = n - a := by rw [List.length_drop, hA]
 have hta : (A.take a).length = a := by rw [List.length_take]; omega
 have h1 : spl (A.take a ++ Z) a C = A.take a ++ C ++ Z.drop k := by
  unfold spl
  rw [List.take_append_of_le_length (by omega), List.take_of_length_le (by omega), hC, List.drop_append, hta]
  rw [List.drop_eq_nil_of_le (by omega), List.nil_append, Nat.add_sub_cancel_left]
 have h2 : spl (A.take a ++ C ++ Z.drop k) (a + k) (A.drop a) = A.take a ++ C ++ A.drop a ++ (A.take a ++ C ++ Z.drop k).drop (a + k + (A.drop a).length) := by
  show (A.take a ++ C ++ Z.drop k).take (a + k) ++ _ ++ _ = _
  rw [List.take_append_of_le_length (by simp; omega), List.take_of_length_le (by simp; omega)]
 rw [h1, h2, List.take_append_of_le_length (by simp; omega), List.take_of_length_le (by simp; omega)]

theorem ov_get {l1 l2 : List OI} (he : l1.map OI.v = l2.map OI.v) {j : Nat} {x y : OI} (hx : l1[j]? = some x) (hy : l2[j]? = some y) : x.v = y.v := by
 have h1 : (l1.map OI.v)[j]? = some x.v := by rw [List.getElem?_map, hx]; rfl
 rw [he, List.getElem?_map, hy] at h1
 exact (Option.some.inj h1).symm

def VR.zero : VR := ⟨0, 0, 0⟩

def GoodF (w w' : World) (C : Nat) (a0 : Option Addr) (l0 c0 : Nat) (z0 : List Int) (e : Ending) : Prop :=
 ∃ (K N S : Int) (ao : Option Addr) (n cap : Nat) (zs : List Int), e = .returned (.agg #[.int .i64 K, .int .i64 N, .int .i64 S, .slice ao n cap]) ∧ (0 ≤ K ∧ K ≤ 14) ∧ (11 ≤ N ∧ N ≤ 14) ∧ (0 ≤ S ∧ S ≤ 3) ∧ n ≤ 9 ∧ zs.length = n ∧ Byt zs ∧ w'.ownsRow w.heap.size 5 1 (.slice ao n cap) n (cB zs) ∧ Went w w' C a0 l0 c0 z0

set_option maxRecDepth 100000 in
set_option maxHeartbeats 400000 in
theorem l6Mac_good (C : Nat) (a0 : Option Addr) (l0 c0 : Nat) (z0 : List Int) (w : World) (hc : Cur w C a0 l0 c0 z0) :
  Calls Tryz.prog 100 #[.pointer (some ⟨C, 0, none⟩)] w fun e w' => ∃ y : Int, e = .returned (.int .i64 y) ∧ (11 ≤ y ∧ y ≤ 14) ∧ Went w w' C a0 l0 c0 z0 := by
 go_enter Tryz.func100, Tryz.ntmps100
 go_wp2_with fail
 refine (pick_any C a0 l0 c0 z0 [11, 12, 13, 14] _ _ w hc rfl rfl (by simp) (by simp)).mono ?_
 rintro e w2 ⟨y, hy, rfl, went2⟩
 have HY : Hid (11 ≤ y ∧ y ≤ 14) := hide (by simp only [List.mem_cons, List.not_mem_nil, or_false] at hy; omega)
 clear hy
 go_wp2
 go_ret
 exact ⟨_, rfl, HY.out, went2⟩

set_option maxRecDepth 100000 in
set_option maxHeartbeats 1000000 in
theorem l6Draw_good (C : Nat) (a0 : Option Addr) (l0 c0 : Nat) (z0 : List Int) (w : World) (hc : Cur w C a0 l0 c0 z0) :
  Calls Tryz.prog 38 #[.pointer (some ⟨C, 0, none⟩)] w fun e w' => GoodF w w' C a0 l0 c0 z0 e := by
 have hlt := hc.lt
 have q0 := below_one w (.cells #[.int .i64 0, .int .i64 0, .int .i64 0, .slice none 0 0] 33)
 have wn0 := Went.start hc q0
 have hk0 := block_last w (.cells #[.int .i64 0, .int .i64 0, .int .i64 0, .slice none 0 0] 33)
 go_enter Tryz.func38, Tryz.ntmps38
 go_wp2_with fail
 refine (pick_any C a0 l0 c0 z0 [0, 11, 12, 13, 14, 11, 12] (w.heap.size + 1) 7 (w.alloc (.cells #[.int .i64 0, .int .i64 0, .int .i64 0, .slice none 0 0] 33)) wn0.cur (by simp) rfl (by omega) (by omega)).mono ?_
 rintro e w1 ⟨K, hK, rfl, went1⟩
 have HK : Hid (0 ≤ K ∧ K ≤ 14) := hide (by simp only [List.mem_cons, List.not_mem_nil, or_false] at hK; omega)
 clear hK
 have wn1 := wn0.trans went1
 have k1 := kept_grown hk0 went1.grown (fun j hj => by cases hj; omega)
 clear wn0 went1 hk0
 go_wp2_with fail
 refine (l6Mac_good C a0 l0 c0 z0 _ wn1.cur).mono ?_
 rintro e w2 ⟨N, rfl, hN, went2⟩
 have HN := hide hN
 clear hN
 have wn2 := wn1.trans went2
 have k2 := kept_grown k1 went2.grown (fun j hj => by cases hj; omega)
 clear wn1 went2 k1
 go_wp2_with fail
 refine (pick_any C a0 l0 c0 z0 [0, 0, 0, 1, 2, 3] _ _ w2 wn2.cur rfl rfl (by simp) (by simp)).mono ?_
 rintro e w3 ⟨S, hS, rfl, went3⟩
 have HS : Hid (0 ≤ S ∧ S ≤ 3) := hide (by simp only [List.mem_cons, List.not_mem_nil, or_false] at hS; omega)
 clear hS
 have wn3 := wn2.trans went3
 have k3 := kept_grown k2 went3.grown (fun j hj => by cases hj; omega)
 clear wn2 went3 k2
 go_wp2_with fail
 refine (some_any C a0 l0 c0 z0 _ wn3.cur).mono ?_
 rintro e w4 ⟨ao, n, cap, zs, rfl, hn, hby, hz, how4, went4⟩
 have wn4 := wn3.trans went4
 have k4 := kept_grown k3 went4.grown (fun j hj => by cases hj; omega)
 obtain ⟨⟨x0, x1, x2, x3⟩, f0, f1, f2, f3⟩ := cells4 k4
 have m3 : w.heap.size < w3.heap.size := (Array.getElem?_eq_some_iff.1 k3).1
 have HO := hide how4
 clear wn3 went4 k3 how4 k4
 go_wp2
 have o9 := own_set4 (HO.out) (g := w.heap.size) (by omega) (.int .i64 K) (.int .i64 N) (.int .i64 S) (.slice ao n cap)
 exact bodyPost_ret (v := .agg #[.int .i64 K, .int .i64 N, .int .i64 S, .slice ao n cap]) (by simp [results, Tryz.results38, go_sem, *]) rfl ⟨K, N, S, ao, n, cap, zs, rfl, HK.out, HN.out, HS.out, by omega, hz, hby, own_lt o9 (by omega), wn4.madeAt (below_set4 (Below.refl _ _) (Nat.le_refl w.heap.size) _ _ _ _) hlt (Nat.le_refl _)⟩

theorem byB_inj {a b : List Int} (ha : Byt a) (hb : Byt b) (h : (byB a).toList = (byB b).toList) : a = b := by
 rw [ByteArray.toList_eq, ByteArray.toList_eq] at h
 have e : strB (byB a) = strB (byB b) := by unfold strB; rw [h]
 rwa [strB_byB ha, strB_byB hb] at e

theorem byB_same {a b : List Int} (ha : Byt a) (hb : Byt b) : ((byB a).toList == (byB b).toList) = decide (a = b) := by
 by_cases h : a = b
 ·subst h; simp
 ·rw [decide_eq_false h]
  rw [beq_eq_false_iff_ne]
  exact fun e => h (byB_inj ha hb e)

set_option maxRecDepth 100000 in
set_option maxHeartbeats 400000 in
theorem bytesEqual_any (a1 : Option Addr) (l1 c1 : Nat) (z1 : List Int) (a2 : Option Addr) (l2 c2 : Nat) (z2 : List Int) (w : World) (h1 : Row w a1 l1 c1 z1) (h2 : Row w a2 l2 c2 z2) :
  Calls Tryz.prog 126 #[.slice a1 l1 c1, .slice a2 l2 c2] w fun e w' => e = .returned (.bool (decide (z1 = z2))) ∧ w' = w := by
 have e1 := conv_row 9 w a1 l1 c1 z1 h1 Tryz.underlying9
 have e2 := conv_row 9 w a2 l2 c2 z2 h2 Tryz.underlying9
 go_enter Tryz.func126, Tryz.ntmps126
 go_wp2
 go_ret
 exact ⟨ret_bool (byB_same h1.byte h2.byte), rfl⟩

set_option maxRecDepth 100000 in
set_option maxHeartbeats 1000000 in
theorem implSameFrame_any (K N S : Int) (a1 : Option Addr) (l1 c1 : Nat) (z1 : List Int) (K' N' S' : Int) (a2 : Option Addr) (l2 c2 : Nat) (z2 : List Int) (w : World) (h1 : Row w a1 l1 c1 z1) (h2 : Row w a2 l2 c2 z2) :
  Calls Tryz.prog 64 #[.agg #[.int .i64 K, .int .i64 N, .int .i64 S, .slice a1 l1 c1], .agg #[.int .i64 K', .int .i64 N', .int .i64 S', .slice a2 l2 c2]] w fun e w' => e = .returned (.bool (sameF K N S z1 K' N' S' z2)) ∧ Below w.heap.size w w' := by
 generalize hP : sameF K N S z1 K' N' S' z2 = P
 have HP := hide hP
 clear hP
 cases t1 : (K == K')
 ·go_enter Tryz.func64, Tryz.ntmps64
  go_wp2
  go_ret
  exact ⟨ret_bool (by rw [← HP.out]; simp [sameF, t1]), below_two _ _ _⟩
 cases t2 : (N == N')
 ·go_enter Tryz.func64, Tryz.ntmps64
  go_wp2
  go_ret
  exact ⟨ret_bool (by rw [← HP.out]; simp [sameF, t2]), below_two _ _ _⟩
 cases t3 : (S == S')
 ·go_enter Tryz.func64, Tryz.ntmps64
  go_wp2
  go_ret
  exact ⟨ret_bool (by rw [← HP.out]; simp [sameF, t3]), below_two _ _ _⟩
 go_enter Tryz.func64, Tryz.ntmps64
 go_wp2_with fail
 refine (bytesEqual_any a1 l1 c1 z1 a2 l2 c2 z2 _ (h1.below (below_two _ _ _)) (h2.below (below_two _ _ _))).mono ?_
 rintro e w1 ⟨rfl, rfl⟩
 go_wp2
 go_ret
 exact ⟨ret_bool (by rw [← HP.out]; simp [sameF, t1, t2, t3]), below_two _ _ _⟩

theorem kept_cellO {w W : World} {g : Addr} {u : Value} (h : w.cell? g = some u) (hb : Below w.heap.size w W) : W.cell? g = some u := (hb.cell (block_lt h)).trans h

set_option maxRecDepth 100000 in
set_option maxHeartbeats 4000000 in
theorem sameOuts_same (a1 : Option Addr) (n1 c1 : Nat) (l1 : List OI) (a2 : Option Addr) (n2 c2 : Nat) (l2 : List OI) (w : World) (h1 : GRow outF w a1 n1 c1 l1) (r1 : ∀ x ∈ l1, Row w x.a x.n x.c x.z) (h2 : GRow outF w a2 n2 c2 l2) (r2 : ∀ x ∈ l2, Row w x.a x.n x.c x.z) (he : l1.map OI.v = l2.map OI.v) :
  Calls Tryz.prog 11 #[.slice a1 n1 c1, .slice a2 n2 c2] w fun e w' => e = .returned (.bool true) ∧ Below w.heap.size w w' := by
 have hl : l1.length = l2.length := by have := congrArg List.length he; simpa using this
 have hn : n1 = n2 := by have := h1.size; have := h2.size; omega
 subst hn
 have htop := h1.top
 have hle := h1.le
 unfold maxLen at htop
 go_enter Tryz.func11, Tryz.ntmps11
 go_wp2
 go_loopw [5] (fun i wr => ∃ j : Nat, j ≤ n1 ∧ i = .int .i64 j ∧ Below w.heap.size w wr) (fun i _ => n1 - (intOf i).toNat)
 case atStart => exact ⟨0, Nat.zero_le _, rfl, Below.refl _ _⟩
 case round =>
  obtain ⟨j, hj, rfl, hb⟩ := hrel
  by_cases hlt : j < n1
  ·obtain ⟨x, b1, o1, hx, rfl, p0, p1, p2, p3, p4⟩ := out_at (h1.below hb) j hlt
   obtain ⟨y, b2, o2, hy, rfl, q0, q1, q2, q3, q4⟩ := out_at (h2.below hb) j hlt
   have ev := ov_get he hx hy
   have rx := (r1 x (List.mem_of_getElem? hx)).below hb
   have ry := (r2 y (List.mem_of_getElem? hy)).below hb
   unfold OI.v at ev
   simp only [OD.mk.injEq] at ev
   obtain ⟨e1, e2, e3, e4, e5⟩ := ev
   rw [← e1] at q0
   rw [← e2] at q1
   rw [← e3] at q2
   rw [← e4] at q3
   rw [← e5] at ry
   have HB := hide hb
   clear e1 e2 e3 e4 e5 hx hy hb
   have i1 : (0 : Int) ≤ (j : Int) := by omega
   have i2 : (j : Int) < (n1 : Int) := by omega
   have CX : Hid (∀ W, Below wr.heap.size wr W → (fun W => (W.cell? ⟨b1, o1 + j * 5, none⟩ = some (.int .i64 x.p) ∧ W.cell? ⟨b1, o1 + j * 5 + 1, none⟩ = some (.int .i64 x.d) ∧ W.cell? ⟨b1, o1 + j * 5 + 2, none⟩ = some (.int .i64 x.s) ∧ W.cell? ⟨b1, o1 + j * 5 + 3, none⟩ = some (.int .i64 x.t) ∧ W.cell? ⟨b1, o1 + j * 5 + 4, none⟩ = some (.slice x.a x.n x.c)) ∧ (W.cell? ⟨b2, o2 + j * 5, none⟩ = some (.int .i64 x.p) ∧ W.cell? ⟨b2, o2 + j * 5 + 1, none⟩ = some (.int .i64 x.d) ∧ W.cell? ⟨b2, o2 + j * 5 + 2, none⟩ = some (.int .i64 x.s) ∧ W.cell? ⟨b2, o2 + j * 5 + 3, none⟩ = some (.int .i64 x.t) ∧ W.cell? ⟨b2, o2 + j * 5 + 4, none⟩ = some (.slice y.a y.n y.c))) W) := hide (fun W h => ⟨⟨kept_cellO p0 h, kept_cellO p1 h, kept_cellO p2 h, kept_cellO p3 h, kept_cellO p4 h⟩, kept_cellO q0 h, kept_cellO q1 h, kept_cellO q2 h, kept_cellO q3 h, kept_cellO q4 h⟩)
   have vv : Below wr.heap.size wr wr.drew := gr_drew (Below.refl _ _)
   go_wp2_with fail
   clear p0 p1 p2 p3 p4 q0 q1 q2 q3 q4
   refine wp_region_held_drew (S := (fun W => (W.cell? ⟨b1, o1 + j * 5, none⟩ = some (.int .i64 x.p) ∧ W.cell? ⟨b1, o1 + j * 5 + 1, none⟩ = some (.int .i64 x.d) ∧ W.cell? ⟨b1, o1 + j * 5 + 2, none⟩ = some (.int .i64 x.s) ∧ W.cell? ⟨b1, o1 + j * 5 + 3, none⟩ = some (.int .i64 x.t) ∧ W.cell? ⟨b1, o1 + j * 5 + 4, none⟩ = some (.slice x.a x.n x.c)) ∧ (W.cell? ⟨b2, o2 + j * 5, none⟩ = some (.int .i64 x.p) ∧ W.cell? ⟨b2, o2 + j * 5 + 1, none⟩ = some (.int .i64 x.d) ∧ W.cell? ⟨b2, o2 + j * 5 + 2, none⟩ = some (.int .i64 x.s) ∧ W.cell? ⟨b2, o2 + j * 5 + 3, none⟩ = some (.int .i64 x.t) ∧ W.cell? ⟨b2, o2 + j * 5 + 4, none⟩ = some (.slice y.a y.n y.c)))) (by kernel_rfl) (CX.out _ vv) (fun hHeld => ?_)
   refine kK 0 ⟨some 17, .move (.tmp 0), 36, "laws.go:85", #[], none⟩ ?_
   refine kK 1 ⟨some 18, .move (.tmp 5), 3, "laws.go:85", #[], none⟩ ?_
   refine kK 2 ⟨some 19, .indexAddr 36 (.tmp 17) (.tmp 18), 0, "laws.go:85", #[⟨0, .data⟩, ⟨1, .data⟩], none⟩ ?_
   refine kK 3 ⟨some 20, .fieldAddr 48 (.tmp 19) 0, 0, "laws.go:85", #[⟨2, .data⟩], none⟩ ?_
   refine kK 4 ⟨some 21, .load 3 (.tmp 20), 3, "laws.go:85", #[⟨3, .data⟩], none⟩ ?_
   refine kK 5 ⟨some 22, .move (.tmp 1), 36, "laws.go:85", #[], none⟩ ?_
   refine kK 6 ⟨some 23, .move (.tmp 5), 3, "laws.go:85", #[], none⟩ ?_
   refine kK 7 ⟨some 24, .indexAddr 36 (.tmp 22) (.tmp 23), 0, "laws.go:85", #[⟨5, .data⟩, ⟨6, .data⟩], none⟩ ?_
   refine kK 8 ⟨some 25, .fieldAddr 48 (.tmp 24) 0, 0, "laws.go:85", #[⟨7, .data⟩], none⟩ ?_
   refine kK 9 ⟨some 26, .load 3 (.tmp 25), 3, "laws.go:85", #[⟨8, .data⟩], none⟩ ?_
   refine kV 10 ⟨some 27, .binOp .neq 3 (.tmp 21) (.tmp 26) 3, 4, "laws.go:85", #[⟨4, .data⟩, ⟨9, .data⟩], none⟩ (.bool false) ?_
   refine kK 11 ⟨some 28, .move (.tmp 27), 4, "laws.go:85", #[⟨10, .data⟩], none⟩ ?_
   refine kK 12 ⟨some 29, .move (.tmp 0), 36, "laws.go:85", #[⟨11, .guard⟩], some (11, false)⟩ ?_
   refine kK 13 ⟨some 30, .move (.tmp 5), 3, "laws.go:85", #[⟨11, .guard⟩], some (11, false)⟩ ?_
   refine kK 14 ⟨some 31, .indexAddr 36 (.tmp 29) (.tmp 30), 0, "laws.go:85", #[⟨12, .data⟩, ⟨13, .data⟩, ⟨11, .guard⟩], some (11, false)⟩ ?_
   refine kK 15 ⟨some 32, .fieldAddr 48 (.tmp 31) 1, 0, "laws.go:85", #[⟨14, .data⟩, ⟨11, .guard⟩], some (11, false)⟩ ?_
   refine kK 16 ⟨some 33, .load 33 (.tmp 32), 33, "laws.go:85", #[⟨15, .data⟩, ⟨11, .guard⟩], some (11, false)⟩ ?_
   refine kK 17 ⟨some 34, .move (.tmp 1), 36, "laws.go:85", #[⟨11, .guard⟩], some (11, false)⟩ ?_
   refine kK 18 ⟨some 35, .move (.tmp 5), 3, "laws.go:85", #[⟨11, .guard⟩], some (11, false)⟩ ?_
   refine kK 19 ⟨some 36, .indexAddr 36 (.tmp 34) (.tmp 35), 0, "laws.go:85", #[⟨17, .data⟩, ⟨18, .data⟩, ⟨11, .guard⟩], some (11, false)⟩ ?_
   refine kK 20 ⟨some 37, .fieldAddr 48 (.tmp 36) 1, 0, "laws.go:85", #[⟨19, .data⟩, ⟨11, .guard⟩], some (11, false)⟩ ?_
   refine kK 21 ⟨some 38, .load 33 (.tmp 37), 33, "laws.go:85", #[⟨20, .data⟩, ⟨11, .guard⟩], some (11, false)⟩ ?_
   refine tR [22] ?_
   refine AllReadyH.cons (o := ⟨some 39, .call ⟨.value (.func 64), #[.tmp 33, .tmp 38], #[33, 33]⟩, 4, "laws.go:85", #[⟨16, .data⟩, ⟨21, .data⟩, ⟨11, .chain⟩, ⟨11, .guard⟩], some (11, false)⟩) rfl (fun K hK => ?_) ?_
   ·go_simp
    refine (implSameFrame_any x.d x.s x.t x.a x.n x.c x.z x.d x.s x.t y.a y.n y.c x.z _ (rx.below vv) (ry.below vv)).mono ?_
    rw [sameF_self]
    rintro e w1 ⟨rfl, hb1⟩
    have vv := gr_trans vv hb1
    clear hb1
    go_wp2_with fail
    refine hK.out _ _ (CX.out _ vv) (fun hHeld => ?_)
    clear hK K
    try simp only [Act.put, lA, lB, lC]
    refine kK 23 ⟨some 40, .unOp .not 4 (.tmp 39), 4, "laws.go:85", #[⟨22, .data⟩, ⟨11, .guard⟩], some (11, false)⟩ ?_
    refine kK 24 ⟨some 41, .pick (.tmp 28) (.const (.bool true)) (.tmp 40), 4, "laws.go:85", #[⟨11, .data⟩, ⟨23, .data⟩], none⟩ ?_
    refine wpAnyH_done (by kernel_rfl) ?_ _
    have HB1 := hide (gr_trans HB.out vv)
    clear hHeld vv rx ry
    go_wp2
    go_roundw
    case rel => exact ⟨j + 1, by omega, by go_num, HB1.out⟩
    case measure => simp [intOf]; omega
   exact AllReadyH.nil
  ·go_wp2
   go_ret
   exact ⟨rfl, hb⟩

set_option maxRecDepth 100000 in
set_option maxHeartbeats 400000 in
theorem same_any (a1 : Option Addr) (l1 c1 : Nat) (z1 : List Int) (a2 : Option Addr) (l2 c2 : Nat) (z2 : List Int) (w : World) (h1 : Row w a1 l1 c1 z1) (h2 : Row w a2 l2 c2 z2) :
  Calls Tryz.prog 19 #[.slice a1 l1 c1, .slice a2 l2 c2] w fun e w' => e = .returned (.bool (decide (z1 = z2))) ∧ ∃ n, w' = w.drewN n := by
 have m1 := h1.top; have m2 := h2.top; have s1 := h1.size; have s2 := h2.size; have e1 := h1.le; have e2 := h2.le
 unfold maxLen at m1 m2
 by_cases hl : l1 = l2
 ·subst hl
  by_cases h0 : l1 = 0
  ·subst h0
   have hz : z1 = z2 := by rw [List.eq_nil_of_length_eq_zero s1, List.eq_nil_of_length_eq_zero s2]
   go_enter Tryz.func19, Tryz.ntmps19
   go_wp2
   go_loop [5] (fun i => i = .int .i64 0) (fun _ => 0)
   case atStart => rfl
   case round =>
    subst hrel
    go_wp2
    go_ret
    exact ⟨by simp, 0, rfl⟩
  ·rcases h1.cell with h | ⟨b1, o1, rfl, g1⟩
   ·exact absurd h h0
   rcases h2.cell with h | ⟨b2, o2, rfl, g2⟩
   ·exact absurd h h0
   clear h1 h2
   have G1 : Hid (∀ i, i < l1 → w.cell? ⟨b1, o1 + i, none⟩ = some (.int .u8 (z1.getD i 0))) := g1
   have G2 : Hid (∀ i, i < l1 → w.cell? ⟨b2, o2 + i, none⟩ = some (.int .u8 (z2.getD i 0))) := g2
   clear g1 g2
   go_enter Tryz.func19, Tryz.ntmps19
   go_wp2
   go_loopw [5] (fun i wr => ∃ k : Nat, k ≤ l1 ∧ i = .int .i64 k ∧ z1.take k = z2.take k ∧ ∃ n, wr = w.drewN n) (fun i _ => l1 - (intOf i).toNat)
   case atStart => exact ⟨0, Nat.zero_le _, rfl, rfl, 0, rfl⟩
   case round =>
    obtain ⟨k, hk, rfl, ht, n, rfl⟩ := hrel
    have HT : Hid (z1.take k = z2.take k) := ht
    clear ht
    by_cases hlt : k < l1
    ·have c1 := G1.out k hlt
     have c2 := G2.out k hlt
     generalize hx : z1.getD k 0 = x at c1
     generalize hy : z2.getD k 0 = y at c2
     have HX : Hid (z1.getD k 0 = x) := hx
     have HY : Hid (z2.getD k 0 = y) := hy
     clear hx hy
     by_cases hq : x = y
     ·subst hq
      go_wp2
      go_quiet (fail)
      go_wp2
      go_roundw
      case rel => exact ⟨k + 1, by omega, by go_num, by rw [take_succ_getD _ _ (by omega), take_succ_getD _ _ (by omega), HT.out, HX.out, HY.out], _, rfl⟩
      case measure => simp [intOf]; omega
     ·have hne : (x != y) = true := by simp [hq]
      go_wp2
      go_quiet (fail)
      go_wp2
      go_ret
      exact ⟨ret_bool (decide_eq_false (ne_at k (by rw [HX.out, HY.out]; exact hq))).symm, _, World.drewN_drewN _ _ _⟩
    ·go_wp2
     go_ret
     have hk' : k = l1 := by omega
     exact ⟨ret_bool (decide_eq_true (eq_of_takes (by omega) (by rw [s1, ← hk']; exact HT.out))).symm, _, rfl⟩
 ·have hne : ((l1 : Int) != (l2 : Int)) = true := by simp; omega
  have hz : ¬ z1 = z2 := by intro e; rw [e] at s1; omega
  go_enter Tryz.func19, Tryz.ntmps19
  go_wp2
  go_ret
  exact ⟨ret_bool (decide_eq_false hz).symm, 0, rfl⟩

theorem big_no (a0 : Option Addr) (l0 c0 : Nat) (w : World) (h : ¬ 1048576 < l0) : Calls Tryz.prog 6 #[.slice a0 l0 c0] w fun e w' => e = .returned (.bool false) ∧ w' = w := by
 have i1 : ¬ (1048576 : Int) < l0 := by omega
 go_enter Tryz.func6, Tryz.ntmps6
 go_wp2
 go_ret
 exact ⟨rfl, rfl⟩

theorem Row.take {w : World} {ao : Option Addr} {n c : Nat} {zs : List Int} (h : Row w ao n c zs) (k : Nat) (hk : k ≤ n) : Row w ao k c (zs.take k) where
 size := by have := h.size; simp; omega
 le := by have := h.le; omega
 top := h.top
 nil := h.nil
 byte := fun z hz => h.byte z (List.mem_of_mem_take hz)
 cell := by
  rcases h.cell with h0 | ⟨b, off, ha, hc⟩
  ·exact .inl (by omega)
  ·exact .inr ⟨b, off, ha, fun i hi => by rw [hc i (by omega)]; simp [List.getD_eq_getElem?_getD, hi]⟩

def sameVd (x y : VD) : Bool := (x.r == y.r) && ((x.c == y.c) && ((x.h == y.h) && ((x.b == y.b) && (x.p == y.p))))
def samePt (x y : PT) : Bool := (x.up == y.up) && ((x.k == y.k) && ((x.has == y.has) && sameVd x.v y.v))
def sameFe (x y : FE) : Bool := (x.t == y.t) && ((x.m == y.m) && ((x.p == y.p) && ((x.a == y.a) && (x.s == y.s))))
def sameVr (x y : VR) : Bool := (x.i == y.i) && ((x.m == y.m) && (x.b == y.b))

theorem samePt_iff (x y : PT) : samePt x y = true ↔ x = y := by
 obtain ⟨u, k, h, ⟨r, c, hh, b, p⟩⟩ := x
 obtain ⟨u', k', h', ⟨r', c', hh', b', p'⟩⟩ := y
 simp [samePt, sameVd]

theorem sameFe_iff (x y : FE) : sameFe x y = true ↔ x = y := by
 obtain ⟨t, m, p, a, s⟩ := x
 obtain ⟨t', m', p', a', s'⟩ := y
 simp [sameFe]

theorem sameVr_iff (x y : VR) : sameVr x y = true ↔ x = y := by
 obtain ⟨i, m, b⟩ := x
 obtain ⟨i', m', b'⟩ := y
 simp [sameVr]

theorem fent_neq2 (x y : FE) (w : World) : (binOp .neq 97 (.agg #[.int .i64 x.t, .int .i64 x.m, .int .i64 x.p, .int .i64 x.a, .bool x.s]) (.agg #[.int .i64 y.t, .int .i64 y.m, .int .i64 y.p, .int .i64 y.a, .bool y.s])).run Tryz.prog w = .ok (.bool (!sameFe x y)) w := by
 have u3 := Tryz.underlying3
 have a3 := Tryz.isAgg3
 have z3 := Tryz.sizeOf3
 have u4 := Tryz.underlying4
 have a4 := Tryz.isAgg4
 have z4 := Tryz.sizeOf4
 have hS : Tryz.prog.underlying 97 = some (.struct (Tryz.prog.fieldsOf 97)) := by kernel_rfl
 have hp : Tryz.prog.stoodInHeld 97 = false := by kernel_rfl
 rw [run_neq_struct, show (10000 : Nat) = 9999 + 1 from rfl, run_equalIn_agg w 9999 97 _ _ hS hp]
 simp only [Program.fieldsOf, Tryz.underlying97]
 unfold sameFe
 go_simp
 by_cases h1 : x.t = y.t <;> by_cases h2 : x.m = y.m <;> by_cases h3 : x.p = y.p <;> by_cases h4 : x.a = y.a <;> by_cases h5 : x.s = y.s <;> simp [h1, h2, h3, h4, h5]

theorem vrow_neq2 (x y : VR) (w : World) : (binOp .neq 100 (.agg #[.int .i64 x.i, .int .i64 x.m, .int .i64 x.b]) (.agg #[.int .i64 y.i, .int .i64 y.m, .int .i64 y.b])).run Tryz.prog w = .ok (.bool (!sameVr x y)) w := by
 have u3 := Tryz.underlying3
 have a3 := Tryz.isAgg3
 have z3 := Tryz.sizeOf3
 have hS : Tryz.prog.underlying 100 = some (.struct (Tryz.prog.fieldsOf 100)) := by kernel_rfl
 have hp : Tryz.prog.stoodInHeld 100 = false := by kernel_rfl
 rw [run_neq_struct, show (10000 : Nat) = 9999 + 1 from rfl, run_equalIn_agg w 9999 100 _ _ hS hp]
 simp only [Program.fieldsOf, Tryz.underlying100]
 unfold sameVr
 go_simp
 by_cases h1 : x.i = y.i <;> by_cases h2 : x.m = y.m <;> by_cases h3 : x.b = y.b <;> simp [h1, h2, h3]

theorem pt_neq2 (x y : PT) (w : World) : (binOp .neq 95 (.agg #[.bool x.up, .int .i64 x.k, .bool x.has, .int .i64 x.v.r, .int .i64 x.v.c, .int .i64 x.v.h, .int .i64 x.v.b, .int .i64 x.v.p]) (.agg #[.bool y.up, .int .i64 y.k, .bool y.has, .int .i64 y.v.r, .int .i64 y.v.c, .int .i64 y.v.h, .int .i64 y.v.b, .int .i64 y.v.p])).run Tryz.prog w = .ok (.bool (!samePt x y)) w := by
 have u3 := Tryz.underlying3
 have a3 := Tryz.isAgg3
 have z3 := Tryz.sizeOf3
 have u4 := Tryz.underlying4
 have a4 := Tryz.isAgg4
 have z4 := Tryz.sizeOf4
 have u5 := Tryz.underlying93
 have a5 := Tryz.isAgg93
 have z5 := Tryz.sizeOf93
 have hS : Tryz.prog.underlying 95 = some (.struct (Tryz.prog.fieldsOf 95)) := by kernel_rfl
 have hp : Tryz.prog.stoodInHeld 95 = false := by kernel_rfl
 have hS5 : Tryz.prog.underlying 93 = some (.struct (Tryz.prog.fieldsOf 93)) := by kernel_rfl
 have hp5 : Tryz.prog.stoodInHeld 93 = false := by kernel_rfl
 have hE : ∀ W, (Op.equalIn 9999 93 (.agg #[.int .i64 x.v.r, .int .i64 x.v.c, .int .i64 x.v.h, .int .i64 x.v.b, .int .i64 x.v.p]) (.agg #[.int .i64 y.v.r, .int .i64 y.v.c, .int .i64 y.v.h, .int .i64 y.v.b, .int .i64 y.v.p])).run Tryz.prog W = .ok (sameVd x.v y.v) W := by
  intro W
  rw [show (9999 : Nat) = 9998 + 1 from rfl, run_equalIn_agg W 9998 93 _ _ hS5 hp5]
  simp only [Program.fieldsOf, Tryz.underlying93]
  unfold sameVd
  clear hS hp hS5 hp5 u4 a4 z4 u5 a5 z5
  go_simp
  by_cases h1 : x.v.r = y.v.r <;> by_cases h2 : x.v.c = y.v.c <;> by_cases h3 : x.v.h = y.v.h <;> by_cases h4 : x.v.b = y.v.b <;> by_cases h5 : x.v.p = y.v.p <;> simp [h1, h2, h3, h4, h5]
 rw [run_neq_struct, show (10000 : Nat) = 9999 + 1 from rfl, run_equalIn_agg w 9999 95 _ _ hS hp]
 simp only [Program.fieldsOf, Tryz.underlying95]
 unfold samePt
 generalize hV : sameVd x.v y.v = V at *
 clear hS hp hS5 hp5 hV
 go_simp
 by_cases h1 : x.up = y.up <;> by_cases h2 : x.k = y.k <;> by_cases h3 : x.has = y.has <;> cases V <;> simp [h1, h2, h3]

set_option maxRecDepth 100000 in
theorem five_eql (a b c d e a' b' c' d' e' : Int) (w : World) : (binOp .eql 102 (.agg #[.int .i64 a, .int .i64 b, .int .i64 c, .int .i64 d, .int .i64 e]) (.agg #[.int .i64 a', .int .i64 b', .int .i64 c', .int .i64 d', .int .i64 e'])).run Tryz.prog w = .ok (.bool ((a == a') && ((b == b') && ((c == c') && ((d == d') && (e == e')))))) w := by
 have u3 := Tryz.underlying3
 have a3 := Tryz.isAgg3
 have z3 := Tryz.sizeOf3
 obtain ⟨i0, hi, -, -, -⟩ := finfo_parts (k := 1) Tryz.infoI64
 have hc : Tryz.prog.cellsOf 3 = 1 := by kernel_rfl
 rw [run_eql_struct, show (10000 : Nat) = 9999 + 1 from rfl, run_equalIn_array w 9999 _ _ Tryz.underlying102 hi, hc]
 simp only [show List.range 5 = [0, 1, 2, 3, 4] from rfl, Op.eqItems]
 go_simp
 by_cases h1 : a = a' <;> by_cases h2 : b = b' <;> by_cases h3 : c = c' <;> by_cases h4 : d = d' <;> by_cases h5 : e = e' <;> simp [h1, h2, h3, h4, h5]

abbrev q383 : Oper := ⟨some 16, .move (.tmp 0), 24, "slices.go:25", #[], none⟩
abbrev q384 : Oper := ⟨some 17, .move (.tmp 5), 3, "slices.go:25", #[], none⟩
abbrev q385 : Oper := ⟨some 18, .indexAddr 24 (.tmp 16) (.tmp 17), 0, "slices.go:25", #[⟨0, .data⟩, ⟨1, .data⟩], none⟩
abbrev q386 : Oper := ⟨some 19, .load 95 (.tmp 18), 95, "slices.go:25", #[⟨2, .data⟩], none⟩
abbrev q387 : Oper := ⟨some 20, .move (.tmp 1), 24, "slices.go:25", #[], none⟩
abbrev q388 : Oper := ⟨some 21, .move (.tmp 5), 3, "slices.go:25", #[], none⟩
abbrev q389 : Oper := ⟨some 22, .indexAddr 24 (.tmp 20) (.tmp 21), 0, "slices.go:25", #[⟨4, .data⟩, ⟨5, .data⟩], none⟩
abbrev q390 : Oper := ⟨some 23, .load 95 (.tmp 22), 95, "slices.go:25", #[⟨6, .data⟩], none⟩
abbrev q391 : Oper := ⟨some 24, .binOp .neq 95 (.tmp 19) (.tmp 23) 95, 4, "slices.go:25", #[⟨3, .data⟩, ⟨7, .data⟩], none⟩
abbrev q392 : Oper := ⟨some 16, .move (.tmp 0), 25, "slices.go:25", #[], none⟩
abbrev q393 : Oper := ⟨some 18, .indexAddr 25 (.tmp 16) (.tmp 17), 0, "slices.go:25", #[⟨0, .data⟩, ⟨1, .data⟩], none⟩
abbrev q394 : Oper := ⟨some 19, .load 97 (.tmp 18), 97, "slices.go:25", #[⟨2, .data⟩], none⟩
abbrev q395 : Oper := ⟨some 20, .move (.tmp 1), 25, "slices.go:25", #[], none⟩
abbrev q396 : Oper := ⟨some 22, .indexAddr 25 (.tmp 20) (.tmp 21), 0, "slices.go:25", #[⟨4, .data⟩, ⟨5, .data⟩], none⟩
abbrev q397 : Oper := ⟨some 23, .load 97 (.tmp 22), 97, "slices.go:25", #[⟨6, .data⟩], none⟩
abbrev q398 : Oper := ⟨some 24, .binOp .neq 97 (.tmp 19) (.tmp 23) 97, 4, "slices.go:25", #[⟨3, .data⟩, ⟨7, .data⟩], none⟩
abbrev q399 : Oper := ⟨some 16, .move (.tmp 0), 26, "slices.go:25", #[], none⟩
abbrev q400 : Oper := ⟨some 18, .indexAddr 26 (.tmp 16) (.tmp 17), 0, "slices.go:25", #[⟨0, .data⟩, ⟨1, .data⟩], none⟩
abbrev q401 : Oper := ⟨some 19, .load 100 (.tmp 18), 100, "slices.go:25", #[⟨2, .data⟩], none⟩
abbrev q402 : Oper := ⟨some 20, .move (.tmp 1), 26, "slices.go:25", #[], none⟩
abbrev q403 : Oper := ⟨some 22, .indexAddr 26 (.tmp 20) (.tmp 21), 0, "slices.go:25", #[⟨4, .data⟩, ⟨5, .data⟩], none⟩
abbrev q404 : Oper := ⟨some 23, .load 100 (.tmp 22), 100, "slices.go:25", #[⟨6, .data⟩], none⟩
abbrev q405 : Oper := ⟨some 24, .binOp .neq 100 (.tmp 19) (.tmp 23) 100, 4, "slices.go:25", #[⟨3, .data⟩, ⟨7, .data⟩], none⟩

set_option maxRecDepth 100000 in
set_option maxHeartbeats 4000000 in
theorem eqPt_any (a : Option Addr) (n c : Nat) (l : List PT) (a2 : Option Addr) (n2 c2 : Nat) (l2 : List PT) (w : World) (h : GRow ptF w a n c l) (h2 : GRow ptF w a2 n2 c2 l2) :
  Calls Tryz.prog 59 #[.slice a n c, .slice a2 n2 c2] w fun e w' => ∃ q : Bool, e = .returned (.bool q) ∧ (q = true ↔ l = l2) ∧ Below w.heap.size w w' := by
 have hle := h.le
 have htop := h.top
 have hle2 := h2.le
 have htop2 := h2.top
 unfold maxLen at htop htop2
 have hsz := h.size
 have hsz2 := h2.size
 by_cases hnn : n = n2
 ·subst hnn
  go_enter Tryz.func59, Tryz.ntmps59
  go_wp2
  go_loopw [13] (fun i wr => ∃ k : Nat, k ≤ n ∧ i = .int .i64 k ∧ (∀ j : Nat, j < k → l[j]? = l2[j]?) ∧ Below w.heap.size w wr) (fun i _ => n - (intOf i).toNat)
  case atStart => exact ⟨0, Nat.zero_le _, rfl, fun j hj => by omega, Below.refl _ _⟩
  case round =>
   obtain ⟨k, hk, rfl, hall, hb⟩ := hrel
   by_cases hlt : k < n
   ·obtain ⟨x, b, off, hx, rfl, c0, c1, c2, c3, c4, c5, c6, c7⟩ := pt_at (h.below hb) k hlt
    obtain ⟨y, b2, off2, hy, rfl, d0, d1, d2, d3, d4, d5, d6, d7⟩ := pt_at (h2.below hb) k hlt
    have i1 : (0 : Int) ≤ (k : Int) := by omega
    have i2 : (k : Int) < (n : Int) := by omega
    cases hs : samePt x y
    ·have HN : Hid (¬ l = l2) := hide (by
      intro e
      rw [e, hy] at hx
      cases hx
      rw [(samePt_iff x x).2 rfl] at hs
      cases hs)
     have hne : ∀ W, (binOp .neq 95 (.agg #[.bool x.up, .int .i64 x.k, .bool x.has, .int .i64 x.v.r, .int .i64 x.v.c, .int .i64 x.v.h, .int .i64 x.v.b, .int .i64 x.v.p]) (.agg #[.bool y.up, .int .i64 y.k, .bool y.has, .int .i64 y.v.r, .int .i64 y.v.c, .int .i64 y.v.h, .int .i64 y.v.b, .int .i64 y.v.p])).run Tryz.prog W = .ok (.bool true) W := fun W => by rw [pt_neq2, hs]; rfl
     have hgd : Tryz.prog.eqGuardType Tryz.prog.depth 95 = false := by kernel_rfl
     have HS : (fun W => (W.cell? ⟨b, off + k * 8, none⟩ = some (.bool x.up) ∧ W.cell? ⟨b, off + k * 8 + 1, none⟩ = some (.int .i64 x.k) ∧ W.cell? ⟨b, off + k * 8 + 2, none⟩ = some (.bool x.has) ∧ W.cell? ⟨b, off + k * 8 + 3, none⟩ = some (.int .i64 x.v.r) ∧ W.cell? ⟨b, off + k * 8 + 4, none⟩ = some (.int .i64 x.v.c) ∧ W.cell? ⟨b, off + k * 8 + 5, none⟩ = some (.int .i64 x.v.h) ∧ W.cell? ⟨b, off + k * 8 + 6, none⟩ = some (.int .i64 x.v.b) ∧ W.cell? ⟨b, off + k * 8 + 7, none⟩ = some (.int .i64 x.v.p)) ∧ (W.cell? ⟨b2, off2 + k * 8, none⟩ = some (.bool y.up) ∧ W.cell? ⟨b2, off2 + k * 8 + 1, none⟩ = some (.int .i64 y.k) ∧ W.cell? ⟨b2, off2 + k * 8 + 2, none⟩ = some (.bool y.has) ∧ W.cell? ⟨b2, off2 + k * 8 + 3, none⟩ = some (.int .i64 y.v.r) ∧ W.cell? ⟨b2, off2 + k * 8 + 4, none⟩ = some (.int .i64 y.v.c) ∧ W.cell? ⟨b2, off2 + k * 8 + 5, none⟩ = some (.int .i64 y.v.h) ∧ W.cell? ⟨b2, off2 + k * 8 + 6, none⟩ = some (.int .i64 y.v.b) ∧ W.cell? ⟨b2, off2 + k * 8 + 7, none⟩ = some (.int .i64 y.v.p))) wr.drew := ⟨⟨c0, c1, c2, c3, c4, c5, c6, c7⟩, d0, d1, d2, d3, d4, d5, d6, d7⟩
     clear hs hall hx hy
     go_wp2_with fail
     refine wp_region_held_drew (S := (fun W => (W.cell? ⟨b, off + k * 8, none⟩ = some (.bool x.up) ∧ W.cell? ⟨b, off + k * 8 + 1, none⟩ = some (.int .i64 x.k) ∧ W.cell? ⟨b, off + k * 8 + 2, none⟩ = some (.bool x.has) ∧ W.cell? ⟨b, off + k * 8 + 3, none⟩ = some (.int .i64 x.v.r) ∧ W.cell? ⟨b, off + k * 8 + 4, none⟩ = some (.int .i64 x.v.c) ∧ W.cell? ⟨b, off + k * 8 + 5, none⟩ = some (.int .i64 x.v.h) ∧ W.cell? ⟨b, off + k * 8 + 6, none⟩ = some (.int .i64 x.v.b) ∧ W.cell? ⟨b, off + k * 8 + 7, none⟩ = some (.int .i64 x.v.p)) ∧ (W.cell? ⟨b2, off2 + k * 8, none⟩ = some (.bool y.up) ∧ W.cell? ⟨b2, off2 + k * 8 + 1, none⟩ = some (.int .i64 y.k) ∧ W.cell? ⟨b2, off2 + k * 8 + 2, none⟩ = some (.bool y.has) ∧ W.cell? ⟨b2, off2 + k * 8 + 3, none⟩ = some (.int .i64 y.v.r) ∧ W.cell? ⟨b2, off2 + k * 8 + 4, none⟩ = some (.int .i64 y.v.c) ∧ W.cell? ⟨b2, off2 + k * 8 + 5, none⟩ = some (.int .i64 y.v.h) ∧ W.cell? ⟨b2, off2 + k * 8 + 6, none⟩ = some (.int .i64 y.v.b) ∧ W.cell? ⟨b2, off2 + k * 8 + 7, none⟩ = some (.int .i64 y.v.p)))) (by kernel_rfl) (HS) (fun hHeld => ?_)
     refine kK 0 q383 ?_
     refine kK 1 q384 ?_
     refine kK 2 q385 ?_
     refine kK 3 q386 ?_
     refine kK 4 q387 ?_
     refine kK 5 q388 ?_
     refine kK 6 q389 ?_
     refine kK 7 q390 ?_
     refine kK 8 q391 ?_
     refine wpAnyH_done (by kernel_rfl) ?_ _
     clear HS hne hgd c0 c1 c2 c3 c4 c5 c6 c7 d0 d1 d2 d3 d4 d5 d6 d7
     go_wp2
     go_ret
     exact ⟨false, rfl, ⟨(fun e => by cases e), fun e => absurd e HN.out⟩, gr_drew hb⟩
    ·have HA : Hid (∀ j : Nat, j < k + 1 → l[j]? = l2[j]?) := hide (by
      intro j hj
      by_cases e : j = k
      ·subst e
       rw [hx, hy, (samePt_iff x y).1 hs]
      ·exact hall j (by omega))
     have hne : ∀ W, (binOp .neq 95 (.agg #[.bool x.up, .int .i64 x.k, .bool x.has, .int .i64 x.v.r, .int .i64 x.v.c, .int .i64 x.v.h, .int .i64 x.v.b, .int .i64 x.v.p]) (.agg #[.bool y.up, .int .i64 y.k, .bool y.has, .int .i64 y.v.r, .int .i64 y.v.c, .int .i64 y.v.h, .int .i64 y.v.b, .int .i64 y.v.p])).run Tryz.prog W = .ok (.bool false) W := fun W => by rw [pt_neq2, hs]; rfl
     have hgd : Tryz.prog.eqGuardType Tryz.prog.depth 95 = false := by kernel_rfl
     have HS : (fun W => (W.cell? ⟨b, off + k * 8, none⟩ = some (.bool x.up) ∧ W.cell? ⟨b, off + k * 8 + 1, none⟩ = some (.int .i64 x.k) ∧ W.cell? ⟨b, off + k * 8 + 2, none⟩ = some (.bool x.has) ∧ W.cell? ⟨b, off + k * 8 + 3, none⟩ = some (.int .i64 x.v.r) ∧ W.cell? ⟨b, off + k * 8 + 4, none⟩ = some (.int .i64 x.v.c) ∧ W.cell? ⟨b, off + k * 8 + 5, none⟩ = some (.int .i64 x.v.h) ∧ W.cell? ⟨b, off + k * 8 + 6, none⟩ = some (.int .i64 x.v.b) ∧ W.cell? ⟨b, off + k * 8 + 7, none⟩ = some (.int .i64 x.v.p)) ∧ (W.cell? ⟨b2, off2 + k * 8, none⟩ = some (.bool y.up) ∧ W.cell? ⟨b2, off2 + k * 8 + 1, none⟩ = some (.int .i64 y.k) ∧ W.cell? ⟨b2, off2 + k * 8 + 2, none⟩ = some (.bool y.has) ∧ W.cell? ⟨b2, off2 + k * 8 + 3, none⟩ = some (.int .i64 y.v.r) ∧ W.cell? ⟨b2, off2 + k * 8 + 4, none⟩ = some (.int .i64 y.v.c) ∧ W.cell? ⟨b2, off2 + k * 8 + 5, none⟩ = some (.int .i64 y.v.h) ∧ W.cell? ⟨b2, off2 + k * 8 + 6, none⟩ = some (.int .i64 y.v.b) ∧ W.cell? ⟨b2, off2 + k * 8 + 7, none⟩ = some (.int .i64 y.v.p))) wr.drew := ⟨⟨c0, c1, c2, c3, c4, c5, c6, c7⟩, d0, d1, d2, d3, d4, d5, d6, d7⟩
     clear hs hall hx hy
     go_wp2_with fail
     refine wp_region_held_drew (S := (fun W => (W.cell? ⟨b, off + k * 8, none⟩ = some (.bool x.up) ∧ W.cell? ⟨b, off + k * 8 + 1, none⟩ = some (.int .i64 x.k) ∧ W.cell? ⟨b, off + k * 8 + 2, none⟩ = some (.bool x.has) ∧ W.cell? ⟨b, off + k * 8 + 3, none⟩ = some (.int .i64 x.v.r) ∧ W.cell? ⟨b, off + k * 8 + 4, none⟩ = some (.int .i64 x.v.c) ∧ W.cell? ⟨b, off + k * 8 + 5, none⟩ = some (.int .i64 x.v.h) ∧ W.cell? ⟨b, off + k * 8 + 6, none⟩ = some (.int .i64 x.v.b) ∧ W.cell? ⟨b, off + k * 8 + 7, none⟩ = some (.int .i64 x.v.p)) ∧ (W.cell? ⟨b2, off2 + k * 8, none⟩ = some (.bool y.up) ∧ W.cell? ⟨b2, off2 + k * 8 + 1, none⟩ = some (.int .i64 y.k) ∧ W.cell? ⟨b2, off2 + k * 8 + 2, none⟩ = some (.bool y.has) ∧ W.cell? ⟨b2, off2 + k * 8 + 3, none⟩ = some (.int .i64 y.v.r) ∧ W.cell? ⟨b2, off2 + k * 8 + 4, none⟩ = some (.int .i64 y.v.c) ∧ W.cell? ⟨b2, off2 + k * 8 + 5, none⟩ = some (.int .i64 y.v.h) ∧ W.cell? ⟨b2, off2 + k * 8 + 6, none⟩ = some (.int .i64 y.v.b) ∧ W.cell? ⟨b2, off2 + k * 8 + 7, none⟩ = some (.int .i64 y.v.p)))) (by kernel_rfl) (HS) (fun hHeld => ?_)
     refine kK 0 q383 ?_
     refine kK 1 q384 ?_
     refine kK 2 q385 ?_
     refine kK 3 q386 ?_
     refine kK 4 q387 ?_
     refine kK 5 q388 ?_
     refine kK 6 q389 ?_
     refine kK 7 q390 ?_
     refine kK 8 q391 ?_
     refine wpAnyH_done (by kernel_rfl) ?_ _
     clear HS hne hgd c0 c1 c2 c3 c4 c5 c6 c7 d0 d1 d2 d3 d4 d5 d6 d7
     go_wp2
     go_roundw
     case rel => exact ⟨k + 1, by omega, by go_num, HA.out, gr_drew hb⟩
     case measure => simp [intOf]; omega
   ·have hkn : k = n := by omega
    subst hkn
    have HE : Hid (l = l2) := hide (by
     refine List.ext_getElem? (fun j => ?_)
     by_cases hj : j < k
     ·exact hall j hj
     ·rw [List.getElem?_eq_none (by omega), List.getElem?_eq_none (by omega)])
    clear hall
    go_wp2
    go_ret
    exact ⟨true, rfl, ⟨fun _ => HE.out, fun _ => rfl⟩, hb⟩
 ·have hne : ¬ (n : Int) = (n2 : Int) := by omega
  go_enter Tryz.func59, Tryz.ntmps59
  go_wp2
  go_ret
  exact ⟨false, rfl, ⟨(fun e => by cases e), fun e => absurd (by rw [← hsz, ← hsz2, e]) hnn⟩, Below.refl _ _⟩

set_option maxRecDepth 100000 in
set_option maxHeartbeats 4000000 in
theorem eqFent_any (a : Option Addr) (n c : Nat) (l : List FE) (a2 : Option Addr) (n2 c2 : Nat) (l2 : List FE) (w : World) (h : GRow fentF w a n c l) (h2 : GRow fentF w a2 n2 c2 l2) :
  Calls Tryz.prog 60 #[.slice a n c, .slice a2 n2 c2] w fun e w' => ∃ q : Bool, e = .returned (.bool q) ∧ (q = true ↔ l = l2) ∧ Below w.heap.size w w' := by
 have hle := h.le
 have htop := h.top
 have hle2 := h2.le
 have htop2 := h2.top
 unfold maxLen at htop htop2
 have hsz := h.size
 have hsz2 := h2.size
 by_cases hnn : n = n2
 ·subst hnn
  go_enter Tryz.func60, Tryz.ntmps60
  go_wp2
  go_loopw [13] (fun i wr => ∃ k : Nat, k ≤ n ∧ i = .int .i64 k ∧ (∀ j : Nat, j < k → l[j]? = l2[j]?) ∧ Below w.heap.size w wr) (fun i _ => n - (intOf i).toNat)
  case atStart => exact ⟨0, Nat.zero_le _, rfl, fun j hj => by omega, Below.refl _ _⟩
  case round =>
   obtain ⟨k, hk, rfl, hall, hb⟩ := hrel
   by_cases hlt : k < n
   ·obtain ⟨x, b, off, hx, rfl, c0, c1, c2, c3, c4⟩ := fent_at (h.below hb) k hlt
    obtain ⟨y, b2, off2, hy, rfl, d0, d1, d2, d3, d4⟩ := fent_at (h2.below hb) k hlt
    have i1 : (0 : Int) ≤ (k : Int) := by omega
    have i2 : (k : Int) < (n : Int) := by omega
    cases hs : sameFe x y
    ·have HN : Hid (¬ l = l2) := hide (by
      intro e
      rw [e, hy] at hx
      cases hx
      rw [(sameFe_iff x x).2 rfl] at hs
      cases hs)
     have hne : ∀ W, (binOp .neq 97 (.agg #[.int .i64 x.t, .int .i64 x.m, .int .i64 x.p, .int .i64 x.a, .bool x.s]) (.agg #[.int .i64 y.t, .int .i64 y.m, .int .i64 y.p, .int .i64 y.a, .bool y.s])).run Tryz.prog W = .ok (.bool true) W := fun W => by rw [fent_neq2, hs]; rfl
     have hgd : Tryz.prog.eqGuardType Tryz.prog.depth 97 = false := by kernel_rfl
     have HS : (fun W => (W.cell? ⟨b, off + k * 5, none⟩ = some (.int .i64 x.t) ∧ W.cell? ⟨b, off + k * 5 + 1, none⟩ = some (.int .i64 x.m) ∧ W.cell? ⟨b, off + k * 5 + 2, none⟩ = some (.int .i64 x.p) ∧ W.cell? ⟨b, off + k * 5 + 3, none⟩ = some (.int .i64 x.a) ∧ W.cell? ⟨b, off + k * 5 + 4, none⟩ = some (.bool x.s)) ∧ (W.cell? ⟨b2, off2 + k * 5, none⟩ = some (.int .i64 y.t) ∧ W.cell? ⟨b2, off2 + k * 5 + 1, none⟩ = some (.int .i64 y.m) ∧ W.cell? ⟨b2, off2 + k * 5 + 2, none⟩ = some (.int .i64 y.p) ∧ W.cell? ⟨b2, off2 + k * 5 + 3, none⟩ = some (.int .i64 y.a) ∧ W.cell? ⟨b2, off2 + k * 5 + 4, none⟩ = some (.bool y.s))) wr.drew := ⟨⟨c0, c1, c2, c3, c4⟩, d0, d1, d2, d3, d4⟩
     clear hs hall hx hy
     go_wp2_with fail
     refine wp_region_held_drew (S := (fun W => (W.cell? ⟨b, off + k * 5, none⟩ = some (.int .i64 x.t) ∧ W.cell? ⟨b, off + k * 5 + 1, none⟩ = some (.int .i64 x.m) ∧ W.cell? ⟨b, off + k * 5 + 2, none⟩ = some (.int .i64 x.p) ∧ W.cell? ⟨b, off + k * 5 + 3, none⟩ = some (.int .i64 x.a) ∧ W.cell? ⟨b, off + k * 5 + 4, none⟩ = some (.bool x.s)) ∧ (W.cell? ⟨b2, off2 + k * 5, none⟩ = some (.int .i64 y.t) ∧ W.cell? ⟨b2, off2 + k * 5 + 1, none⟩ = some (.int .i64 y.m) ∧ W.cell? ⟨b2, off2 + k * 5 + 2, none⟩ = some (.int .i64 y.p) ∧ W.cell? ⟨b2, off2 + k * 5 + 3, none⟩ = some (.int .i64 y.a) ∧ W.cell? ⟨b2, off2 + k * 5 + 4, none⟩ = some (.bool y.s)))) (by kernel_rfl) (HS) (fun hHeld => ?_)
     refine kK 0 q392 ?_
     refine kK 1 q384 ?_
     refine kK 2 q393 ?_
     refine kK 3 q394 ?_
     refine kK 4 q395 ?_
     refine kK 5 q388 ?_
     refine kK 6 q396 ?_
     refine kK 7 q397 ?_
     refine kK 8 q398 ?_
     refine wpAnyH_done (by kernel_rfl) ?_ _
     clear HS hne hgd c0 c1 c2 c3 c4 d0 d1 d2 d3 d4
     go_wp2
     go_ret
     exact ⟨false, rfl, ⟨(fun e => by cases e), fun e => absurd e HN.out⟩, gr_drew hb⟩
    ·have HA : Hid (∀ j : Nat, j < k + 1 → l[j]? = l2[j]?) := hide (by
      intro j hj
      by_cases e : j = k
      ·subst e
       rw [hx, hy, (sameFe_iff x y).1 hs]
      ·exact hall j (by omega))
     have hne : ∀ W, (binOp .neq 97 (.agg #[.int .i64 x.t, .int .i64 x.m, .int .i64 x.p, .int .i64 x.a, .bool x.s]) (.agg #[.int .i64 y.t, .int .i64 y.m, .int .i64 y.p, .int .i64 y.a, .bool y.s])).run Tryz.prog W = .ok (.bool false) W := fun W => by rw [fent_neq2, hs]; rfl
     have hgd : Tryz.prog.eqGuardType Tryz.prog.depth 97 = false := by kernel_rfl
     have HS : (fun W => (W.cell? ⟨b, off + k * 5, none⟩ = some (.int .i64 x.t) ∧ W.cell? ⟨b, off + k * 5 + 1, none⟩ = some (.int .i64 x.m) ∧ W.cell? ⟨b, off + k * 5 + 2, none⟩ = some (.int .i64 x.p) ∧ W.cell? ⟨b, off + k * 5 + 3, none⟩ = some (.int .i64 x.a) ∧ W.cell? ⟨b, off + k * 5 + 4, none⟩ = some (.bool x.s)) ∧ (W.cell? ⟨b2, off2 + k * 5, none⟩ = some (.int .i64 y.t) ∧ W.cell? ⟨b2, off2 + k * 5 + 1, none⟩ = some (.int .i64 y.m) ∧ W.cell? ⟨b2, off2 + k * 5 + 2, none⟩ = some (.int .i64 y.p) ∧ W.cell? ⟨b2, off2 + k * 5 + 3, none⟩ = some (.int .i64 y.a) ∧ W.cell? ⟨b2, off2 + k * 5 + 4, none⟩ = some (.bool y.s))) wr.drew := ⟨⟨c0, c1, c2, c3, c4⟩, d0, d1, d2, d3, d4⟩
     clear hs hall hx hy
     go_wp2_with fail
     refine wp_region_held_drew (S := (fun W => (W.cell? ⟨b, off + k * 5, none⟩ = some (.int .i64 x.t) ∧ W.cell? ⟨b, off + k * 5 + 1, none⟩ = some (.int .i64 x.m) ∧ W.cell? ⟨b, off + k * 5 + 2, none⟩ = some (.int .i64 x.p) ∧ W.cell? ⟨b, off + k * 5 + 3, none⟩ = some (.int .i64 x.a) ∧ W.cell? ⟨b, off + k * 5 + 4, none⟩ = some (.bool x.s)) ∧ (W.cell? ⟨b2, off2 + k * 5, none⟩ = some (.int .i64 y.t) ∧ W.cell? ⟨b2, off2 + k * 5 + 1, none⟩ = some (.int .i64 y.m) ∧ W.cell? ⟨b2, off2 + k * 5 + 2, none⟩ = some (.int .i64 y.p) ∧ W.cell? ⟨b2, off2 + k * 5 + 3, none⟩ = some (.int .i64 y.a) ∧ W.cell? ⟨b2, off2 + k * 5 + 4, none⟩ = some (.bool y.s)))) (by kernel_rfl) (HS) (fun hHeld => ?_)
     refine kK 0 q392 ?_
     refine kK 1 q384 ?_
     refine kK 2 q393 ?_
     refine kK 3 q394 ?_
     refine kK 4 q395 ?_
     refine kK 5 q388 ?_
     refine kK 6 q396 ?_
     refine kK 7 q397 ?_
     refine kK 8 q398 ?_
     refine wpAnyH_done (by kernel_rfl) ?_ _
     clear HS hne hgd c0 c1 c2 c3 c4 d0 d1 d2 d3 d4
     go_wp2
     go_roundw
     case rel => exact ⟨k + 1, by omega, by go_num, HA.out, gr_drew hb⟩
     case measure => simp [intOf]; omega
   ·have hkn : k = n := by omega
    subst hkn
    have HE : Hid (l = l2) := hide (by
     refine List.ext_getElem? (fun j => ?_)
     by_cases hj : j < k
     ·exact hall j hj
     ·rw [List.getElem?_eq_none (by omega), List.getElem?_eq_none (by omega)])
    clear hall
    go_wp2
    go_ret
    exact ⟨true, rfl, ⟨fun _ => HE.out, fun _ => rfl⟩, hb⟩
 ·have hne : ¬ (n : Int) = (n2 : Int) := by omega
  go_enter Tryz.func60, Tryz.ntmps60
  go_wp2
  go_ret
  exact ⟨false, rfl, ⟨(fun e => by cases e), fun e => absurd (by rw [← hsz, ← hsz2, e]) hnn⟩, Below.refl _ _⟩

set_option maxRecDepth 100000 in
set_option maxHeartbeats 4000000 in
theorem eqVrow_any (a : Option Addr) (n c : Nat) (l : List VR) (a2 : Option Addr) (n2 c2 : Nat) (l2 : List VR) (w : World) (h : GRow vrowF w a n c l) (h2 : GRow vrowF w a2 n2 c2 l2) :
  Calls Tryz.prog 61 #[.slice a n c, .slice a2 n2 c2] w fun e w' => ∃ q : Bool, e = .returned (.bool q) ∧ (q = true ↔ l = l2) ∧ Below w.heap.size w w' := by
 have hle := h.le
 have htop := h.top
 have hle2 := h2.le
 have htop2 := h2.top
 unfold maxLen at htop htop2
 have hsz := h.size
 have hsz2 := h2.size
 by_cases hnn : n = n2
 ·subst hnn
  go_enter Tryz.func61, Tryz.ntmps61
  go_wp2
  go_loopw [13] (fun i wr => ∃ k : Nat, k ≤ n ∧ i = .int .i64 k ∧ (∀ j : Nat, j < k → l[j]? = l2[j]?) ∧ Below w.heap.size w wr) (fun i _ => n - (intOf i).toNat)
  case atStart => exact ⟨0, Nat.zero_le _, rfl, fun j hj => by omega, Below.refl _ _⟩
  case round =>
   obtain ⟨k, hk, rfl, hall, hb⟩ := hrel
   by_cases hlt : k < n
   ·obtain ⟨x, b, off, hx, rfl, c0, c1, c2⟩ := vrow_at (h.below hb) k hlt
    obtain ⟨y, b2, off2, hy, rfl, d0, d1, d2⟩ := vrow_at (h2.below hb) k hlt
    have i1 : (0 : Int) ≤ (k : Int) := by omega
    have i2 : (k : Int) < (n : Int) := by omega
    cases hs : sameVr x y
    ·have HN : Hid (¬ l = l2) := hide (by
      intro e
      rw [e, hy] at hx
      cases hx
      rw [(sameVr_iff x x).2 rfl] at hs
      cases hs)
     have hne : ∀ W, (binOp .neq 100 (.agg #[.int .i64 x.i, .int .i64 x.m, .int .i64 x.b]) (.agg #[.int .i64 y.i, .int .i64 y.m, .int .i64 y.b])).run Tryz.prog W = .ok (.bool true) W := fun W => by rw [vrow_neq2, hs]; rfl
     have hgd : Tryz.prog.eqGuardType Tryz.prog.depth 100 = false := by kernel_rfl
     have HS : (fun W => (W.cell? ⟨b, off + k * 3, none⟩ = some (.int .i64 x.i) ∧ W.cell? ⟨b, off + k * 3 + 1, none⟩ = some (.int .i64 x.m) ∧ W.cell? ⟨b, off + k * 3 + 2, none⟩ = some (.int .i64 x.b)) ∧ (W.cell? ⟨b2, off2 + k * 3, none⟩ = some (.int .i64 y.i) ∧ W.cell? ⟨b2, off2 + k * 3 + 1, none⟩ = some (.int .i64 y.m) ∧ W.cell? ⟨b2, off2 + k * 3 + 2, none⟩ = some (.int .i64 y.b))) wr.drew := ⟨⟨c0, c1, c2⟩, d0, d1, d2⟩
     clear hs hall hx hy
     go_wp2_with fail
     refine wp_region_held_drew (S := (fun W => (W.cell? ⟨b, off + k * 3, none⟩ = some (.int .i64 x.i) ∧ W.cell? ⟨b, off + k * 3 + 1, none⟩ = some (.int .i64 x.m) ∧ W.cell? ⟨b, off + k * 3 + 2, none⟩ = some (.int .i64 x.b)) ∧ (W.cell? ⟨b2, off2 + k * 3, none⟩ = some (.int .i64 y.i) ∧ W.cell? ⟨b2, off2 + k * 3 + 1, none⟩ = some (.int .i64 y.m) ∧ W.cell? ⟨b2, off2 + k * 3 + 2, none⟩ = some (.int .i64 y.b)))) (by kernel_rfl) (HS) (fun hHeld => ?_)
     refine kK 0 q399 ?_
     refine kK 1 q384 ?_
     refine kK 2 q400 ?_
     refine kK 3 q401 ?_
     refine kK 4 q402 ?_
     refine kK 5 q388 ?_
     refine kK 6 q403 ?_
     refine kK 7 q404 ?_
     refine kK 8 q405 ?_
     refine wpAnyH_done (by kernel_rfl) ?_ _
     clear HS hne hgd c0 c1 c2 d0 d1 d2
     go_wp2
     go_ret
     exact ⟨false, rfl, ⟨(fun e => by cases e), fun e => absurd e HN.out⟩, gr_drew hb⟩
    ·have HA : Hid (∀ j : Nat, j < k + 1 → l[j]? = l2[j]?) := hide (by
      intro j hj
      by_cases e : j = k
      ·subst e
       rw [hx, hy, (sameVr_iff x y).1 hs]
      ·exact hall j (by omega))
     have hne : ∀ W, (binOp .neq 100 (.agg #[.int .i64 x.i, .int .i64 x.m, .int .i64 x.b]) (.agg #[.int .i64 y.i, .int .i64 y.m, .int .i64 y.b])).run Tryz.prog W = .ok (.bool false) W := fun W => by rw [vrow_neq2, hs]; rfl
     have hgd : Tryz.prog.eqGuardType Tryz.prog.depth 100 = false := by kernel_rfl
     have HS : (fun W => (W.cell? ⟨b, off + k * 3, none⟩ = some (.int .i64 x.i) ∧ W.cell? ⟨b, off + k * 3 + 1, none⟩ = some (.int .i64 x.m) ∧ W.cell? ⟨b, off + k * 3 + 2, none⟩ = some (.int .i64 x.b)) ∧ (W.cell? ⟨b2, off2 + k * 3, none⟩ = some (.int .i64 y.i) ∧ W.cell? ⟨b2, off2 + k * 3 + 1, none⟩ = some (.int .i64 y.m) ∧ W.cell? ⟨b2, off2 + k * 3 + 2, none⟩ = some (.int .i64 y.b))) wr.drew := ⟨⟨c0, c1, c2⟩, d0, d1, d2⟩
     clear hs hall hx hy
     go_wp2_with fail
     refine wp_region_held_drew (S := (fun W => (W.cell? ⟨b, off + k * 3, none⟩ = some (.int .i64 x.i) ∧ W.cell? ⟨b, off + k * 3 + 1, none⟩ = some (.int .i64 x.m) ∧ W.cell? ⟨b, off + k * 3 + 2, none⟩ = some (.int .i64 x.b)) ∧ (W.cell? ⟨b2, off2 + k * 3, none⟩ = some (.int .i64 y.i) ∧ W.cell? ⟨b2, off2 + k * 3 + 1, none⟩ = some (.int .i64 y.m) ∧ W.cell? ⟨b2, off2 + k * 3 + 2, none⟩ = some (.int .i64 y.b)))) (by kernel_rfl) (HS) (fun hHeld => ?_)
     refine kK 0 q399 ?_
     refine kK 1 q384 ?_
     refine kK 2 q400 ?_
     refine kK 3 q401 ?_
     refine kK 4 q402 ?_
     refine kK 5 q388 ?_
     refine kK 6 q403 ?_
     refine kK 7 q404 ?_
     refine kK 8 q405 ?_
     refine wpAnyH_done (by kernel_rfl) ?_ _
     clear HS hne hgd c0 c1 c2 d0 d1 d2
     go_wp2
     go_roundw
     case rel => exact ⟨k + 1, by omega, by go_num, HA.out, gr_drew hb⟩
     case measure => simp [intOf]; omega
   ·have hkn : k = n := by omega
    subst hkn
    have HE : Hid (l = l2) := hide (by
     refine List.ext_getElem? (fun j => ?_)
     by_cases hj : j < k
     ·exact hall j hj
     ·rw [List.getElem?_eq_none (by omega), List.getElem?_eq_none (by omega)])
    clear hall
    go_wp2
    go_ret
    exact ⟨true, rfl, ⟨fun _ => HE.out, fun _ => rfl⟩, hb⟩
 ·have hne : ¬ (n : Int) = (n2 : Int) := by omega
  go_enter Tryz.func61, Tryz.ntmps61
  go_wp2
  go_ret
  exact ⟨false, rfl, ⟨(fun e => by cases e), fun e => absurd (by rw [← hsz, ← hsz2, e]) hnn⟩, Below.refl _ _⟩

set_option maxRecDepth 100000 in
set_option maxHeartbeats 400000 in
theorem equal_any (a1 : Option Addr) (l1 c1 : Nat) (z1 : List Int) (a2 : Option Addr) (l2 c2 : Nat) (z2 : List Int) (w : World) (h1 : IRow w a1 l1 c1 z1) (h2 : IRow w a2 l2 c2 z2) :
  Calls Tryz.prog 62 #[.slice a1 l1 c1, .slice a2 l2 c2] w fun e w' => e = .returned (.bool (decide (z1 = z2))) ∧ ∃ n, w' = w.drewN n := by
 have m1 := h1.top; have m2 := h2.top; have s1 := h1.size; have s2 := h2.size; have e1 := h1.le; have e2 := h2.le
 unfold maxLen at m1 m2
 by_cases hl : l1 = l2
 ·subst hl
  by_cases h0 : l1 = 0
  ·subst h0
   have hz : z1 = z2 := by rw [List.eq_nil_of_length_eq_zero s1, List.eq_nil_of_length_eq_zero s2]
   go_enter Tryz.func62, Tryz.ntmps62
   go_wp2
   go_loop [13] (fun i => i = .int .i64 0) (fun _ => 0)
   case atStart => rfl
   case round =>
    subst hrel
    go_wp2
    go_ret
    exact ⟨by simp, 0, rfl⟩
  ·rcases h1.cell with h | ⟨b1, o1, rfl, g1⟩
   ·exact absurd h h0
   rcases h2.cell with h | ⟨b2, o2, rfl, g2⟩
   ·exact absurd h h0
   clear h1 h2
   have G1 : Hid (∀ i, i < l1 → w.cell? ⟨b1, o1 + i, none⟩ = some (.int .i64 (z1.getD i 0))) := g1
   have G2 : Hid (∀ i, i < l1 → w.cell? ⟨b2, o2 + i, none⟩ = some (.int .i64 (z2.getD i 0))) := g2
   clear g1 g2
   go_enter Tryz.func62, Tryz.ntmps62
   go_wp2
   go_loopw [13] (fun i wr => ∃ k : Nat, k ≤ l1 ∧ i = .int .i64 k ∧ z1.take k = z2.take k ∧ ∃ n, wr = w.drewN n) (fun i _ => l1 - (intOf i).toNat)
   case atStart => exact ⟨0, Nat.zero_le _, rfl, rfl, 0, rfl⟩
   case round =>
    obtain ⟨k, hk, rfl, ht, n, rfl⟩ := hrel
    have HT : Hid (z1.take k = z2.take k) := ht
    clear ht
    by_cases hlt : k < l1
    ·have c1 := G1.out k hlt
     have c2 := G2.out k hlt
     generalize hx : z1.getD k 0 = x at c1
     generalize hy : z2.getD k 0 = y at c2
     have HX : Hid (z1.getD k 0 = x) := hx
     have HY : Hid (z2.getD k 0 = y) := hy
     clear hx hy
     by_cases hq : x = y
     ·subst hq
      go_wp2
      go_quiet (fail)
      go_wp2
      go_roundw
      case rel => exact ⟨k + 1, by omega, by go_num, by rw [take_succ_getD _ _ (by omega), take_succ_getD _ _ (by omega), HT.out, HX.out, HY.out], _, rfl⟩
      case measure => simp [intOf]; omega
     ·have hne : (x != y) = true := by simp [hq]
      go_wp2
      go_quiet (fail)
      go_wp2
      go_ret
      exact ⟨ret_bool (decide_eq_false (ne_at k (by rw [HX.out, HY.out]; exact hq))).symm, _, World.drewN_drewN _ _ _⟩
    ·go_wp2
     go_ret
     have hk' : k = l1 := by omega
     exact ⟨ret_bool (decide_eq_true (eq_of_takes (by omega) (by rw [s1, ← hk']; exact HT.out))).symm, _, rfl⟩
 ·have hne : ((l1 : Int) != (l2 : Int)) = true := by simp; omega
  have hz : ¬ z1 = z2 := by intro e; rw [e] at s1; omega
  go_enter Tryz.func62, Tryz.ntmps62
  go_wp2
  go_ret
  exact ⟨ret_bool (decide_eq_false hz).symm, 0, rfl⟩

end Go.Proofs.YtddalpglihhipaaGreat
