/-
  Packed: VlanNew BrNewI NetNewM NetUsed NetUpI.
-/
import Derived.Test.YtdmplbmfkliiiaaGreatPNKW
import Derived.Test.YtdmplbmfkliiiaaGreatPNFdbImplA
import Derived.Test.YtdmplbmfkliiiaaGreatPNK01
import Derived.Test.YtdmplbmfkliiiaaGreatPNK03
import Derived.Test.YtdmplbmfkliiiaaGreatPNK04
import Derived.Test.YtdmplbmfkliiiaaGreatPNK10
import Derived.Test.YtdmplbmfkliiiaaGreatPNK14
namespace Go.Proofs.YtdmplbmfkliiiaaGreat
open Go.RowKit

set_option maxRecDepth 100000 in
set_option maxHeartbeats 1000000 in
theorem mul64_any (p : Nat) (h1 : 1 ≤ p) (h6 : p ≤ 6) (w : World) :
  Calls Tryz.prog 136 #[.int .u64 1, .int .u64 p] w fun e w' => e = .returned (.tuple #[.int .u64 0, .int .u64 p]) ∧ w' = w := by
 rcases (show p = 1 ∨ p = 2 ∨ p = 3 ∨ p = 4 ∨ p = 5 ∨ p = 6 by omega) with rfl | rfl | rfl | rfl | rfl | rfl
 ·show Calls Tryz.prog 136 #[.int .u64 1, .int .u64 1] w _
  go_enter Tryz.func136, Tryz.ntmps136
  go_wp2
  exact bodyPost_ret (v := .tuple #[.int .u64 0, .int .u64 1]) (by kernel_rfl) rfl ⟨rfl, rfl⟩
 ·show Calls Tryz.prog 136 #[.int .u64 1, .int .u64 2] w _
  go_enter Tryz.func136, Tryz.ntmps136
  go_wp2
  exact bodyPost_ret (v := .tuple #[.int .u64 0, .int .u64 2]) (by kernel_rfl) rfl ⟨rfl, rfl⟩
 ·show Calls Tryz.prog 136 #[.int .u64 1, .int .u64 3] w _
  go_enter Tryz.func136, Tryz.ntmps136
  go_wp2
  exact bodyPost_ret (v := .tuple #[.int .u64 0, .int .u64 3]) (by kernel_rfl) rfl ⟨rfl, rfl⟩
 ·show Calls Tryz.prog 136 #[.int .u64 1, .int .u64 4] w _
  go_enter Tryz.func136, Tryz.ntmps136
  go_wp2
  exact bodyPost_ret (v := .tuple #[.int .u64 0, .int .u64 4]) (by kernel_rfl) rfl ⟨rfl, rfl⟩
 ·show Calls Tryz.prog 136 #[.int .u64 1, .int .u64 5] w _
  go_enter Tryz.func136, Tryz.ntmps136
  go_wp2
  exact bodyPost_ret (v := .tuple #[.int .u64 0, .int .u64 5]) (by kernel_rfl) rfl ⟨rfl, rfl⟩
 ·show Calls Tryz.prog 136 #[.int .u64 1, .int .u64 6] w _
  go_enter Tryz.func136, Tryz.ntmps136
  go_wp2
  exact bodyPost_ret (v := .tuple #[.int .u64 0, .int .u64 6]) (by kernel_rfl) rfl ⟨rfl, rfl⟩

set_option maxRecDepth 100000 in
set_option maxHeartbeats 1000000 in
theorem mul_any (p : Nat) (h1 : 1 ≤ p) (h6 : p ≤ 6) (w : World) :
  Calls Tryz.prog 99 #[.int .u64 1, .int .u64 p] w fun e w' => e = .returned (.tuple #[.int .u64 0, .int .u64 p]) ∧ w' = w := by
 go_enter Tryz.func99, Tryz.ntmps99
 go_wp2_with fail
 refine (mul64_any p h1 h6 _).mono ?_
 rintro e w1 ⟨rfl, e1⟩
 obtain rfl := e1.symm
 go_wp2
 exact bodyPost_ret (v := .tuple #[.int .u64 0, .int .u64 p]) (by simp [results, Tryz.results99, go_sem, *]) rfl ⟨rfl, rfl⟩

def onesTo (p k : Nat) : List Int := List.replicate k 1 ++ List.replicate (p - k) 0

theorem int_size : (Tryz.prog.info? 3).map (·.size) = some 1 := by kernel_rfl

theorem ones_copy {w : World} {base g p k m : Nat} {cs : List Int} (h : w.ownsRow base 3 1 (.slice (some ⟨g, 0, none⟩) p p) p (intF.all (onesTo p k))) (hk : k + m ≤ p) (hcs : cs = List.replicate m 1) {a : Addr} {dl sl : Nat} (hmin : Nat.min sl dl = m) (hsrc : ∀ j v, (intF.all cs)[j]? = some v → w.cell? (a.add j) = some v) :
  ∃ w', (∀ ty dc sc, (Builtin.copy_ #[24, 24] ty #[.slice (some ⟨g, k, none⟩) dl dc, .slice (some a) sl sc]).run Tryz.prog w = .ok (goInt m) w') ∧ w'.ownsRow base 3 1 (.slice (some ⟨g, 0, none⟩) p p) p (intF.all (onesTo p (k + m))) ∧ w.grownBy w' (some g) := by
 obtain ⟨hlen, ⟨hv, h0⟩ | ⟨g', cap', cur, hv, hg, hh, h1, h2, h3, h4⟩⟩ := h
 ·cases hv
 ·cases hv
  have hcl : (intF.all cs).length = m := by rw [intF_all, hcs]; simp [cI]
  have hfit : k + (intF.all cs).length ≤ cur.size := by rw [hcl, h3]; omega
  refine ⟨w.setRow g (cur.toList.take k ++ intF.all cs ++ cur.toList.drop (k + (intF.all cs).length)).toArray, fun ty dc sc => ?_, ⟨?_, .inr ⟨g, p, _, rfl, hg, setRow_heap w g cur _ 3 _ hh, Nat.le_refl _, h2, ?_, ?_⟩⟩, ?_⟩
  ·have := run_copy_flat (P := Tryz.prog) w 24 24 ty 3 g k dl dc a sl sc cur 3 (intF.all cs) 1 Tryz.underlying24 int_size hh (by rw [hcl, hmin, Nat.mul_one]) hsrc hfit (intF.all_oneCell cs)
   rw [hmin] at this
   exact this
  ·rw [intF.all_length]
   unfold onesTo
   have : intF.k = 1 := rfl
   rw [this]
   simp
   omega
  ·have : cur.toList.length = p := by have := h3; simp at this; simpa using this
   simp
   rw [hcl]
   simp at this
   omega
  ·have hcs' : cur.toList = intF.all (onesTo p k) := by
    rw [← h4, List.take_of_length_le (by have := h3; simp at this; simp; omega)]
   rw [hcs', intF_all, intF_all, intF_all, hcs]
   unfold onesTo cI
   simp only [List.map_append, List.map_replicate, Nat.mul_one]
   have e1 : (List.replicate k (Value.int .i64 1) ++ List.replicate (p - k) (Value.int .i64 0)).take k = List.replicate k (Value.int .i64 1) := by
    rw [List.take_append_of_le_length (by simp), List.take_of_length_le (by simp)]
   rw [e1]
   have e2 : (List.replicate k (Value.int .i64 1) ++ List.replicate (p - k) (Value.int .i64 0)).drop (k + (List.replicate m (Value.int .i64 1)).length) = List.replicate (p - (k + m)) (Value.int .i64 0) := by
    rw [List.length_replicate, List.drop_append, List.drop_eq_nil_of_le (by rw [List.length_replicate]; omega), List.nil_append, List.length_replicate, List.drop_replicate]
    congr 1
    omega
   rw [e2, List.take_of_length_le (by simp; omega), ← List.replicate_append_replicate]
  ·refine ⟨rfl, rfl, rfl, ?_, ?_⟩
   ·simp [World.setRow]
   ·intro i hi hkg
    rw [setRow_other _ _ _ _ (fun e => hkg (by rw [e]))]

set_option maxRecDepth 100000 in
set_option maxHeartbeats 4000000 in
theorem repeat_made (g p : Nat) (h1 : 1 ≤ p) (h6 : p ≤ 6) (w : World) (kg : w.heap[g]? = some (.cells #[.int .i64 1] 3)) :
  Calls Tryz.prog 101 #[.slice (some ⟨g, 0, none⟩) 1 1, .int .i64 p] w fun e w' => ∃ a' c', e = .returned (.slice a' p c') ∧ w'.ownsRow w.heap.size 3 1 (.slice a' p c') p (cI (List.replicate p 1)) ∧ Below w.heap.size w w' := by
 have hglt : g < w.heap.size := (Array.getElem?_eq_some_iff.1 kg).1
 obtain ⟨i0, hi, hz0, hz1, hz2⟩ := finfo_parts (k := 1) Tryz.infoI64
 have hnn : ¬ ((p : Int) < 0) := by omega
 have hwp : IntKind.u64.wrap (p : Int) = (p : Int) := by rw [IntKind.wrap_u64]; omega
 have hwq : IntKind.i64.wrap (p : Int) = (p : Int) := by rw [IntKind.wrap_i64]; omega
 have hbig : ¬ ((9223372036854775807 : Int) < (p : Int)) := by omega
 go_enter Tryz.func101, Tryz.ntmps101
 go_wp2_with fail
 refine (mul_any p h1 h6 _).mono ?_
 rintro e w1 ⟨rfl, e1⟩
 obtain rfl := e1.symm
 go_wp2_with (at_make; refine wpList_make_full _ rfl _ _ 24 rfl w.heap.size 3 i0 (.int .i64 0) 1 Tryz.underlying24 hi hz0 hz1 .i64 .i64 _ _ p rfl rfl rfl rfl ?c1 ?c2 ?c3 ?_)
 case c1 => rw [hz2]; omega
 case c2 => unfold maxLen; omega
 case c3 => exact Nat.le_refl _
 intro w1 hown hgrow
 have hb1 : Below w.heap.size w w1 := (Below.refl _ _).grown hgrow (Nat.le_refl _) (by intro k hk; cases hk)
 have hown1 : w1.ownsRow w.heap.size 3 1 (.slice (some ⟨w.heap.size, 0, none⟩) p p) p (intF.all (onesTo p 0)) := by
  unfold onesTo
  rw [List.replicate_zero, List.nil_append, Nat.sub_zero]
  have := flat_made intF 0 p
  rw [show intF.k = 1 from rfl, Nat.mul_one] at this
  rw [← this]
  exact hown
 have kg1 := kept_block kg hb1
 have hcell : w1.cell? ⟨g, 0, none⟩ = some (.int .i64 1) := by simp [World.cell?, kg1]
 obtain ⟨w2, hcp, hO2, hg2⟩ := ones_copy (cs := [1]) (m := 1) (a := ⟨g, 0, none⟩) (dl := p) (sl := 1) hown1 (by omega) rfl (Nat.min_eq_left h1) (by
  intro j v hj
  match j, hj with
  | 0, hj => cases hj; rw [add_none]; exact hcell
  | j + 1, hj => simp [intF, Flat.all] at hj)
 have HO2 : Hid (w2.ownsRow w.heap.size 3 1 (.slice (some ⟨w.heap.size, 0, none⟩) p p) p (intF.all (onesTo p 1))) := hide hO2
 have HB2 : Hid (Below w.heap.size w w2) := hide (hb1.grown hg2 hb1.size (by intro k hk; cases hk; exact Nat.le_refl _))
 clear hown hgrow hi hz0 hz1 hz2 hown1 hO2 hg2 kg1 hcell hb1
 go_wp2_with (at_builtin; refine wpList_copy_eq _ rfl _ _ 24 24 rfl _ _ rfl rfl (hcp _ _ _) ?_)
 go_wp2
 go_loopw [8] (fun i wr => ∃ k : Nat, 1 ≤ k ∧ k ≤ p ∧ i = .int .i64 k ∧ wr.ownsRow w.heap.size 3 1 (.slice (some ⟨w.heap.size, 0, none⟩) p p) p (intF.all (onesTo p k)) ∧ Below w.heap.size w wr) (fun i _ => p - (intOf i).toNat)
 case atStart => exact ⟨1, Nat.le_refl _, h1, rfl, HO2.out, HB2.out⟩
 case round =>
  obtain ⟨k, hk1, hk, rfl, ho, hb⟩ := hrel
  by_cases hlt : k < p
  ·have ho' : wr.drew.ownsRow w.heap.size 3 1 (.slice (some ⟨w.heap.size, 0, none⟩) p p) p (intF.all (onesTo p k)) := gown_below ho (gr_drew (Below.refl _ _))
   have hm1 : Nat.min k (p - k) ≤ k := Nat.min_le_left _ _
   have hm2 : Nat.min k (p - k) ≤ p - k := Nat.min_le_right _ _
   have hm3 : 1 ≤ Nat.min k (p - k) := Nat.le_min.2 ⟨hk1, by omega⟩
   obtain ⟨w3, hcp3, hO3, hg3⟩ := ones_copy (w := wr.drew) (cs := List.replicate (Nat.min k (p - k)) 1) (m := Nat.min k (p - k)) (a := ⟨w.heap.size, 0, none⟩) (dl := p - k) (sl := k) ho' (by omega) rfl rfl (by
    intro j v hj
    have hjl := (List.getElem?_eq_some_iff.1 hj).1
    rw [intF.all_length, List.length_replicate, show intF.k = 1 from rfl, Nat.mul_one] at hjl
    rw [add_none, Nat.zero_add, ho'.cellAt j (by omega)]
    rw [intF_all] at hj ⊢
    unfold cI at hj ⊢
    rw [List.getElem?_map] at hj ⊢
    unfold onesTo
    rw [List.getElem?_append_left (by simp; omega), List.getElem?_replicate, if_pos (by omega)]
    rw [List.getElem?_replicate, if_pos (by omega)] at hj
    exact hj)
   have HO := hide hO3
   have HB := hide (hb.drew.grown hg3 (by simpa using hb.size) (by intro j hj; cases hj; exact Nat.le_refl _))
   have hcp := hcp3
   have i1 : (0 : Int) ≤ (k : Int) := by omega
   have i2 : (k : Int) ≤ (p : Int) := by omega
   have i3 : ¬ (p = k) := by omega
   have i4 : IntKind.i64.wrap ((k : Int) + (Nat.min k (p - k) : Nat)) = ((k + Nat.min k (p - k) : Nat) : Int) := by rw [IntKind.wrap_i64]; omega
   clear hcp3 hO3 hg3 ho ho' hb
   go_wp2_with fail
   refine wp_region_held_drew (S := (fun _ => True)) (by kernel_rfl) (trivial) (fun hHeld => ?_)
   refine kK 0 ⟨some 38, .move (.tmp 8), 3, "slices.go:528", #[], none⟩ ?_
   refine kK 1 ⟨some 39, .move (.tmp 7), 24, "slices.go:528", #[], none⟩ ?_
   refine kK 2 ⟨some 40, .move (.tmp 8), 3, "slices.go:528", #[], none⟩ ?_
   refine kK 3 ⟨some 41, .slice 24 (.tmp 39) (some (.tmp 40)) none none, 24, "slices.go:528", #[⟨1, .data⟩, ⟨2, .data⟩], none⟩ ?_
   refine kK 4 ⟨some 42, .move (.tmp 7), 24, "slices.go:528", #[], none⟩ ?_
   refine kK 5 ⟨some 43, .move (.tmp 8), 3, "slices.go:528", #[], none⟩ ?_
   refine kK 6 ⟨some 44, .slice 24 (.tmp 42) none (some (.tmp 43)) none, 24, "slices.go:528", #[⟨4, .data⟩, ⟨5, .data⟩], none⟩ ?_
   refine kR 7 ⟨some 45, .call ⟨.builtin .copy, #[.tmp 41, .tmp 44], #[24, 24]⟩, 3, "slices.go:528", #[⟨3, .data⟩, ⟨6, .data⟩], none⟩ (fun K hK => ?_)
   refine step_copy_eq rfl _ _ 24 24 rfl _ _ rfl rfl (hcp _ _ _) ?_
   refine hK.out _ _ (trivial) (fun hHeld => ?_)
   clear hK K
   try simp only [Act.put, lA, lB, lC]
   refine kK 8 ⟨some 46, .binOp .add 3 (.tmp 38) (.tmp 45) 3, 3, "slices.go:528", #[⟨0, .data⟩, ⟨7, .data⟩], none⟩ ?_
   refine kK 9 ⟨some 8, .assign (.tmp 46), 3, "slices.go:528", #[⟨8, .data⟩, ⟨7, .chain⟩, ⟨0, .phase⟩, ⟨1, .phase⟩, ⟨2, .phase⟩, ⟨3, .phase⟩, ⟨4, .phase⟩, ⟨5, .phase⟩, ⟨6, .phase⟩, ⟨7, .phase⟩, ⟨8, .phase⟩], none⟩ ?_
   refine wpAnyH_done (by kernel_rfl) ?_ _
   clear hHeld
   go_wp2
   go_roundw
   case rel => exact ⟨k + Nat.min k (p - k), by omega, by omega, by go_num, HO.out, HB.out⟩
   case measure => simp [intOf]; omega
  ·have hkp : k = p := by omega
   subst hkp
   have HO : Hid (wr.ownsRow w.heap.size 3 1 (.slice (some ⟨w.heap.size, 0, none⟩) k k) k (cI (List.replicate k 1))) := hide (by
    have h := ho
    unfold onesTo at h
    rw [Nat.sub_self, List.replicate_zero, List.append_nil, intF_all] at h
    exact h)
   have HB := hide hb
   clear ho hb
   go_wp2
   go_ret
   exact ⟨_, _, rfl, HO.out, HB.out⟩

set_option maxRecDepth 100000 in
set_option maxHeartbeats 4000000 in
theorem implVtabNew_made (ports : Int) (w : World) :
  Calls Tryz.prog 68 #[.int .i64 ports] w fun e w' => ∃ a n c o p q, e = .returned (.agg #[.slice a n c, .slice o p q]) ∧ VOwn w' w.heap.size a n c o p q (vtabNew ports) ∧ Below w.heap.size w w' := by
 generalize hw1 : w.alloc (Obj.cells #[Value.slice none 0 0, Value.slice none 0 0] 69) = w1
 have b01 : Below w.heap.size w w1 := by subst hw1; exact below_one _ _
 have k0 : w1.heap[w.heap.size]? = some (.cells #[.slice none 0 0, .slice none 0 0] 69) := by rw [← hw1]; exact block_last _ _
 have z1 : Hid (w.heap.size < w1.heap.size) := hide (by rw [← hw1]; simp)
 cases hin : (decide (1 ≤ ports) && decide (ports ≤ 6))
 ·rw [vtabNew_no hin]
  have HIN := hide hin
  clear hin
  obtain ⟨⟨g0, g1⟩, f0, f1⟩ := cells2 k0
  have HB := hide (below_set (below_set b01 (Nat.le_refl _) 0 (.slice none 0 0)) (Nat.le_refl _) 1 (.slice none 0 0))
  go_enter Tryz.func68, Tryz.ntmps68
  go_wp2_with (refine (implIn9_any ports 1 6 _).mono ?_; rintro r w2 ⟨rfl, e2⟩; obtain rfl := e2.symm; rw [HIN.out])
  exact bodyPost_ret (v := .agg #[.slice none 0 0, .slice none 0 0]) (by simp [results, Tryz.results68, go_sem, *]) rfl ⟨_, _, _, _, _, _, rfl, vownNone _ _, HB.out⟩
 ·obtain ⟨p, rfl⟩ : ∃ p : Nat, ports = (p : Int) := ⟨ports.toNat, by simp at hin; omega⟩
  rw [vtabNew_yes hin]
  have HIN := hide hin
  have hp : 1 ≤ p ∧ p ≤ 6 := by simp at hin; omega
  clear hin
  generalize hw2 : w1.alloc (Obj.cells #[Value.int .i64 1, Value.int .i64 (allOf p), Value.int .i64 (allOf p)] 115) = w2
  have b12 : Below w1.heap.size w1 w2 := by subst hw2; exact below_one _ _
  have k1 : w2.heap[w1.heap.size]? = some (.cells #[.int .i64 1, .int .i64 (allOf p), .int .i64 (allOf p)] 115) := by rw [← hw2]; exact block_last _ _
  generalize hw3 : w2.alloc (Obj.cells #[Value.int .i64 1] 3) = w3
  have b23 : Below w2.heap.size w2 w3 := by subst hw3; exact below_one _ _
  have k2 : w3.heap[w2.heap.size]? = some (.cells #[.int .i64 1] 3) := by rw [← hw3]; exact block_last _ _
  have hR : w3.ownsRow w1.heap.size 115 3 (.slice (some ⟨w1.heap.size, 0, none⟩) 1 1) 1 (vrowF.all [⟨1, allOf p, allOf p⟩]) := gown_below (own_one vrowF (x := ⟨1, allOf p, allOf p⟩) k1 rfl (Nat.le_refl _)) b23
  have b13 := gr_trans b12 b23
  go_enter Tryz.func68, Tryz.ntmps68
  go_wp2_with (refine (implIn9_any (p : Int) 1 6 _).mono ?_; rintro r wy ⟨rfl, ey⟩; obtain rfl := ey.symm; rw [HIN.out])
  refine (portBits_any p hp.1 hp.2 _).mono ?_
  rintro r wy ⟨rfl, ey⟩
  obtain rfl := ey.symm
  go_wp2_with fail
  refine (repeat_made w2.heap.size p hp.1 hp.2 _ k2).mono ?_
  rintro r w4 ⟨a4, c4, rfl, hI, hb4⟩
  have hV : VOwn w4 w1.heap.size (some ⟨w1.heap.size, 0, none⟩) 1 1 a4 p c4 ⟨[⟨1, allOf p, allOf p⟩], List.replicate p 1⟩ := ⟨gown_below hR hb4, gown_lt hI b13.size, ones_i64 _⟩
  have b14 := gr_trans b13 hb4
  obtain ⟨⟨g0, g1⟩, f0, f1⟩ := cells2 (kept_block k0 b14)
  have HO := hide ((hV.set2 (g := w.heap.size) z1.out (.slice (some ⟨w1.heap.size, 0, none⟩) 1 1) (.slice a4 p c4)).lt (base' := w.heap.size) b01.size)
  have HB := hide (below_set (below_set (gr_trans b01 b14) (Nat.le_refl _) 0 (.slice (some ⟨w1.heap.size, 0, none⟩) 1 1)) (Nat.le_refl _) 1 (.slice a4 p c4))
  clear hV hI hR hb4
  go_wp2
  exact bodyPost_ret (v := .agg #[.slice (some ⟨w1.heap.size, 0, none⟩) 1 1, .slice a4 p c4]) (by simp [results, Tryz.results68, go_sem, *]) rfl ⟨_, _, _, _, _, _, rfl, HO.out, HB.out⟩

def zeroPt : PT := ⟨false, 0, false, ⟨0, 0, 0, 0, 0⟩⟩

theorem pt_size : (Tryz.prog.info? 89).map (·.size) = some ptF.k := by kernel_rfl

set_option maxRecDepth 100000 in
set_option maxHeartbeats 4000000 in
theorem repeatP_made (g p : Nat) (h1 : 1 ≤ p) (h6 : p ≤ 6) (w : World) (kg : w.heap[g]? = some (.cells #[.bool false, .int .i64 1, .bool false, .int .i64 0, .int .i64 0, .int .i64 0, .int .i64 0, .int .i64 0] 89)) :
  Calls Tryz.prog 67 #[.slice (some ⟨g, 0, none⟩) 1 1, .int .i64 p] w fun e w' => ∃ a' c', e = .returned (.slice a' p c') ∧ w'.ownsRow w.heap.size 89 8 (.slice a' p c') p (ptF.all (List.replicate p newPt)) ∧ Below w.heap.size w w' := by
 obtain ⟨i0, hi, hz0, hz1, hz2⟩ := finfo_parts (k := 8) ptInfo
 have hnn : ¬ ((p : Int) < 0) := by omega
 have hwp : IntKind.u64.wrap (p : Int) = (p : Int) := by rw [IntKind.wrap_u64]; omega
 have hwq : IntKind.i64.wrap (p : Int) = (p : Int) := by rw [IntKind.wrap_i64]; omega
 have hbig : ¬ ((9223372036854775807 : Int) < (p : Int)) := by omega
 go_enter Tryz.func67, Tryz.ntmps67
 go_wp2_with fail
 refine (mul_any p h1 h6 _).mono ?_
 rintro e w1 ⟨rfl, e1⟩
 obtain rfl := e1.symm
 go_wp2_with (at_make; refine wpList_make_full _ rfl _ _ 65 rfl w.heap.size 89 i0 (.agg #[.bool false, .int .i64 0, .bool false, .int .i64 0, .int .i64 0, .int .i64 0, .int .i64 0, .int .i64 0]) 8 Tryz.underlying65 hi hz0 hz1 .i64 .i64 _ _ p rfl rfl rfl rfl ?c1 ?c2 ?c3 ?_)
 case c1 => rw [hz2]; omega
 case c2 => unfold maxLen; omega
 case c3 => exact Nat.le_refl _
 intro w1 hown hgrow
 have hb1 : Below w.heap.size w w1 := (Below.refl _ _).grown hgrow (Nat.le_refl _) (by intro k hk; cases hk)
 have hown1 : w1.ownsRow w.heap.size 89 8 (.slice (some ⟨w.heap.size, 0, none⟩) p p) p (ptF.all (repTo newPt zeroPt p 0)) := by
  unfold repTo
  rw [List.replicate_zero, List.nil_append, Nat.sub_zero]
  have := flat_made ptF zeroPt p
  rw [← this]
  exact hown
 have kg1 := kept_block kg hb1
 obtain ⟨w2, hcp, hO2, hg2⟩ := rep_copy ptF (P := Tryz.prog) (tS := 65) Tryz.underlying65 pt_size (x := newPt) (z := zeroPt) (m := 1) (a := ⟨g, 0, none⟩) (dl := p) (sl := 1) hown1 (by omega) (Nat.min_eq_left h1) (by
  intro j v hj
  rw [add_none, Nat.zero_add]
  rw [show w1.cell? ⟨g, j, none⟩ = (#[.bool false, .int .i64 1, .bool false, .int .i64 0, .int .i64 0, .int .i64 0, .int .i64 0, .int .i64 0] : Array Value)[j]? from by simp [World.cell?, kg1], ← Array.getElem?_toList]
  exact hj)
 have HO2 : Hid (w2.ownsRow w.heap.size 89 8 (.slice (some ⟨w.heap.size, 0, none⟩) p p) p (ptF.all (repTo newPt zeroPt p 1))) := hide hO2
 have HB2 : Hid (Below w.heap.size w w2) := hide (hb1.grown hg2 hb1.size (by intro k hk; cases hk; exact Nat.le_refl _))
 rw [Nat.zero_mul] at hcp
 clear hown hgrow hi hz0 hz1 hz2 hown1 hO2 hg2 kg1 hb1
 go_wp2_with (at_builtin; refine wpList_copy_eq _ rfl _ _ 65 65 rfl _ _ rfl rfl (hcp _ _ _) ?_)
 go_wp2
 go_loopw [8] (fun i wr => ∃ k : Nat, 1 ≤ k ∧ k ≤ p ∧ i = .int .i64 k ∧ wr.ownsRow w.heap.size 89 8 (.slice (some ⟨w.heap.size, 0, none⟩) p p) p (ptF.all (repTo newPt zeroPt p k)) ∧ Below w.heap.size w wr) (fun i _ => p - (intOf i).toNat)
 case atStart => exact ⟨1, Nat.le_refl _, h1, rfl, HO2.out, HB2.out⟩
 case round =>
  obtain ⟨k, hk1, hk, rfl, ho, hb⟩ := hrel
  by_cases hlt : k < p
  ·have ho' : wr.drew.ownsRow w.heap.size 89 8 (.slice (some ⟨w.heap.size, 0, none⟩) p p) p (ptF.all (repTo newPt zeroPt p k)) := gown_below ho (gr_drew (Below.refl _ _))
   have hm1 : Nat.min k (p - k) ≤ k := Nat.min_le_left _ _
   have hm2 : Nat.min k (p - k) ≤ p - k := Nat.min_le_right _ _
   have hm3 : 1 ≤ Nat.min k (p - k) := Nat.le_min.2 ⟨hk1, by omega⟩
   obtain ⟨w3, hcp3, hO3, hg3⟩ := rep_copy ptF (P := Tryz.prog) (tS := 65) Tryz.underlying65 pt_size (w := wr.drew) (x := newPt) (z := zeroPt) (m := Nat.min k (p - k)) (a := ⟨w.heap.size, 0, none⟩) (dl := p - k) (sl := k) ho' (by omega) rfl (by
    intro j v hj
    have hjl := (List.getElem?_eq_some_iff.1 hj).1
    rw [ptF.all_length, List.length_replicate, show ptF.k = 8 from rfl] at hjl
    rw [add_none, Nat.zero_add, ho'.cellAt j (by omega)]
    unfold repTo
    rw [ptF.all_append, List.getElem?_append_left (by rw [ptF.all_length, List.length_replicate, show ptF.k = 8 from rfl]; omega)]
    rw [show List.replicate k newPt = List.replicate (Nat.min k (p - k)) newPt ++ List.replicate (k - Nat.min k (p - k)) newPt by rw [List.replicate_append_replicate]; congr 1; omega, ptF.all_append, List.getElem?_append_left (by rw [ptF.all_length, List.length_replicate, show ptF.k = 8 from rfl]; omega)]
    exact hj)
   have HO := hide hO3
   have HB := hide (hb.drew.grown hg3 (by simpa using hb.size) (by intro j hj; cases hj; exact Nat.le_refl _))
   have hcp : ∀ ty dc sc, (Builtin.copy_ #[65, 65] ty #[.slice (some ⟨w.heap.size, k * 8, none⟩) (p - k) dc, .slice (some ⟨w.heap.size, 0, none⟩) k sc]).run Tryz.prog wr.drew = .ok (goInt (Nat.min k (p - k))) w3 := hcp3
   have i1 : (0 : Int) ≤ (k : Int) := by omega
   have i2 : (k : Int) ≤ (p : Int) := by omega
   have i3 : ¬ (p = k) := by omega
   have i4 : IntKind.i64.wrap ((k : Int) + (Nat.min k (p - k) : Nat)) = ((k + Nat.min k (p - k) : Nat) : Int) := by rw [IntKind.wrap_i64]; omega
   clear hcp3 hO3 hg3 ho ho' hb
   go_wp2_with fail
   refine wp_region_held_drew (S := (fun _ => True)) (by kernel_rfl) (trivial) (fun hHeld => ?_)
   refine kK 0 ⟨some 38, .move (.tmp 8), 3, "slices.go:528", #[], none⟩ ?_
   refine kK 1 ⟨some 39, .move (.tmp 7), 65, "slices.go:528", #[], none⟩ ?_
   refine kK 2 ⟨some 40, .move (.tmp 8), 3, "slices.go:528", #[], none⟩ ?_
   refine kK 3 ⟨some 41, .slice 65 (.tmp 39) (some (.tmp 40)) none none, 65, "slices.go:528", #[⟨1, .data⟩, ⟨2, .data⟩], none⟩ ?_
   refine kK 4 ⟨some 42, .move (.tmp 7), 65, "slices.go:528", #[], none⟩ ?_
   refine kK 5 ⟨some 43, .move (.tmp 8), 3, "slices.go:528", #[], none⟩ ?_
   refine kK 6 ⟨some 44, .slice 65 (.tmp 42) none (some (.tmp 43)) none, 65, "slices.go:528", #[⟨4, .data⟩, ⟨5, .data⟩], none⟩ ?_
   refine kR 7 ⟨some 45, .call ⟨.builtin .copy, #[.tmp 41, .tmp 44], #[65, 65]⟩, 3, "slices.go:528", #[⟨3, .data⟩, ⟨6, .data⟩], none⟩ (fun K hK => ?_)
   refine step_copy_eq rfl _ _ 65 65 rfl _ _ rfl rfl (hcp _ _ _) ?_
   refine hK.out _ _ (trivial) (fun hHeld => ?_)
   clear hK K
   try simp only [Act.put, lA, lB, lC]
   refine kK 8 ⟨some 46, .binOp .add 3 (.tmp 38) (.tmp 45) 3, 3, "slices.go:528", #[⟨0, .data⟩, ⟨7, .data⟩], none⟩ ?_
   refine kK 9 ⟨some 8, .assign (.tmp 46), 3, "slices.go:528", #[⟨8, .data⟩, ⟨7, .chain⟩, ⟨0, .phase⟩, ⟨1, .phase⟩, ⟨2, .phase⟩, ⟨3, .phase⟩, ⟨4, .phase⟩, ⟨5, .phase⟩, ⟨6, .phase⟩, ⟨7, .phase⟩, ⟨8, .phase⟩], none⟩ ?_
   refine wpAnyH_done (by kernel_rfl) ?_ _
   clear hHeld
   go_wp2
   go_roundw
   case rel => exact ⟨k + Nat.min k (p - k), by omega, by omega, by go_num, HO.out, HB.out⟩
   case measure => simp [intOf]; omega
  ·have hkp : k = p := by omega
   subst hkp
   have HO : Hid (wr.ownsRow w.heap.size 89 8 (.slice (some ⟨w.heap.size, 0, none⟩) k k) k (ptF.all (List.replicate k newPt))) := hide (by
    have h := ho
    unfold repTo at h
    rw [Nat.sub_self, List.replicate_zero, List.append_nil] at h
    exact h)
   have HB := hide hb
   clear ho hb
   go_wp2
   go_ret
   exact ⟨_, _, rfl, HO.out, HB.out⟩

def bridgeNewAt (id ports : Int) : BR := if (decide (1 ≤ id) && decide (id ≤ 99)) && (decide (1 ≤ ports) && decide (ports ≤ 6)) then bridgeNew id ports.toNat else zeroBr

set_option maxRecDepth 100000 in
set_option maxHeartbeats 4000000 in
theorem specNew_any (id ports : Int) (w : World) : Calls Tryz.prog 43 #[.int .i64 id, .int .i64 ports] w fun e w' => ∃ (a2 : Option Addr) (n2 c2 : Nat) (fa2 : Option Addr) (fn2 fc2 : Nat) (ra2 : Option Addr) (rn2 rc2 : Nat) (oa2 : Option Addr) (on2 oc2 : Nat), e = .returned (.agg #[.int .i64 (bridgeNewAt id ports).id, .string (bridgeNewAt id ports).name, .slice a2 n2 c2, .slice fa2 fn2 fc2, .slice ra2 rn2 rc2, .slice oa2 on2 oc2, .int .i64 (bridgeNewAt id ports).ticks, .int .i64 (bridgeNewAt id ports).parse, .int .i64 (bridgeNewAt id ports).word, .int .i64 (bridgeNewAt id ports).drops, .int .i64 (bridgeNewAt id ports).vers]) ∧ BrOwn w' w.heap.size a2 n2 c2 fa2 fn2 fc2 ra2 rn2 rc2 oa2 on2 oc2 (bridgeNewAt id ports) ∧ Below w.heap.size w w' := by
 cases hid : (decide (1 ≤ id) && decide (id ≤ 99))
 ·have HE : Hid (bridgeNewAt id ports = zeroBr) := hide (by unfold bridgeNewAt; rw [hid]; rfl)
  have HID := hide hid
  clear hid
  generalize hw1 : w.alloc (Obj.cells #[.int .i64 0, .string ⟨#[]⟩, .slice none 0 0, .slice none 0 0, .slice none 0 0, .slice none 0 0, .int .i64 0, .int .i64 0, .int .i64 0, .int .i64 0, .int .i64 0] 71) = w1
  have b1 : Below w.heap.size w w1 := by rw [← hw1]; exact below_one _ _
  have kJ : w1.heap[w.heap.size]? = some (.cells #[.int .i64 0, .string ⟨#[]⟩, .slice none 0 0, .slice none 0 0, .slice none 0 0, .slice none 0 0, .int .i64 0, .int .i64 0, .int .i64 0, .int .i64 0, .int .i64 0] 71) := by rw [← hw1]; exact block_last _ _
  obtain ⟨u0, u1, u2, u3, u4, u5, u6, u7, u8, u9, u10⟩ := cells11 kJ
  have fr := frozen8 kJ
  have fr0 := fr 0
  have fr1 := fr 1
  have fr2 := fr 2
  have fr3 := fr 3
  have fr4 := fr 4
  have fr5 := fr 5
  have fr6 := fr 6
  have fr7 := fr 7
  have fr8 := fr 8
  have fr9 := fr 9
  have fr10 := fr 10
  have HO := hide ((zeroBr_own w1 w.heap.size).boxed11 kJ (.int .i64 0) (.string ⟨#[]⟩) (.slice none 0 0) (.slice none 0 0) (.slice none 0 0) (.slice none 0 0) (.int .i64 0) (.int .i64 0) (.int .i64 0) (.int .i64 0) (.int .i64 0))
  have HB := hide (below_set11 b1 (Nat.le_refl _) (.int .i64 0) (.string ⟨#[]⟩) (.slice none 0 0) (.slice none 0 0) (.slice none 0 0) (.slice none 0 0) (.int .i64 0) (.int .i64 0) (.int .i64 0) (.int .i64 0) (.int .i64 0))
  clear fr b1 kJ
  go_enter Tryz.func43, Tryz.ntmps43
  go_wp2_with fail
  refine (within_any id 1 99 _).mono ?_
  rintro r wx ⟨rfl, ew⟩
  obtain rfl := ew.symm
  rw [HID.out]
  go_wp2
  exact bodyPost_ret (v := .agg #[.int .i64 0, .string ⟨#[]⟩, .slice none 0 0, .slice none 0 0, .slice none 0 0, .slice none 0 0, .int .i64 0, .int .i64 0, .int .i64 0, .int .i64 0, .int .i64 0]) (by simp [results, Tryz.results43, go_sem, *]) rfl ⟨none, 0, 0, none, 0, 0, none, 0, 0, none, 0, 0, (by rw [HE.out]; rfl), (by rw [HE.out]; exact HO.out), HB.out⟩
 cases hm : (decide (1 ≤ ports) && decide (ports ≤ 6))
 ·have HE : Hid (bridgeNewAt id ports = zeroBr) := hide (by unfold bridgeNewAt; rw [hid, hm]; rfl)
  have HID := hide hid
  have HM := hide hm
  clear hid hm
  generalize hw1 : w.alloc (Obj.cells #[.int .i64 0, .string ⟨#[]⟩, .slice none 0 0, .slice none 0 0, .slice none 0 0, .slice none 0 0, .int .i64 0, .int .i64 0, .int .i64 0, .int .i64 0, .int .i64 0] 71) = w1
  have b1 : Below w.heap.size w w1 := by rw [← hw1]; exact below_one _ _
  have kJ : w1.heap[w.heap.size]? = some (.cells #[.int .i64 0, .string ⟨#[]⟩, .slice none 0 0, .slice none 0 0, .slice none 0 0, .slice none 0 0, .int .i64 0, .int .i64 0, .int .i64 0, .int .i64 0, .int .i64 0] 71) := by rw [← hw1]; exact block_last _ _
  obtain ⟨u0, u1, u2, u3, u4, u5, u6, u7, u8, u9, u10⟩ := cells11 kJ
  have fr := frozen8 kJ
  have fr0 := fr 0
  have fr1 := fr 1
  have fr2 := fr 2
  have fr3 := fr 3
  have fr4 := fr 4
  have fr5 := fr 5
  have fr6 := fr 6
  have fr7 := fr 7
  have fr8 := fr 8
  have fr9 := fr 9
  have fr10 := fr 10
  have HO := hide ((zeroBr_own w1 w.heap.size).boxed11 kJ (.int .i64 0) (.string ⟨#[]⟩) (.slice none 0 0) (.slice none 0 0) (.slice none 0 0) (.slice none 0 0) (.int .i64 0) (.int .i64 0) (.int .i64 0) (.int .i64 0) (.int .i64 0))
  have HB := hide (below_set11 b1 (Nat.le_refl _) (.int .i64 0) (.string ⟨#[]⟩) (.slice none 0 0) (.slice none 0 0) (.slice none 0 0) (.slice none 0 0) (.int .i64 0) (.int .i64 0) (.int .i64 0) (.int .i64 0) (.int .i64 0))
  clear fr b1 kJ
  go_enter Tryz.func43, Tryz.ntmps43
  go_wp2_with fail
  refine (within_any id 1 99 _).mono ?_
  rintro r wx ⟨rfl, ew⟩
  obtain rfl := ew.symm
  rw [HID.out]
  go_wp2_with fail
  refine (within_any ports 1 6 _).mono ?_
  rintro r wx ⟨rfl, ew⟩
  obtain rfl := ew.symm
  rw [HM.out]
  go_wp2
  exact bodyPost_ret (v := .agg #[.int .i64 0, .string ⟨#[]⟩, .slice none 0 0, .slice none 0 0, .slice none 0 0, .slice none 0 0, .int .i64 0, .int .i64 0, .int .i64 0, .int .i64 0, .int .i64 0]) (by simp [results, Tryz.results43, go_sem, *]) rfl ⟨none, 0, 0, none, 0, 0, none, 0, 0, none, 0, 0, (by rw [HE.out]; rfl), (by rw [HE.out]; exact HO.out), HB.out⟩
 obtain ⟨m, rfl⟩ : ∃ m : Nat, ports = (m : Int) := ⟨ports.toNat, by simp at hm; omega⟩
 have HE : Hid (bridgeNewAt id (m : Int) = bridgeNew id m) := hide (by unfold bridgeNewAt; rw [hid, hm, Int.toNat_natCast]; rfl)
 refine (specBridgeNew_made id m w hid hm).mono ?_
 rintro e w' ⟨a, c, ra, rn, rc, oa, on, oc, rfl, ho, hb⟩
 rw [HE.out]
 exact ⟨a, m, c, none, 0, 0, ra, rn, rc, oa, on, oc, rfl, ho, hb⟩

set_option maxRecDepth 100000 in
set_option maxHeartbeats 4000000 in
theorem implNew_any (id ports : Int) (w : World) : Calls Tryz.prog 37 #[.int .i64 id, .int .i64 ports] w fun e w' => ∃ (a2 : Option Addr) (n2 c2 : Nat) (fa2 : Option Addr) (fn2 fc2 : Nat) (ra2 : Option Addr) (rn2 rc2 : Nat) (oa2 : Option Addr) (on2 oc2 : Nat), e = .returned (.agg #[.int .i64 (bridgeNewAt id ports).id, .string (bridgeNewAt id ports).name, .slice a2 n2 c2, .slice fa2 fn2 fc2, .slice ra2 rn2 rc2, .slice oa2 on2 oc2, .int .i64 (bridgeNewAt id ports).ticks, .int .i64 (bridgeNewAt id ports).parse, .int .i64 (bridgeNewAt id ports).word, .int .i64 (bridgeNewAt id ports).drops, .int .i64 (bridgeNewAt id ports).vers]) ∧ BrOwn w' w.heap.size a2 n2 c2 fa2 fn2 fc2 ra2 rn2 rc2 oa2 on2 oc2 (bridgeNewAt id ports) ∧ Below w.heap.size w w' := by
 cases hid : (decide (1 ≤ id) && decide (id ≤ 99))
 ·have HE : Hid (bridgeNewAt id ports = zeroBr) := hide (by unfold bridgeNewAt; rw [hid]; rfl)
  have HID := hide hid
  clear hid
  generalize hw1 : w.alloc (Obj.cells #[.int .i64 0, .string ⟨#[]⟩, .slice none 0 0, .slice none 0 0, .slice none 0 0, .slice none 0 0, .int .i64 0, .int .i64 0, .int .i64 0, .int .i64 0, .int .i64 0] 71) = w1
  have b1 : Below w.heap.size w w1 := by rw [← hw1]; exact below_one _ _
  have kJ : w1.heap[w.heap.size]? = some (.cells #[.int .i64 0, .string ⟨#[]⟩, .slice none 0 0, .slice none 0 0, .slice none 0 0, .slice none 0 0, .int .i64 0, .int .i64 0, .int .i64 0, .int .i64 0, .int .i64 0] 71) := by rw [← hw1]; exact block_last _ _
  obtain ⟨u0, u1, u2, u3, u4, u5, u6, u7, u8, u9, u10⟩ := cells11 kJ
  have fr := frozen8 kJ
  have fr0 := fr 0
  have fr1 := fr 1
  have fr2 := fr 2
  have fr3 := fr 3
  have fr4 := fr 4
  have fr5 := fr 5
  have fr6 := fr 6
  have fr7 := fr 7
  have fr8 := fr 8
  have fr9 := fr 9
  have fr10 := fr 10
  have HO := hide ((zeroBr_own w1 w.heap.size).boxed11 kJ (.int .i64 0) (.string ⟨#[]⟩) (.slice none 0 0) (.slice none 0 0) (.slice none 0 0) (.slice none 0 0) (.int .i64 0) (.int .i64 0) (.int .i64 0) (.int .i64 0) (.int .i64 0))
  have HB := hide (below_set11 b1 (Nat.le_refl _) (.int .i64 0) (.string ⟨#[]⟩) (.slice none 0 0) (.slice none 0 0) (.slice none 0 0) (.slice none 0 0) (.int .i64 0) (.int .i64 0) (.int .i64 0) (.int .i64 0) (.int .i64 0))
  clear fr b1 kJ
  go_enter Tryz.func37, Tryz.ntmps37
  go_wp2_with fail
  refine (implIn_any id 1 99 _).mono ?_
  rintro r wx ⟨rfl, ew⟩
  obtain rfl := ew.symm
  rw [HID.out]
  go_wp2
  exact bodyPost_ret (v := .agg #[.int .i64 0, .string ⟨#[]⟩, .slice none 0 0, .slice none 0 0, .slice none 0 0, .slice none 0 0, .int .i64 0, .int .i64 0, .int .i64 0, .int .i64 0, .int .i64 0]) (by simp [results, Tryz.results37, go_sem, *]) rfl ⟨none, 0, 0, none, 0, 0, none, 0, 0, none, 0, 0, (by rw [HE.out]; rfl), (by rw [HE.out]; exact HO.out), HB.out⟩
 cases hm : (decide (1 ≤ ports) && decide (ports ≤ 6))
 ·have HE : Hid (bridgeNewAt id ports = zeroBr) := hide (by unfold bridgeNewAt; rw [hid, hm]; rfl)
  have HID := hide hid
  have HM := hide hm
  clear hid hm
  generalize hw1 : w.alloc (Obj.cells #[.int .i64 0, .string ⟨#[]⟩, .slice none 0 0, .slice none 0 0, .slice none 0 0, .slice none 0 0, .int .i64 0, .int .i64 0, .int .i64 0, .int .i64 0, .int .i64 0] 71) = w1
  have b1 : Below w.heap.size w w1 := by rw [← hw1]; exact below_one _ _
  have kJ : w1.heap[w.heap.size]? = some (.cells #[.int .i64 0, .string ⟨#[]⟩, .slice none 0 0, .slice none 0 0, .slice none 0 0, .slice none 0 0, .int .i64 0, .int .i64 0, .int .i64 0, .int .i64 0, .int .i64 0] 71) := by rw [← hw1]; exact block_last _ _
  obtain ⟨u0, u1, u2, u3, u4, u5, u6, u7, u8, u9, u10⟩ := cells11 kJ
  have fr := frozen8 kJ
  have fr0 := fr 0
  have fr1 := fr 1
  have fr2 := fr 2
  have fr3 := fr 3
  have fr4 := fr 4
  have fr5 := fr 5
  have fr6 := fr 6
  have fr7 := fr 7
  have fr8 := fr 8
  have fr9 := fr 9
  have fr10 := fr 10
  have HO := hide ((zeroBr_own w1 w.heap.size).boxed11 kJ (.int .i64 0) (.string ⟨#[]⟩) (.slice none 0 0) (.slice none 0 0) (.slice none 0 0) (.slice none 0 0) (.int .i64 0) (.int .i64 0) (.int .i64 0) (.int .i64 0) (.int .i64 0))
  have HB := hide (below_set11 b1 (Nat.le_refl _) (.int .i64 0) (.string ⟨#[]⟩) (.slice none 0 0) (.slice none 0 0) (.slice none 0 0) (.slice none 0 0) (.int .i64 0) (.int .i64 0) (.int .i64 0) (.int .i64 0) (.int .i64 0))
  clear fr b1 kJ
  go_enter Tryz.func37, Tryz.ntmps37
  go_wp2_with fail
  refine (implIn_any id 1 99 _).mono ?_
  rintro r wx ⟨rfl, ew⟩
  obtain rfl := ew.symm
  rw [HID.out]
  go_wp2_with fail
  refine (implIn_any ports 1 6 _).mono ?_
  rintro r wx ⟨rfl, ew⟩
  obtain rfl := ew.symm
  rw [HM.out]
  go_wp2
  exact bodyPost_ret (v := .agg #[.int .i64 0, .string ⟨#[]⟩, .slice none 0 0, .slice none 0 0, .slice none 0 0, .slice none 0 0, .int .i64 0, .int .i64 0, .int .i64 0, .int .i64 0, .int .i64 0]) (by simp [results, Tryz.results37, go_sem, *]) rfl ⟨none, 0, 0, none, 0, 0, none, 0, 0, none, 0, 0, (by rw [HE.out]; rfl), (by rw [HE.out]; exact HO.out), HB.out⟩
 obtain ⟨m, rfl⟩ : ∃ m : Nat, ports = (m : Int) := ⟨ports.toNat, by simp at hm; omega⟩
 have HE : Hid (bridgeNewAt id (m : Int) = bridgeNew id m) := hide (by unfold bridgeNewAt; rw [hid, hm, Int.toNat_natCast]; rfl)
 have h6 : 1 ≤ m ∧ m ≤ 6 := by simp at hm; omega
 have HID := hide hid
 have HM := hide hm
 clear hid hm
 generalize hw1 : w.alloc (Obj.cells #[.int .i64 0, .string ⟨#[]⟩, .slice none 0 0, .slice none 0 0, .slice none 0 0, .slice none 0 0, .int .i64 0, .int .i64 0, .int .i64 0, .int .i64 0, .int .i64 0] 71) = w1
 have b1 : Below w.heap.size w w1 := by rw [← hw1]; exact below_one _ _
 have kJ : w1.heap[w.heap.size]? = some (.cells #[.int .i64 0, .string ⟨#[]⟩, .slice none 0 0, .slice none 0 0, .slice none 0 0, .slice none 0 0, .int .i64 0, .int .i64 0, .int .i64 0, .int .i64 0, .int .i64 0] 71) := by rw [← hw1]; exact block_last _ _
 generalize hw2 : w1.alloc (Obj.cells #[.bool false, .int .i64 1, .bool false, .int .i64 0, .int .i64 0, .int .i64 0, .int .i64 0, .int .i64 0] 89) = w2
 have b2 : Below w1.heap.size w1 w2 := by rw [← hw2]; exact below_one _ _
 have kP : w2.heap[w1.heap.size]? = some (.cells #[.bool false, .int .i64 1, .bool false, .int .i64 0, .int .i64 0, .int .i64 0, .int .i64 0, .int .i64 0] 89) := by rw [← hw2]; exact block_last _ _
 have b02 := gr_trans b1 b2
 have kJ := kept_block kJ b2
 go_enter Tryz.func37, Tryz.ntmps37
 go_wp2_with fail
 refine (implIn_any id 1 99 _).mono ?_
 rintro r wx ⟨rfl, ew⟩
 obtain rfl := ew.symm
 rw [HID.out]
 go_wp2_with fail
 refine (implIn_any (m : Int) 1 6 _).mono ?_
 rintro r wx ⟨rfl, ew⟩
 obtain rfl := ew.symm
 rw [HM.out]
 go_wp2_with fail
 refine (repeatP_made w1.heap.size m h6.1 h6.2 _ kP).mono ?_
 rintro e w3 ⟨a5, c5, rfl, o5, hb3⟩
 have o5 := gown_lt o5 (base' := w.heap.size) b02.size
 have b03 := gr_trans b02 hb3
 have kJ := kept_block kJ hb3
 clear hw1 hw2 b1 b2 b02 hb3 kP
 go_wp2_with fail
 refine (implVtabNew_made (m : Int) _).mono ?_
 rintro e w4 ⟨ra, rn, rc, oa, on, oc, rfl, hv, hb4⟩
 have hv := hv.lt (base' := w.heap.size) b03.size
 have b04 := gr_trans b03 hb4
 have kJ := kept_block kJ hb4
 have own4 : BrOwn w4 w.heap.size a5 m c5 none 0 0 ra rn rc oa on oc (bridgeNew id m) := ⟨gown_below o5 hb4, World.ownsRow_nil _ _ _ _, hv⟩
 obtain ⟨u0, u1, u2, u3, u4, u5, u6, u7, u8, u9, u10⟩ := cells11 kJ
 have fr := frozen8 kJ
 have fr0 := fr 0
 have fr1 := fr 1
 have fr2 := fr 2
 have fr3 := fr 3
 have fr4 := fr 4
 have fr5 := fr 5
 have fr6 := fr 6
 have fr7 := fr 7
 have fr8 := fr 8
 have fr9 := fr 9
 have fr10 := fr 10
 have HO := hide (own4.boxed11 kJ (.int .i64 id) (.string ⟨#[]⟩) (.slice a5 m c5) (.slice none 0 0) (.slice ra rn rc) (.slice oa on oc) (.int .i64 0) (.int .i64 0) (.int .i64 0) (.int .i64 0) (.int .i64 0))
 have HB := hide (below_set11 b04 (Nat.le_refl _) (.int .i64 id) (.string ⟨#[]⟩) (.slice a5 m c5) (.slice none 0 0) (.slice ra rn rc) (.slice oa on oc) (.int .i64 0) (.int .i64 0) (.int .i64 0) (.int .i64 0) (.int .i64 0))
 clear fr kJ own4 o5 hb4 hv b03 b04
 go_wp2
 exact bodyPost_ret (v := .agg #[.int .i64 id, .string ⟨#[]⟩, .slice a5 m c5, .slice none 0 0, .slice ra rn rc, .slice oa on oc, .int .i64 0, .int .i64 0, .int .i64 0, .int .i64 0, .int .i64 0]) (by simp [results, Tryz.results37, go_sem, *]) rfl ⟨a5, m, c5, none, 0, 0, ra, rn, rc, oa, on, oc, (by rw [HE.out]; rfl), (by rw [HE.out]; exact HO.out), HB.out⟩

def raiseTo (B : BR) : Nat → BR
 | 0 => B
 | p + 1 => linkB (raiseTo B p) (p : Int) true
def raised (B : BR) : BR := raiseTo B B.ports.length
def upPt : PT := ⟨true, 1, false, ⟨0, 0, 0, 0, 0⟩⟩

theorem new_parts : ∀ m ∈ ([1, 2, 3, 4, 5, 6] : List Nat), (List.replicate m newPt).all ptOk = true ∧ in3 ((List.replicate m newPt).length : Int) 1 6 = true ∧ fdbOk [] = true ∧ vtabOk (vtabNew m) ((List.replicate m newPt).length : Int) = true := by decide

theorem new_ok13 {id : Int} {m : Nat} (hid : 1 ≤ id ∧ id ≤ 99) (hm : 1 ≤ m ∧ m ≤ 6) : bridgeOk (bridgeNew id m) = true := by
 obtain ⟨h1, h2, h3, h4⟩ := new_parts m (by
  have : m = 1 ∨ m = 2 ∨ m = 3 ∨ m = 4 ∨ m = 5 ∨ m = 6 := by omega
  simpa using this)
 unfold bridgeOk bridgeNew
 simp only [h1, h2, h3, h4, Bool.true_and]
 have h5 : in3 id 1 99 = true := by unfold in3; simp; omega
 rw [h5]
 rfl

theorem set_raise (p m : Nat) (hp : p < m) : (List.replicate p upPt ++ List.replicate (m - p) newPt).set p upPt = List.replicate (p + 1) upPt ++ List.replicate (m - (p + 1)) newPt := by
 rw [List.set_append_right _ _ (by simp), List.length_replicate, Nat.sub_self]
 obtain ⟨k, hk⟩ : ∃ k, m - p = k + 1 := ⟨m - p - 1, by omega⟩
 rw [hk, List.replicate_succ, List.set_cons_zero, show m - (p + 1) = k by omega, List.replicate_succ' (n := p), List.append_assoc]
 rfl

theorem raise_is {id : Int} {m : Nat} (hid : 1 ≤ id ∧ id ≤ 99) (hm : 1 ≤ m ∧ m ≤ 6) : ∀ (p : Nat), p ≤ m → bridgeOk (raiseTo (bridgeNew id m) p) = true ∧ (raiseTo (bridgeNew id m) p).id = id ∧ (raiseTo (bridgeNew id m) p).ports = List.replicate p upPt ++ List.replicate (m - p) newPt
 | 0, _ => ⟨new_ok13 hid hm, rfl, by simp [raiseTo, bridgeNew]⟩
 | p + 1, hp => by
  obtain ⟨h1, h2, h3⟩ := raise_is hid hm p (by omega)
  have hl : (raiseTo (bridgeNew id m) p).ports.length = m := by rw [h3]; simp; omega
  have ht : thereB (raiseTo (bridgeNew id m) p) (p : Int) = true := by unfold thereB; rw [h1, hl]; simp; omega
  have hx : (raiseTo (bridgeNew id m) p).ports[(p : Int).toNat]? = some newPt := by
   rw [Int.toNat_natCast, h3, List.getElem?_append_right (by simp), List.length_replicate, Nat.sub_self]
   obtain ⟨k, hk⟩ : ∃ k, m - p = k + 1 := ⟨m - p - 1, by omega⟩
   rw [hk]
   rfl
  have e : raiseTo (bridgeNew id m) (p + 1) = turned { raiseTo (bridgeNew id m) p with ports := (raiseTo (bridgeNew id m) p).ports.set p upPt } := by
   show linkB (raiseTo (bridgeNew id m) p) (p : Int) true = _
   unfold linkB
   rw [ht, hx, Int.toNat_natCast]
   rfl
  refine ⟨linkB_ok h1 _ _, ?_, ?_⟩
  ·rw [e]; exact h2
  ·rw [e]
   show (raiseTo (bridgeNew id m) p).ports.set p upPt = _
   rw [h3]
   exact set_raise p m (by omega)

theorem new_raised (id ports : Int) : (bridgeOk (raised (bridgeNewAt id ports)) = bridgeOk (bridgeNewAt id ports)) ∧ (raised (bridgeNewAt id ports)).id = (bridgeNewAt id ports).id ∧ (raised (bridgeNewAt id ports)).ports.length = (bridgeNewAt id ports).ports.length ∧ (∀ x ∈ (bridgeNewAt id ports).ports, x = newPt) ∧ (∀ x ∈ (raised (bridgeNewAt id ports)).ports, x = upPt) ∧ (bridgeOk (bridgeNewAt id ports) = true → ports = ((bridgeNewAt id ports).ports.length : Int)) := by
 unfold bridgeNewAt
 split
 ·next h =>
  simp only [Bool.and_eq_true, decide_eq_true_eq] at h
  obtain ⟨m, rfl⟩ : ∃ m : Nat, ports = (m : Int) := ⟨ports.toNat, by omega⟩
  rw [Int.toNat_natCast]
  have hl : (bridgeNew id m).ports.length = m := by simp [bridgeNew]
  obtain ⟨h1, h2, h3⟩ := raise_is h.1 (m := m) (by omega) m (Nat.le_refl _)
  unfold raised
  rw [hl]
  refine ⟨by rw [h1, new_ok13 h.1 (by omega)], h2, by rw [h3]; simp, ?_, ?_, fun _ => rfl⟩
  ·intro x hx; exact List.eq_of_mem_replicate hx
  ·intro x hx; rw [h3] at hx; simp at hx; exact hx.2
 ·refine ⟨rfl, rfl, rfl, (by intro x hx; cases hx), (by intro x hx; cases hx), fun h => ?_⟩
  have : bridgeOk zeroBr = false := by decide
  rw [this] at h
  cases h

theorem bridgeNew_parts (id ports : Int) : (bridgeNewAt id ports).f.length ≤ 6 ∧ (bridgeNewAt id ports).ports.length ≤ 6 ∧ (bridgeNewAt id ports).v.rows.length ≤ 6 ∧ (bridgeNewAt id ports).v.own.length ≤ 6 := by
 unfold bridgeNewAt
 split
 ·next h =>
  simp only [Bool.and_eq_true, decide_eq_true_eq] at h
  obtain ⟨m, rfl⟩ : ∃ m : Nat, ports = (m : Int) := ⟨ports.toNat, by omega⟩
  rw [Int.toNat_natCast]
  unfold bridgeNew vtabNew
  refine ⟨by simp, by simp; omega, ?_, ?_⟩
  ·split <;> simp
  ·split <;> simp <;> omega
 ·exact ⟨by decide, by decide, by decide, by decide⟩

def newBs (ids : List Int) (ports : Int) : List BR := ids.map fun i => bridgeNewAt i ports
def upBs (ids : List Int) (ports : Int) : List BR := ids.map fun i => raised (bridgeNewAt i ports)

theorem newBs_at {ids : List Int} {ports : Int} {i : Nat} {x : BR} (h : (newBs ids ports)[i]? = some x) : ∃ id, ids[i]? = some id ∧ x = bridgeNewAt id ports := by
 unfold newBs at h
 rw [List.getElem?_map] at h
 cases hi : ids[i]? with
 | none => rw [hi] at h; cases h
 | some id => rw [hi] at h; exact ⟨id, rfl, (Option.some.inj h).symm⟩
theorem upBs_at {ids : List Int} {ports : Int} {i : Nat} {x : BR} (h : (upBs ids ports)[i]? = some x) : ∃ id, ids[i]? = some id ∧ x = raised (bridgeNewAt id ports) := by
 unfold upBs at h
 rw [List.getElem?_map] at h
 cases hi : ids[i]? with
 | none => rw [hi] at h; cases h
 | some id => rw [hi] at h; exact ⟨id, rfl, (Option.some.inj h).symm⟩
theorem newBs_of {ids : List Int} {ports : Int} {i : Nat} {id : Int} (h : ids[i]? = some id) : (newBs ids ports)[i]? = some (bridgeNewAt id ports) := by unfold newBs; rw [List.getElem?_map, h]; rfl
theorem upBs_of {ids : List Int} {ports : Int} {i : Nat} {id : Int} (h : ids[i]? = some id) : (upBs ids ports)[i]? = some (raised (bridgeNewAt id ports)) := by unfold upBs; rw [List.getElem?_map, h]; rfl

theorem port_new {ids : List Int} {ports b p : Int} {u : PT} (h : portOf (newBs ids ports) b p = some u) : u = newPt ∧ portOf (upBs ids ports) b p = some upPt := by
 unfold portOf at h ⊢
 split at h
 ·next hc =>
  rw [if_pos hc]
  cases hB : (newBs ids ports)[b.toNat]? with
  | none => rw [hB] at h; cases h
  | some B =>
   rw [hB] at h
   obtain ⟨id, hi, rfl⟩ := newBs_at hB
   have h : (bridgeNewAt id ports).ports[p.toNat]? = some u := h
   obtain ⟨-, -, hl, h4, h5, -⟩ := new_raised id ports
   refine ⟨h4 u (List.mem_of_getElem? h), ?_⟩
   rw [upBs_of hi]
   show (raised (bridgeNewAt id ports)).ports[p.toNat]? = some upPt
   have hlt := (List.getElem?_eq_some_iff.1 h).1
   obtain ⟨y, hy⟩ : ∃ y, (raised (bridgeNewAt id ports)).ports[p.toNat]? = some y := ⟨_, List.getElem?_eq_getElem (by omega)⟩
   rw [hy, h5 y (List.mem_of_getElem? hy)]
 ·cases h
theorem port_up {ids : List Int} {ports b p : Int} {u : PT} (h : portOf (upBs ids ports) b p = some u) : u = upPt ∧ portOf (newBs ids ports) b p = some newPt := by
 unfold portOf at h ⊢
 split at h
 ·next hc =>
  rw [if_pos hc]
  cases hB : (upBs ids ports)[b.toNat]? with
  | none => rw [hB] at h; cases h
  | some B =>
   rw [hB] at h
   obtain ⟨id, hi, rfl⟩ := upBs_at hB
   have h : (raised (bridgeNewAt id ports)).ports[p.toNat]? = some u := h
   obtain ⟨-, -, hl, h4, h5, -⟩ := new_raised id ports
   refine ⟨h5 u (List.mem_of_getElem? h), ?_⟩
   rw [newBs_of hi]
   show (bridgeNewAt id ports).ports[p.toNat]? = some newPt
   have hlt := (List.getElem?_eq_some_iff.1 h).1
   obtain ⟨y, hy⟩ : ∃ y, (bridgeNewAt id ports).ports[p.toNat]? = some y := ⟨_, List.getElem?_eq_getElem (by omega)⟩
   rw [hy, h4 y (List.mem_of_getElem? hy)]
 ·cases h

theorem new_iff (ids : List Int) (ports : Int) (l : List LK) : NetOk (newBs ids ports) l [] ↔ NetOk (upBs ids ports) l [] := by
 have hq1 : Quiet (newBs ids ports) l := fun i B hB p x hx hh => by
  obtain ⟨id, -, rfl⟩ := newBs_at hB
  rw [(new_raised id ports).2.2.2.1 x (List.mem_of_getElem? hx)] at hh
  cases hh
 have hq2 : Quiet (upBs ids ports) l := fun i B hB p x hx hh => by
  obtain ⟨id, -, rfl⟩ := upBs_at hB
  rw [(new_raised id ports).2.2.2.2.1 x (List.mem_of_getElem? hx)] at hh
  cases hh
 have hbr : BridgesOk (newBs ids ports) ↔ BridgesOk (upBs ids ports) := by
  unfold BridgesOk IdsApart
  have hl : (newBs ids ports).length = (upBs ids ports).length := by simp [newBs, upBs]
  rw [hl]
  constructor
  ·rintro ⟨h1, h2, h3, h4⟩
   refine ⟨fun x hx => ?_, fun i j x y hij hx hy => ?_, h3, h4⟩
   ·obtain ⟨i, hi⟩ := List.getElem?_of_mem hx
    obtain ⟨id, hid, rfl⟩ := upBs_at hi
    rw [(new_raised id ports).1]
    exact h1 _ (List.mem_of_getElem? (newBs_of hid))
   ·obtain ⟨a, ha, rfl⟩ := upBs_at hx
    obtain ⟨b, hb, rfl⟩ := upBs_at hy
    rw [(new_raised a ports).2.1, (new_raised b ports).2.1]
    exact h2 i j _ _ hij (newBs_of ha) (newBs_of hb)
  ·rintro ⟨h1, h2, h3, h4⟩
   refine ⟨fun x hx => ?_, fun i j x y hij hx hy => ?_, h3, h4⟩
   ·obtain ⟨i, hi⟩ := List.getElem?_of_mem hx
    obtain ⟨id, hid, rfl⟩ := newBs_at hi
    rw [← (new_raised id ports).1]
    exact h1 _ (List.mem_of_getElem? (upBs_of hid))
   ·obtain ⟨a, ha, rfl⟩ := newBs_at hx
    obtain ⟨b, hb, rfl⟩ := newBs_at hy
    rw [← (new_raised a ports).2.1, ← (new_raised b ports).2.1]
    exact h2 i j _ _ hij (upBs_of ha) (upBs_of hb)
 have he : ∀ x : LK, EndsOk (newBs ids ports) x ↔ EndsOk (upBs ids ports) x := by
  intro x
  unfold EndsOk
  constructor
  ·rintro ⟨h, u, v, hu, hv, -⟩
   exact ⟨h, upPt, upPt, (port_new hu).2, (port_new hv).2, rfl⟩
  ·rintro ⟨h, u, v, hu, hv, -⟩
   exact ⟨h, newPt, newPt, (port_up hu).2, (port_up hv).2, rfl⟩
 have hln : LinksOk (newBs ids ports) l ↔ LinksOk (upBs ids ports) l := by
  unfold LinksOk LinkOk
  constructor
  ·rintro ⟨h1, h2⟩
   exact ⟨h1, fun x hx => ⟨(he x).1 (h2 x hx).1, (h2 x hx).2⟩⟩
  ·rintro ⟨h1, h2⟩
   exact ⟨h1, fun x hx => ⟨(he x).2 (h2 x hx).1, (h2 x hx).2⟩⟩
 unfold NetOk
 rw [hbr, hln]
 exact ⟨fun h => ⟨h.1, h.2.1, hq2, h.2.2.2⟩, fun h => ⟨h.1, h.2.1, hq1, h.2.2.2⟩⟩

theorem raiseTo_less (B : BR) : ∀ p, lessB (raiseTo B p) B
 | 0 => ⟨Nat.le_refl _, Nat.le_refl _, rfl⟩
 | p + 1 => less_trans (link_less _ _ _) (raiseTo_less B p)

set_option maxRecDepth 100000 in
set_option maxHeartbeats 8000000 in
theorem specUsed_any (N : NV) (b p : Int) (w : World) (h : NetRow w N) (hsm : N.ln ≤ 16777216) :
  Calls Tryz.prog 66 #[.agg #[.slice N.ba N.bn N.bc, .slice N.la N.ln N.lc, .slice N.sa N.sn N.sc], .int .i64 b, .int .i64 p] w fun e w' => e = .returned (.int .i64 (usedL N.ls b p)) ∧ Below w.heap.size w w' := by
 have hsz := hide h.l.size
 go_enter Tryz.func66, Tryz.ntmps66
 go_wp2_with fail
 generalize hw1 : w.alloc (Obj.cells #[.slice N.ba N.bn N.bc, .slice N.la N.ln N.lc, .slice N.sa N.sn N.sc] 31) = w1
 have b01 : Below w.heap.size w w1 := by rw [← hw1]; exact below_one _ _
 have k1 : w1.heap[w.heap.size]? = some (.cells #[.slice N.ba N.bn N.bc, .slice N.la N.ln N.lc, .slice N.sa N.sn N.sc] 31) := by rw [← hw1]; exact block_last _ _
 clear hw1
 go_loopw [7, 8] (fun m i wr => ∃ k : Nat, k ≤ N.ln ∧ i = .int .i64 k ∧ m = .int .i64 (usedL (N.ls.take k) b p : Nat) ∧ wr.heap[w.heap.size]? = some (.cells #[.slice N.ba N.bn N.bc, .slice N.la N.ln N.lc, .slice N.sa N.sn N.sc] 31) ∧ Below w.heap.size w wr) (fun _ i _ => N.ln - (intOf i).toNat)
 case atStart => exact ⟨0, Nat.zero_le _, rfl, by simp [usedL, endsL], k1, b01⟩
 case round =>
  obtain ⟨k, hk, rfl, rfl, hbox, hb⟩ := hrel
  clear k1 b01
  obtain ⟨x0, x1, x2⟩ := cells3m hbox
  by_cases hlt : k < N.ln
  ·obtain ⟨x, lb, off, hx, hla, a0, a1, a2, a3⟩ := link_at (h.l.below hb) k hlt
   rw [hla] at x1
   clear hla
   have i1 : (0 : Int) ≤ (k : Int) := by omega
   have i2 : (k : Int) < (N.ln : Int) := by omega
   have hul : usedL (N.ls.take k) b p ≤ 33554432 := by have := used_le (N.ls.take k) b p; rw [List.length_take] at this; omega
   have HX := hide hx
   have KB : Hid (∀ o : Obj, (wr.alloc o).heap[w.heap.size]? = some (.cells #[.slice N.ba N.bn N.bc, .slice N.la N.ln N.lc, .slice N.sa N.sn N.sc] 31) ∧ Below w.heap.size w (wr.alloc o)) := hide (fun o => ⟨kept_block hbox (below_one _ _), gr_trans hb (below_one _ _)⟩)
   clear hx hb hbox
   by_cases st : x.a = b ∧ x.p = p
   ·obtain ⟨s, t⟩ := id st
    by_cases uv : x.b = b ∧ x.q = p
    ·obtain ⟨u, v⟩ := id uv
     have HM : Hid (usedL (N.ls.take (k + 1)) b p = usedL (N.ls.take k) b p + 2) := hide (by rw [used_next HX.out]; unfold hit; rw [if_pos st, if_pos uv])
     generalize hU : usedL (N.ls.take k) b p = U at *
     go_wp2
     go_roundw
     case rel => exact ⟨k + 1, by omega, by go_num, by rw [HM.out]; go_num, KB.out _⟩
     case measure => simp [intOf]; omega
    ·by_cases u : x.b = b
     ·have v : ¬ x.q = p := fun q => uv ⟨u, q⟩
      have HM : Hid (usedL (N.ls.take (k + 1)) b p = usedL (N.ls.take k) b p + 1) := hide (by rw [used_next HX.out]; unfold hit; rw [if_pos st, if_neg uv])
      generalize hU : usedL (N.ls.take k) b p = U at *
      go_wp2
      go_roundw
      case rel => exact ⟨k + 1, by omega, by go_num, by rw [HM.out]; go_num, KB.out _⟩
      case measure => simp [intOf]; omega
     ·have HM : Hid (usedL (N.ls.take (k + 1)) b p = usedL (N.ls.take k) b p + 1) := hide (by rw [used_next HX.out]; unfold hit; rw [if_pos st, if_neg uv])
      generalize hU : usedL (N.ls.take k) b p = U at *
      go_wp2
      go_roundw
      case rel => exact ⟨k + 1, by omega, by go_num, by rw [HM.out]; go_num, KB.out _⟩
      case measure => simp [intOf]; omega
   ·by_cases s : x.a = b
    ·have t : ¬ x.p = p := fun q => st ⟨s, q⟩
     by_cases uv : x.b = b ∧ x.q = p
     ·obtain ⟨u, v⟩ := id uv
      have HM : Hid (usedL (N.ls.take (k + 1)) b p = usedL (N.ls.take k) b p + 1) := hide (by rw [used_next HX.out]; unfold hit; rw [if_neg st, if_pos uv])
      generalize hU : usedL (N.ls.take k) b p = U at *
      go_wp2
      go_roundw
      case rel => exact ⟨k + 1, by omega, by go_num, by rw [HM.out]; go_num, KB.out _⟩
      case measure => simp [intOf]; omega
     ·by_cases u : x.b = b
      ·have v : ¬ x.q = p := fun q => uv ⟨u, q⟩
       have HM : Hid (usedL (N.ls.take (k + 1)) b p = usedL (N.ls.take k) b p + 0) := hide (by rw [used_next HX.out]; unfold hit; rw [if_neg st, if_neg uv])
       generalize hU : usedL (N.ls.take k) b p = U at *
       go_wp2
       go_roundw
       case rel => exact ⟨k + 1, by omega, by go_num, by rw [HM.out]; go_num, KB.out _⟩
       case measure => simp [intOf]; omega
      ·have HM : Hid (usedL (N.ls.take (k + 1)) b p = usedL (N.ls.take k) b p + 0) := hide (by rw [used_next HX.out]; unfold hit; rw [if_neg st, if_neg uv])
       generalize hU : usedL (N.ls.take k) b p = U at *
       go_wp2
       go_roundw
       case rel => exact ⟨k + 1, by omega, by go_num, by rw [HM.out]; go_num, KB.out _⟩
       case measure => simp [intOf]; omega
    ·by_cases uv : x.b = b ∧ x.q = p
     ·obtain ⟨u, v⟩ := id uv
      have HM : Hid (usedL (N.ls.take (k + 1)) b p = usedL (N.ls.take k) b p + 1) := hide (by rw [used_next HX.out]; unfold hit; rw [if_neg st, if_pos uv])
      generalize hU : usedL (N.ls.take k) b p = U at *
      go_wp2
      go_roundw
      case rel => exact ⟨k + 1, by omega, by go_num, by rw [HM.out]; go_num, KB.out _⟩
      case measure => simp [intOf]; omega
     ·by_cases u : x.b = b
      ·have v : ¬ x.q = p := fun q => uv ⟨u, q⟩
       have HM : Hid (usedL (N.ls.take (k + 1)) b p = usedL (N.ls.take k) b p + 0) := hide (by rw [used_next HX.out]; unfold hit; rw [if_neg st, if_neg uv])
       generalize hU : usedL (N.ls.take k) b p = U at *
       go_wp2
       go_roundw
       case rel => exact ⟨k + 1, by omega, by go_num, by rw [HM.out]; go_num, KB.out _⟩
       case measure => simp [intOf]; omega
      ·have HM : Hid (usedL (N.ls.take (k + 1)) b p = usedL (N.ls.take k) b p + 0) := hide (by rw [used_next HX.out]; unfold hit; rw [if_neg st, if_neg uv])
       generalize hU : usedL (N.ls.take k) b p = U at *
       go_wp2
       go_roundw
       case rel => exact ⟨k + 1, by omega, by go_num, by rw [HM.out]; go_num, KB.out _⟩
       case measure => simp [intOf]; omega
  ·have hkn : k = N.ln := by omega
   rw [List.take_of_length_le (by have := hsz.out; omega)]
   subst hkn
   go_wp2
   go_ret
   exact ⟨rfl, hb⟩

def endOk (bs : List BR) (ls : List LK) (b p : Int) : Bool := (portOf bs b p).isSome && decide (usedL ls b p = 1)

set_option maxRecDepth 100000 in
set_option maxHeartbeats 4000000 in
theorem specEnd_any (N : NV) (b p : Int) (w : World) (h : NetRow w N) (hsm : N.ln ≤ 16777216) :
  Calls Tryz.prog 50 #[.agg #[.slice N.ba N.bn N.bc, .slice N.la N.ln N.lc, .slice N.sa N.sn N.sc], .int .i64 b, .int .i64 p] w fun e w' => e = .returned (.bool (endOk N.brs N.ls b p)) ∧ Below w.heap.size w w' := by
 have hle := Nat.le_trans h.b.le h.b.top
 unfold maxLen at hle
 have hsz := h.b.size
 generalize hG : endOk N.brs N.ls b p = U
 have HG := hide hG
 clear hG
 generalize hw1 : w.alloc (Obj.cells #[.slice N.ba N.bn N.bc, .slice N.la N.ln N.lc, .slice N.sa N.sn N.sc] 31) = w1
 have b01 : Below w.heap.size w w1 := by rw [← hw1]; exact below_one _ _
 have k1 : w1.heap[w.heap.size]? = some (.cells #[.slice N.ba N.bn N.bc, .slice N.la N.ln N.lc, .slice N.sa N.sn N.sc] 31) := by rw [← hw1]; exact block_last _ _
 obtain ⟨x0, x1, x2⟩ := cells3m k1
 cases hA : (decide (0 ≤ b) && decide (b ≤ (N.bn : Int) - 1))
 ·have HF : Hid (U = false) := hide (by rw [← HG.out]; unfold endOk; rw [port_no (by rw [brs_len, hsz]; exact hA)]; rfl)
  go_enter Tryz.func50, Tryz.ntmps50
  go_wp2_with fail
  refine (within_any b 0 ((N.bn : Int) - 1) _).mono ?_
  rintro e w2 ⟨rfl, ew⟩
  obtain rfl := ew.symm
  rw [hA]
  clear hA
  go_wp2
  go_ret
  exact ⟨by rw [HF.out]; rfl, b01⟩
 ·obtain ⟨k, rfl⟩ : ∃ k : Nat, b = (k : Int) := ⟨b.toNat, by simp at hA; omega⟩
  have hk : k < N.bn := by simp at hA; omega
  obtain ⟨x, bb, off, hx, hba, c0, c1, c2, c3, c4, c5, c6, c7, c8, c9, c10⟩ := br_at (h.b.below b01) k hk
  have hr := (h.item x (List.mem_of_getElem? hx)).below b01
  have hpl := Nat.le_trans hr.ports.le hr.ports.top
  unfold maxLen at hpl
  have i1 : (0 : Int) ≤ (k : Int) := by omega
  have i2 : (k : Int) < (N.bn : Int) := by omega
  have HX := hide (brs_at hx)
  have K1 := hide k1
  clear hx
  rw [hba] at x0
  cases hB : (decide (0 ≤ p) && decide (p ≤ (x.n : Int) - 1))
  ·have HF : Hid (U = false) := hide (by rw [← HG.out]; unfold endOk; rw [port_out HX.out (by rw [hr.ports.size]; exact hB)]; rfl)
   clear hba
   go_enter Tryz.func50, Tryz.ntmps50
   go_wp2_with fail
   refine (within_any (k : Int) 0 ((N.bn : Int) - 1) _).mono ?_
   rintro e w2 ⟨rfl, ew⟩
   obtain rfl := ew.symm
   rw [hA]
   clear hA
   go_wp2_with fail
   refine (within_any p 0 ((x.n : Int) - 1) _).mono ?_
   rintro e w2 ⟨rfl, ew⟩
   obtain rfl := ew.symm
   rw [hB]
   clear hB
   go_wp2
   go_ret
   exact ⟨by rw [HF.out]; rfl, b01⟩
  ·obtain ⟨j, rfl⟩ : ∃ j : Nat, p = (j : Int) := ⟨p.toNat, by simp at hB; omega⟩
   have hj : j < x.n := by simp at hB; omega
   obtain ⟨y, pb, po, hy, -, -⟩ := pt_at hr.ports j hj
   have HF : Hid (U = decide (usedL N.ls (k : Int) (j : Int) = 1)) := hide (by rw [← HG.out]; unfold endOk; rw [port_in HX.out hy]; rfl)
   have i3 : (0 : Int) ≤ (j : Int) := by omega
   have i4 : (j : Int) < (x.n : Int) := by omega
   clear hba hy
   go_enter Tryz.func50, Tryz.ntmps50
   go_wp2_with fail
   refine (within_any (k : Int) 0 ((N.bn : Int) - 1) _).mono ?_
   rintro e w2 ⟨rfl, ew⟩
   obtain rfl := ew.symm
   rw [hA]
   clear hA
   go_wp2_with fail
   refine (within_any (j : Int) 0 ((x.n : Int) - 1) _).mono ?_
   rintro e w2 ⟨rfl, ew⟩
   obtain rfl := ew.symm
   rw [hB]
   clear hB
   clear x0
   obtain ⟨x0, -, -⟩ := cells3m K1.out
   go_wp2_with fail
   refine (specUsed_any N (k : Int) (j : Int) _ (h.below b01) hsm).mono ?_
   rintro e w5 ⟨rfl, hb5⟩
   have HB := hide (gr_trans b01 hb5)
   clear hb5 x0 x1 x2 c0 c1 c2 c3 c4 c5 c6 c7 c8 c9 c10
   generalize hV : usedL N.ls (k : Int) (j : Int) = V at *
   have HV : Hid (decide ((V : Int) = 1) = decide (V = 1)) := hide (by by_cases e : V = 1 <;> simp [e]; omega)
   go_wp2
   go_ret
   exact ⟨by rw [HF.out]; exact ret_bool (by by_cases e : V = 1 <;> simp [e] <;> omega), HB.out⟩

theorem PtAt.later {w w' : World} {v : Option Addr} {o : Option PT} (h : PtAt w v o) (hb : Below w.heap.size w w') : PtAt w' v o := by
 cases o with
 | none => exact h
 | some y =>
  obtain ⟨g, j, e, c⟩ := h
  exact ⟨g, j, e, (hb.cell (block_lt c)).trans c⟩

end Go.Proofs.YtdmplbmfkliiiaaGreat
