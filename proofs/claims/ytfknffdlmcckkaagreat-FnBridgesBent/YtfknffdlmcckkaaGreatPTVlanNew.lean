/-
  A new table, the program's own: slices.Repeat of one number by Go's copy, doubling.
-/
import Derived.Test.YtfknffdlmcckkaaGreatPTKW
import Derived.Test.YtfknffdlmcckkaaGreatPTK01
import Derived.Test.YtfknffdlmcckkaaGreatPTK06
import Derived.Test.YtfknffdlmcckkaaGreatPTK10
import Derived.Test.YtfknffdlmcckkaaGreatPTK17
namespace Go.Proofs.YtfknffdlmcckkaaGreat
open Go.RowKit

set_option maxRecDepth 100000 in
set_option maxHeartbeats 1000000 in
theorem mul64_any (p : Nat) (h1 : 1 ≤ p) (h6 : p ≤ 6) (w : World) :
  Calls Tryz.prog 133 #[.int .u64 1, .int .u64 p] w fun e w' => e = .returned (.tuple #[.int .u64 0, .int .u64 p]) ∧ w' = w := by
 rcases (show p = 1 ∨ p = 2 ∨ p = 3 ∨ p = 4 ∨ p = 5 ∨ p = 6 by omega) with rfl | rfl | rfl | rfl | rfl | rfl
 ·show Calls Tryz.prog 133 #[.int .u64 1, .int .u64 1] w _
  go_enter Tryz.func133, Tryz.ntmps133
  go_wp2
  exact bodyPost_ret (v := .tuple #[.int .u64 0, .int .u64 1]) (by kernel_rfl) rfl ⟨rfl, rfl⟩
 ·show Calls Tryz.prog 133 #[.int .u64 1, .int .u64 2] w _
  go_enter Tryz.func133, Tryz.ntmps133
  go_wp2
  exact bodyPost_ret (v := .tuple #[.int .u64 0, .int .u64 2]) (by kernel_rfl) rfl ⟨rfl, rfl⟩
 ·show Calls Tryz.prog 133 #[.int .u64 1, .int .u64 3] w _
  go_enter Tryz.func133, Tryz.ntmps133
  go_wp2
  exact bodyPost_ret (v := .tuple #[.int .u64 0, .int .u64 3]) (by kernel_rfl) rfl ⟨rfl, rfl⟩
 ·show Calls Tryz.prog 133 #[.int .u64 1, .int .u64 4] w _
  go_enter Tryz.func133, Tryz.ntmps133
  go_wp2
  exact bodyPost_ret (v := .tuple #[.int .u64 0, .int .u64 4]) (by kernel_rfl) rfl ⟨rfl, rfl⟩
 ·show Calls Tryz.prog 133 #[.int .u64 1, .int .u64 5] w _
  go_enter Tryz.func133, Tryz.ntmps133
  go_wp2
  exact bodyPost_ret (v := .tuple #[.int .u64 0, .int .u64 5]) (by kernel_rfl) rfl ⟨rfl, rfl⟩
 ·show Calls Tryz.prog 133 #[.int .u64 1, .int .u64 6] w _
  go_enter Tryz.func133, Tryz.ntmps133
  go_wp2
  exact bodyPost_ret (v := .tuple #[.int .u64 0, .int .u64 6]) (by kernel_rfl) rfl ⟨rfl, rfl⟩

set_option maxRecDepth 100000 in
set_option maxHeartbeats 1000000 in
theorem mul_any (p : Nat) (h1 : 1 ≤ p) (h6 : p ≤ 6) (w : World) :
  Calls Tryz.prog 105 #[.int .u64 1, .int .u64 p] w fun e w' => e = .returned (.tuple #[.int .u64 0, .int .u64 p]) ∧ w' = w := by
 go_enter Tryz.func105, Tryz.ntmps105
 go_wp2_with fail
 refine (mul64_any p h1 h6 _).mono ?_
 rintro e w1 ⟨rfl, e1⟩
 obtain rfl := e1.symm
 go_wp2
 exact bodyPost_ret (v := .tuple #[.int .u64 0, .int .u64 p]) (by simp [results, Tryz.results105, go_sem, *]) rfl ⟨rfl, rfl⟩

def onesTo (p k : Nat) : List Int := List.replicate k 1 ++ List.replicate (p - k) 0

theorem int_size : (Tryz.prog.info? 3).map (·.size) = some 1 := by kernel_rfl

theorem ones_copy {w : World} {base g p k m : Nat} {cs : List Int} (h : w.ownsRow base 3 1 (.slice (some ⟨g, 0, none⟩) p p) p (intF.all (onesTo p k))) (hk : k + m ≤ p) (hcs : cs = List.replicate m 1) {a : Addr} {dl sl : Nat} (hmin : Nat.min sl dl = m) (hsrc : ∀ j v, (intF.all cs)[j]? = some v → w.cell? (a.add j) = some v) :
  ∃ w', (∀ ty dc sc, (Builtin.copy_ #[27, 27] ty #[.slice (some ⟨g, k, none⟩) dl dc, .slice (some a) sl sc]).run Tryz.prog w = .ok (goInt m) w') ∧ w'.ownsRow base 3 1 (.slice (some ⟨g, 0, none⟩) p p) p (intF.all (onesTo p (k + m))) ∧ w.grownBy w' (some g) := by
 obtain ⟨hlen, ⟨hv, h0⟩ | ⟨g', cap', cur, hv, hg, hh, h1, h2, h3, h4⟩⟩ := h
 ·cases hv
 ·cases hv
  have hcl : (intF.all cs).length = m := by rw [intF_all, hcs]; simp [cI]
  have hfit : k + (intF.all cs).length ≤ cur.size := by rw [hcl, h3]; omega
  refine ⟨w.setRow g (cur.toList.take k ++ intF.all cs ++ cur.toList.drop (k + (intF.all cs).length)).toArray, fun ty dc sc => ?_, ⟨?_, .inr ⟨g, p, _, rfl, hg, setRow_heap w g cur _ 3 _ hh, Nat.le_refl _, h2, ?_, ?_⟩⟩, ?_⟩
  ·have := run_copy_flat (P := Tryz.prog) w 27 27 ty 3 g k dl dc a sl sc cur 3 (intF.all cs) 1 Tryz.underlying27 int_size hh (by rw [hcl, hmin, Nat.mul_one]) hsrc hfit (intF.all_oneCell cs)
   rw [hmin] at this
   exact this
  ·rw [intF.all_length]
   unfold onesTo
   have : intF.k = 1 := rfl
   rw [this]
   simp
   omega
  ·have : cur.toList.length = p := by have := h3; simp at this; simpa using this
   simp
   rw [hcl]
   simp at this
   omega
  ·have hcs' : cur.toList = intF.all (onesTo p k) := by
    rw [← h4, List.take_of_length_le (by have := h3; simp at this; simp; omega)]
   rw [hcs', intF_all, intF_all, intF_all, hcs]
   unfold onesTo cI
   simp only [List.map_append, List.map_replicate, Nat.mul_one]
   have e1 : (List.replicate k (Value.int .i64 1) ++ List.replicate (p - k) (Value.int .i64 0)).take k = List.replicate k (Value.int .i64 1) := by
    rw [List.take_append_of_le_length (by simp), List.take_of_length_le (by simp)]
   rw [e1]
   have e2 : (List.replicate k (Value.int .i64 1) ++ List.replicate (p - k) (Value.int .i64 0)).drop (k + (List.replicate m (Value.int .i64 1)).length) = List.replicate (p - (k + m)) (Value.int .i64 0) := by
    rw [List.length_replicate, List.drop_append, List.drop_eq_nil_of_le (by rw [List.length_replicate]; omega), List.nil_append, List.length_replicate, List.drop_replicate]
    congr 1
    omega
   rw [e2, List.take_of_length_le (by simp; omega), ← List.replicate_append_replicate]
  ·refine ⟨rfl, rfl, rfl, ?_, ?_⟩
   ·simp [World.setRow]
   ·intro i hi hkg
    rw [setRow_other _ _ _ _ (fun e => hkg (by rw [e]))]

set_option maxRecDepth 100000 in
set_option maxHeartbeats 4000000 in
theorem repeat_made (g p : Nat) (h1 : 1 ≤ p) (h6 : p ≤ 6) (w : World) (kg : w.heap[g]? = some (.cells #[.int .i64 1] 3)) :
  Calls Tryz.prog 107 #[.slice (some ⟨g, 0, none⟩) 1 1, .int .i64 p] w fun e w' => ∃ a' c', e = .returned (.slice a' p c') ∧ w'.ownsRow w.heap.size 3 1 (.slice a' p c') p (cI (List.replicate p 1)) ∧ Below w.heap.size w w' := by
 have hglt : g < w.heap.size := (Array.getElem?_eq_some_iff.1 kg).1
 obtain ⟨i0, hi, hz0, hz1, hz2⟩ := finfo_parts (k := 1) Tryz.infoI64
 have hnn : ¬ ((p : Int) < 0) := by omega
 have hwp : IntKind.u64.wrap (p : Int) = (p : Int) := by rw [IntKind.wrap_u64]; omega
 have hwq : IntKind.i64.wrap (p : Int) = (p : Int) := by rw [IntKind.wrap_i64]; omega
 have hbig : ¬ ((9223372036854775807 : Int) < (p : Int)) := by omega
 go_enter Tryz.func107, Tryz.ntmps107
 go_wp2_with fail
 refine (mul_any p h1 h6 _).mono ?_
 rintro e w1 ⟨rfl, e1⟩
 obtain rfl := e1.symm
 go_wp2_with (at_make; refine wpList_make_full _ rfl _ _ 27 rfl w.heap.size 3 i0 (.int .i64 0) 1 Tryz.underlying27 hi hz0 hz1 .i64 .i64 _ _ p rfl rfl rfl rfl ?c1 ?c2 ?c3 ?_)
 case c1 => rw [hz2]; omega
 case c2 => unfold maxLen; omega
 case c3 => exact Nat.le_refl _
 intro w1 hown hgrow
 have hb1 : Below w.heap.size w w1 := (Below.refl _ _).grown hgrow (Nat.le_refl _) (by intro k hk; cases hk)
 have hown1 : w1.ownsRow w.heap.size 3 1 (.slice (some ⟨w.heap.size, 0, none⟩) p p) p (intF.all (onesTo p 0)) := by
  unfold onesTo
  rw [List.replicate_zero, List.nil_append, Nat.sub_zero]
  have := flat_made intF 0 p
  rw [show intF.k = 1 from rfl, Nat.mul_one] at this
  rw [← this]
  exact hown
 have kg1 := kept_block kg hb1
 have hcell : w1.cell? ⟨g, 0, none⟩ = some (.int .i64 1) := by simp [World.cell?, kg1]
 obtain ⟨w2, hcp, hO2, hg2⟩ := ones_copy (cs := [1]) (m := 1) (a := ⟨g, 0, none⟩) (dl := p) (sl := 1) hown1 (by omega) rfl (Nat.min_eq_left h1) (by
  intro j v hj
  match j, hj with
  | 0, hj => cases hj; rw [add_none]; exact hcell
  | j + 1, hj => simp [intF, Flat.all] at hj)
 have HO2 : Hid (w2.ownsRow w.heap.size 3 1 (.slice (some ⟨w.heap.size, 0, none⟩) p p) p (intF.all (onesTo p 1))) := hide hO2
 have HB2 : Hid (Below w.heap.size w w2) := hide (hb1.grown hg2 hb1.size (by intro k hk; cases hk; exact Nat.le_refl _))
 clear hown hgrow hi hz0 hz1 hz2 hown1 hO2 hg2 kg1 hcell hb1
 go_wp2_with (at_builtin; refine wpList_copy_eq _ rfl _ _ 27 27 rfl _ _ rfl rfl (hcp _ _ _) ?_)
 go_wp2
 go_loopw [8] (fun i wr => ∃ k : Nat, 1 ≤ k ∧ k ≤ p ∧ i = .int .i64 k ∧ wr.ownsRow w.heap.size 3 1 (.slice (some ⟨w.heap.size, 0, none⟩) p p) p (intF.all (onesTo p k)) ∧ Below w.heap.size w wr) (fun i _ => p - (intOf i).toNat)
 case atStart => exact ⟨1, Nat.le_refl _, h1, rfl, HO2.out, HB2.out⟩
 case round =>
  obtain ⟨k, hk1, hk, rfl, ho, hb⟩ := hrel
  by_cases hlt : k < p
  ·have ho' : wr.drew.ownsRow w.heap.size 3 1 (.slice (some ⟨w.heap.size, 0, none⟩) p p) p (intF.all (onesTo p k)) := gown_below ho (gr_drew (Below.refl _ _))
   have hm1 : Nat.min k (p - k) ≤ k := Nat.min_le_left _ _
   have hm2 : Nat.min k (p - k) ≤ p - k := Nat.min_le_right _ _
   have hm3 : 1 ≤ Nat.min k (p - k) := Nat.le_min.2 ⟨hk1, by omega⟩
   obtain ⟨w3, hcp3, hO3, hg3⟩ := ones_copy (w := wr.drew) (cs := List.replicate (Nat.min k (p - k)) 1) (m := Nat.min k (p - k)) (a := ⟨w.heap.size, 0, none⟩) (dl := p - k) (sl := k) ho' (by omega) rfl rfl (by
    intro j v hj
    have hjl := (List.getElem?_eq_some_iff.1 hj).1
    rw [intF.all_length, List.length_replicate, show intF.k = 1 from rfl, Nat.mul_one] at hjl
    rw [add_none, Nat.zero_add, ho'.cellAt j (by omega)]
    rw [intF_all] at hj ⊢
    unfold cI at hj ⊢
    rw [List.getElem?_map] at hj ⊢
    unfold onesTo
    rw [List.getElem?_append_left (by simp; omega), List.getElem?_replicate, if_pos (by omega)]
    rw [List.getElem?_replicate, if_pos (by omega)] at hj
    exact hj)
   have HO := hide hO3
   have HB := hide (hb.drew.grown hg3 (by simpa using hb.size) (by intro j hj; cases hj; exact Nat.le_refl _))
   have hcp := hcp3
   have i1 : (0 : Int) ≤ (k : Int) := by omega
   have i2 : (k : Int) ≤ (p : Int) := by omega
   have i3 : ¬ (p = k) := by omega
   have i4 : IntKind.i64.wrap ((k : Int) + (Nat.min k (p - k) : Nat)) = ((k + Nat.min k (p - k) : Nat) : Int) := by rw [IntKind.wrap_i64]; omega
   clear hcp3 hO3 hg3 ho ho' hb
   go_wp2_with fail
   refine wp_region_held_drew (S := (fun _ => True)) (by kernel_rfl) (trivial) (fun hHeld => ?_)
   refine kK 0 ⟨some 38, .move (.tmp 8), 3, "slices.go:528", #[], none⟩ ?_
   refine kK 1 ⟨some 39, .move (.tmp 7), 27, "slices.go:528", #[], none⟩ ?_
   refine kK 2 ⟨some 40, .move (.tmp 8), 3, "slices.go:528", #[], none⟩ ?_
   refine kK 3 ⟨some 41, .slice 27 (.tmp 39) (some (.tmp 40)) none none, 27, "slices.go:528", #[⟨1, .data⟩, ⟨2, .data⟩], none⟩ ?_
   refine kK 4 ⟨some 42, .move (.tmp 7), 27, "slices.go:528", #[], none⟩ ?_
   refine kK 5 ⟨some 43, .move (.tmp 8), 3, "slices.go:528", #[], none⟩ ?_
   refine kK 6 ⟨some 44, .slice 27 (.tmp 42) none (some (.tmp 43)) none, 27, "slices.go:528", #[⟨4, .data⟩, ⟨5, .data⟩], none⟩ ?_
   refine tR [7] ?_
   refine AllReadyH.cons (o := ⟨some 45, .call ⟨.builtin .copy, #[.tmp 41, .tmp 44], #[27, 27]⟩, 3, "slices.go:528", #[⟨3, .data⟩, ⟨6, .data⟩], none⟩) rfl (fun K hK => ?_) ?_
   ·refine step_copy_eq rfl _ _ 27 27 rfl _ _ rfl rfl (hcp _ _ _) ?_
    refine hK.out _ _ (trivial) (fun hHeld => ?_)
    clear hK K
    try simp only [Act.put, lA, lB, lC]
    refine kK 8 ⟨some 46, .binOp .add 3 (.tmp 38) (.tmp 45) 3, 3, "slices.go:528", #[⟨0, .data⟩, ⟨7, .data⟩], none⟩ ?_
    refine kK 9 ⟨some 8, .assign (.tmp 46), 3, "slices.go:528", #[⟨8, .data⟩, ⟨7, .chain⟩, ⟨0, .phase⟩, ⟨1, .phase⟩, ⟨2, .phase⟩, ⟨3, .phase⟩, ⟨4, .phase⟩, ⟨5, .phase⟩, ⟨6, .phase⟩, ⟨7, .phase⟩, ⟨8, .phase⟩], none⟩ ?_
    refine wpAnyH_done (by kernel_rfl) ?_ _
    clear hHeld
    go_wp2
    go_roundw
    case rel => exact ⟨k + Nat.min k (p - k), by omega, by omega, by go_num, HO.out, HB.out⟩
    case measure => simp [intOf]; omega
   exact AllReadyH.nil
  ·have hkp : k = p := by omega
   subst hkp
   have HO : Hid (wr.ownsRow w.heap.size 3 1 (.slice (some ⟨w.heap.size, 0, none⟩) k k) k (cI (List.replicate k 1))) := hide (by
    have h := ho
    unfold onesTo at h
    rw [Nat.sub_self, List.replicate_zero, List.append_nil, intF_all] at h
    exact h)
   have HB := hide hb
   clear ho hb
   go_wp2
   go_ret
   exact ⟨_, _, rfl, HO.out, HB.out⟩

set_option maxRecDepth 100000 in
set_option maxHeartbeats 4000000 in
theorem implVtabNew_made (ports : Int) (w : World) :
  Calls Tryz.prog 59 #[.int .i64 ports] w fun e w' => ∃ a n c o p q, e = .returned (.agg #[.slice a n c, .slice o p q]) ∧ VOwn w' w.heap.size a n c o p q (vtabNew ports) ∧ Below w.heap.size w w' := by
 generalize hw1 : w.alloc (Obj.cells #[Value.slice none 0 0, Value.slice none 0 0] 29) = w1
 have b01 : Below w.heap.size w w1 := by subst hw1; exact below_one _ _
 have k0 : w1.heap[w.heap.size]? = some (.cells #[.slice none 0 0, .slice none 0 0] 29) := by rw [← hw1]; exact block_last _ _
 have z1 : Hid (w.heap.size < w1.heap.size) := hide (by rw [← hw1]; simp)
 cases hin : (decide (1 ≤ ports) && decide (ports ≤ 6))
 ·rw [vtabNew_no hin]
  have HIN := hide hin
  clear hin
  obtain ⟨⟨g0, g1⟩, f0, f1⟩ := cells2 k0
  have HB := hide (below_set (below_set b01 (Nat.le_refl _) 0 (.slice none 0 0)) (Nat.le_refl _) 1 (.slice none 0 0))
  go_enter Tryz.func59, Tryz.ntmps59
  go_wp2_with (refine (implIn9_any ports 1 6 _).mono ?_; rintro r w2 ⟨rfl, e2⟩; obtain rfl := e2.symm; rw [HIN.out])
  exact bodyPost_ret (v := .agg #[.slice none 0 0, .slice none 0 0]) (by simp [results, Tryz.results59, go_sem, *]) rfl ⟨_, _, _, _, _, _, rfl, vownNone _ _, HB.out⟩
 ·obtain ⟨p, rfl⟩ : ∃ p : Nat, ports = (p : Int) := ⟨ports.toNat, by simp at hin; omega⟩
  rw [vtabNew_yes hin]
  have HIN := hide hin
  have hp : 1 ≤ p ∧ p ≤ 6 := by simp at hin; omega
  clear hin
  generalize hw2 : w1.alloc (Obj.cells #[Value.int .i64 1, Value.int .i64 (allOf p), Value.int .i64 (allOf p)] 81) = w2
  have b12 : Below w1.heap.size w1 w2 := by subst hw2; exact below_one _ _
  have k1 : w2.heap[w1.heap.size]? = some (.cells #[.int .i64 1, .int .i64 (allOf p), .int .i64 (allOf p)] 81) := by rw [← hw2]; exact block_last _ _
  generalize hw3 : w2.alloc (Obj.cells #[Value.int .i64 1] 3) = w3
  have b23 : Below w2.heap.size w2 w3 := by subst hw3; exact below_one _ _
  have k2 : w3.heap[w2.heap.size]? = some (.cells #[.int .i64 1] 3) := by rw [← hw3]; exact block_last _ _
  have hR : w3.ownsRow w1.heap.size 81 3 (.slice (some ⟨w1.heap.size, 0, none⟩) 1 1) 1 (vrowF.all [⟨1, allOf p, allOf p⟩]) := gown_below (own_one vrowF (x := ⟨1, allOf p, allOf p⟩) k1 rfl (Nat.le_refl _)) b23
  have b13 := gr_trans b12 b23
  go_enter Tryz.func59, Tryz.ntmps59
  go_wp2_with (refine (implIn9_any (p : Int) 1 6 _).mono ?_; rintro r wy ⟨rfl, ey⟩; obtain rfl := ey.symm; rw [HIN.out])
  refine (portBits_any p hp.1 hp.2 _).mono ?_
  rintro r wy ⟨rfl, ey⟩
  obtain rfl := ey.symm
  go_wp2_with fail
  refine (repeat_made w2.heap.size p hp.1 hp.2 _ k2).mono ?_
  rintro r w4 ⟨a4, c4, rfl, hI, hb4⟩
  have hV : VOwn w4 w1.heap.size (some ⟨w1.heap.size, 0, none⟩) 1 1 a4 p c4 ⟨[⟨1, allOf p, allOf p⟩], List.replicate p 1⟩ := ⟨gown_below hR hb4, gown_lt hI b13.size, ones_i64 _⟩
  have b14 := gr_trans b13 hb4
  obtain ⟨⟨g0, g1⟩, f0, f1⟩ := cells2 (kept_block k0 b14)
  have HO := hide ((hV.set2 (g := w.heap.size) z1.out (.slice (some ⟨w1.heap.size, 0, none⟩) 1 1) (.slice a4 p c4)).lt (base' := w.heap.size) b01.size)
  have HB := hide (below_set (below_set (gr_trans b01 b14) (Nat.le_refl _) 0 (.slice (some ⟨w1.heap.size, 0, none⟩) 1 1)) (Nat.le_refl _) 1 (.slice a4 p c4))
  clear hV hI hR hb4
  go_wp2
  exact bodyPost_ret (v := .agg #[.slice (some ⟨w1.heap.size, 0, none⟩) 1 1, .slice a4 p c4]) (by simp [results, Tryz.results59, go_sem, *]) rfl ⟨_, _, _, _, _, _, rfl, HO.out, HB.out⟩

end Go.Proofs.YtfknffdlmcckkaaGreat
