/-
  Packed: VlanRow GTake.
-/
import Derived.Test.YtdmplbmfkliiiaaPAKW
import Derived.Test.YtdmplbmfkliiiaaPAK01
import Derived.Test.YtdmplbmfkliiiaaPAK02
import Derived.Deep.RegionHeld3
namespace Go.Proofs.Ytdmplbmfkliiiaa
open Go.RowKit

theorem cell1 {w : World} {g : Nat} {T : TypeId} {v : Value} (h : w.heap[g]? = some (.cells #[v] T)) : w.cell? ⟨g, 0, none⟩ = some v := by simp [World.cell?, h]

theorem number_of (v : Value) (w : World) : (method 276 130 v "loop.example/g00326/impl.number").run Try.prog w = .ok (121, v) w := by kernel_rfl

set_option maxRecDepth 100000 in
set_option maxHeartbeats 400000 in
theorem implNumber_any (r : VR) (w : World) : Calls Try.prog 121 #[.agg #[.int .i64 r.i, .int .i64 r.m, .int .i64 r.b]] w fun e w' => e = .returned (.int .i64 r.i) ∧ Below w.heap.size w w' := by
 go_enter Try.func121, Try.ntmps121
 go_wp2
 go_ret
 exact ⟨rfl, below_one _ _⟩

set_option maxRecDepth 100000 in
set_option maxHeartbeats 400000 in
theorem implRowsOf_any (a : Option Addr) (n c : Nat) (o : Option Addr) (p q : Nat) (w : World) : Calls Try.prog 87 #[.agg #[.slice a n c, .slice o p q]] w fun e w' => e = .returned (.slice a n c) ∧ Below w.heap.size w w' := by
 go_enter Try.func87, Try.ntmps87
 go_wp2
 go_ret
 exact ⟨rfl, below_one _ _⟩

set_option maxRecDepth 100000 in
set_option maxHeartbeats 2000000 in
theorem implPlace1_any (r : VR) (id : Int) (g : Nat) (w : World) (c : w.heap[g]? = some (.cells #[.int .i64 id] 3)) :
  Calls Try.prog 105 #[.agg #[.int .i64 r.i, .int .i64 r.m, .int .i64 r.b], .pointer (some ⟨g, 0, none⟩)] w fun e w' => e = .returned (.bool (r.i == id)) ∧ Below w.heap.size w w' := by
 have hm := number_of
 generalize hw1 : w.alloc (Obj.cells #[.int .i64 r.i, .int .i64 r.m, .int .i64 r.b] 130) = w1
 have q : Below w.heap.size w w1 := by subst hw1; exact below_one _ _
 have k0 : w1.heap[w.heap.size]? = some (.cells #[.int .i64 r.i, .int .i64 r.m, .int .i64 r.b] 130) := by rw [← hw1]; exact block_last _ _
 have HS : Hid (∀ W, Below w1.heap.size w1 W → (W.cell? ⟨w.heap.size, 0, none⟩ = some (.int .i64 r.i) ∧ W.cell? ⟨w.heap.size, 1, none⟩ = some (.int .i64 r.m) ∧ W.cell? ⟨w.heap.size, 2, none⟩ = some (.int .i64 r.b)) ∧ W.cell? ⟨g, 0, none⟩ = some (.int .i64 id)) := hide (fun W hW => ⟨(cells3 (kept_block k0 hW)).1, cell1 (kept_block (kept_block c q) hW)⟩)
 clear k0
 have vv : Below w1.heap.size w1 w1.drew := gr_drew (Below.refl _ _)
 go_enter Try.func105, Try.ntmps105
 go_wp2_with fail
 refine wp_region_held_drew (S := (fun W => (W.cell? ⟨w.heap.size, 0, none⟩ = some (.int .i64 r.i) ∧ W.cell? ⟨w.heap.size, 1, none⟩ = some (.int .i64 r.m) ∧ W.cell? ⟨w.heap.size, 2, none⟩ = some (.int .i64 r.b)) ∧ W.cell? ⟨g, 0, none⟩ = some (.int .i64 id))) (by kernel_rfl) (HS.out _ vv) (fun hHeld => ?_)
 refine kK 0 ⟨some 4, .load 130 (.tmp 2), 130, "l09_vlan.go:152", #[], none⟩ ?_
 refine kK 1 ⟨some 5, .makeInterface 130 (.tmp 4), 20, "l09_vlan.go:152", #[⟨0, .data⟩], none⟩ ?_
 refine kK 3 ⟨some 7, .load 3 (.tmp 1), 3, "l09_vlan.go:152", #[], none⟩ ?_
 refine kR 2 ⟨some 6, .call ⟨.invoke (.tmp 5) "loop.example/g00326/impl.number", #[], #[]⟩, 3, "l09_vlan.go:152", #[⟨1, .data⟩], none⟩ (fun K hK => ?_)
 go_simp
 refine (implNumber_any r _).mono ?_
 rintro e wz ⟨rfl, hbz⟩
 have vv := gr_trans vv hbz
 go_wp2_with fail
 refine hK.out _ _ (HS.out _ vv) (fun hHeld => ?_)
 clear hK K
 try simp only [Act.put, lA, lB, lC]
 refine kK 4 ⟨some 8, .binOp .eql 3 (.tmp 6) (.tmp 7) 3, 4, "l09_vlan.go:152", #[⟨2, .data⟩, ⟨3, .data⟩], none⟩ ?_
 refine kK 5 ⟨some 3, .assign (.tmp 8), 4, "l09_vlan.go:152", #[⟨4, .data⟩, ⟨2, .chain⟩, ⟨0, .phase⟩, ⟨1, .phase⟩, ⟨2, .phase⟩, ⟨3, .phase⟩, ⟨4, .phase⟩], none⟩ ?_
 refine wpAnyH_done (by kernel_rfl) ?_ _
 have HB := hide (gr_trans q vv)
 clear HS vv q
 go_wp2
 go_ret
 exact ⟨rfl, HB.out⟩

set_option maxRecDepth 100000 in
set_option maxHeartbeats 2000000 in
theorem rowIndex_any (a : Option Addr) (n c : Nat) (l : List VR) (id : Int) (g : Nat) (w : World) (h : GRow vrowF w a n c l) (cg : w.heap[g]? = some (.cells #[.int .i64 id] 3)) :
  Calls Try.prog 104 #[.slice a n c, .func (.func 105) #[] #[.pointer (some ⟨g, 0, none⟩)]] w fun r w' => r = .returned (.int .i64 (rowAt l id)) ∧ Below w.heap.size w w' := by
 have hle := h.le
 have htop := h.top
 unfold maxLen at htop
 have hsz := h.size
 go_enter Try.func104, Try.ntmps104
 go_wp2
 go_loopw [8] (fun i wr => ∃ k : Nat, k ≤ n ∧ i = .int .i64 k ∧ (∀ (j : Nat) (y : VR), j < k → l[j]? = some y → (y.i == id) = false) ∧ Below w.heap.size w wr) (fun i _ => n - (intOf i).toNat)
 case atStart => exact ⟨0, Nat.zero_le _, rfl, fun j y hj => by omega, Below.refl _ _⟩
 case round =>
  obtain ⟨k, hk, rfl, hno, hb⟩ := hrel
  by_cases hlt : k < n
  ·obtain ⟨x, b, off, hx, rfl, c0, c1, c2⟩ := vrow_at (h.below hb) k hlt
   cases t1 : (x.i == id)
   ·have HO := hide (vno_next hno hx t1)
    have HA := hide t1
    have HB := hide hb
    clear t1 hno hb hx
    go_wp2_with fail
    refine (implPlace1_any x id g _ (kept_block cg HB.out)).mono ?_
    rintro r w1 ⟨rfl, hb1⟩
    rw [HA.out]
    have HB1 := hide (gr_trans HB.out hb1)
    clear hb1 c0 c1 c2
    go_wp2
    go_roundw
    case rel => exact ⟨k + 1, by omega, by go_num, HO.out, HB1.out⟩
    case measure => simp [intOf]; omega
   ·have HF := hide (rowAt_found hno hx t1)
    have HA := hide t1
    have HB := hide hb
    clear t1 hno hb hx
    go_wp2_with fail
    refine (implPlace1_any x id g _ (kept_block cg HB.out)).mono ?_
    rintro r w1 ⟨rfl, hb1⟩
    rw [HA.out]
    have HB1 := hide (gr_trans HB.out hb1)
    clear hb1 c0 c1 c2
    go_wp2
    go_ret
    exact ⟨(by rw [HF.out]; rfl), HB1.out⟩
  ·have hkn : k = n := by omega
   have HF := hide (rowAt_none (l := l) (id := id) (fun i y hy => hno i y (by have := (List.getElem?_eq_some_iff.1 hy).1; omega) hy))
   have HB := hide hb
   clear hno hb
   subst hkn
   go_wp2
   go_ret
   exact ⟨(by rw [HF.out]; rfl), HB.out⟩

set_option maxRecDepth 100000 in
set_option maxHeartbeats 1000000 in
theorem implPlace_any (a : Option Addr) (n c : Nat) (l : List VR) (id : Int) (w : World) (h : GRow vrowF w a n c l) :
  Calls Try.prog 102 #[.slice a n c, .int .i64 id] w fun r w' => r = .returned (.int .i64 (rowAt l id)) ∧ Below w.heap.size w w' := by
 have hmf : ∀ (fn : Fn) (first cap : Array Value) (w : World), (Instr.makeFunc fn first cap).run Try.prog w = .ok (.func fn first cap) w := fun _ _ _ _ => rfl
 have q := below_one w (.cells #[.int .i64 id] 3)
 go_enter Try.func102, Try.ntmps102
 go_wp2_with fail
 refine (rowIndex_any a n c l id _ _ (h.below q) (block_last w _)).mono ?_
 rintro r w1 ⟨rfl, hb1⟩
 have HB := hide (gr_trans q hb1)
 clear hb1 q
 go_wp2
 go_ret
 exact ⟨rfl, HB.out⟩

set_option maxRecDepth 100000 in
set_option maxHeartbeats 1000000 in
theorem implRowAt_any (a : Option Addr) (n c : Nat) (l : List VR) (o : Option Addr) (p q : Nat) (id : Int) (w : World) (h : GRow vrowF w a n c l) :
  Calls Try.prog 90 #[.agg #[.slice a n c, .slice o p q], .int .i64 id] w fun r w' => r = .returned (.int .i64 (rowAt l id)) ∧ Below w.heap.size w w' := by
 have q0 := below_one w (.cells #[.slice a n c, .slice o p q] 57)
 go_enter Try.func90, Try.ntmps90
 go_wp2_with fail
 refine (implRowsOf_any a n c o p q _).mono ?_
 rintro r w1 ⟨rfl, hb1⟩
 have q1 := gr_trans q0 hb1
 clear hb1
 go_wp2_with fail
 refine (implPlace_any a n c l id _ (h.below q1)).mono ?_
 rintro r w2 ⟨rfl, hb2⟩
 have HB := hide (gr_trans q1 hb2)
 clear hb2 q1 q0
 go_wp2
 go_ret
 exact ⟨rfl, HB.out⟩

theorem GRow.take {α : Type} {F : Flat α} {w : World} {ao : Option Addr} {n c k : Nat} {l : List α} (h : GRow F w ao n c l) (hk : k ≤ n) : GRow F w ao k c (l.take k) where
 size := by have := h.size; simp; omega
 le := Nat.le_trans hk h.le
 top := h.top
 nil := h.nil
 cell := by
  rcases h.cell with h0 | ⟨b, off, ha, hc⟩
  ·exact .inl (by omega)
  ·refine .inr ⟨b, off, ha, fun i x hi j v hv => hc i x ?_ j v hv⟩
   rw [List.getElem?_take] at hi
   split at hi
   ·exact hi
   ·cases hi

end Go.Proofs.Ytdmplbmfkliiiaa
