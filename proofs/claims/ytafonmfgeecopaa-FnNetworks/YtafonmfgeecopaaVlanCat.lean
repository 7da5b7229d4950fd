/-
  Three rows one behind another, in new memory, the program's own: slices.Concat, by slices.Grow of nothing.
-/
import Derived.Test.YtafonmfgeecopaaVlanCopy
import Derived.Lib.AppendZeros
namespace Go.Proofs.Ytafonmfgeecopaa
open Go.RowKit

/-- append(nil, make([]T, m)...): a new row. -/
theorem run_zeros_nil {P : Program} (w : World) (t tn ty e : TypeId) (i : TypeInfo) (z : Value) (k kn : IntKind) (ht : P.underlying t = some (.slice e)) (htn : P.underlying tn = some (.int kn)) (hi : P.info? e = some i) (hz : i.zero = some z)
    (n : Nat) (h0 : 0 < n) (hs : 0 < i.size) (h63 : ((n : Nat) : Int) ≤ 9223372036854775807) (h48 : n * i.bytes ≤ 140737488355328) :
    (Builtin.append_ #[t, tn] ty #[.slice none 0 0, .int k n]).run P w =
      .ok (.slice (some ⟨w.heap.size, 0, none⟩) n (grownCap w n 0 e))
        (w.drew.alloc (.cells (Builtin.zeroCells z.cells n ++ Builtin.zeroCells z.cells (grownCap w n 0 e - n)) e)) := by
  have hw : IntKind.i64.wrap (n : Int) = n := by rw [IntKind.wrap_i64]; omega
  have h63' : ¬ (9223372036854775807 < (n : Int)) := by omega
  have h48' : ¬ (281474976710656 < Builtin.nextslicecap n 0 * i.bytes) := by
    have := growslice_fits (need := n) (old := 0) (bytes := i.bytes) (by omega) h48
    omega
  have h48i : ¬ (281474976710656 < (n : Int) * (i.bytes : Int)) := by
    rw [← Int.natCast_mul]
    omega
  have hneg : ¬ ((n : Int) < 0) := by omega
  have hns : ¬ (n * i.size = 0) := Nat.mul_ne_zero (by omega) (by omega)
  have hn0 : ¬ n = 0 := by omega
  simp [Builtin.append_, run_underlying ht, run_underlying htn, sizeOf, typeInfo, zeroValue, hi, hz, asInt, asIntOf, hw, hneg, hns, h63', h48', h48i, Question.forced, Builtin.firstCells, newRow, grownCap, hn0]

set_option maxRecDepth 100000 in
set_option maxHeartbeats 2000000 in
theorem growNil_made (m : Nat) (w : World) (h0 : 0 < m) (hm : m ≤ 33554432) :
    Calls Try.prog 98 #[.slice none 0 0, .int .i64 m] w fun e w' => ∃ a' c', e = .returned (.slice a' 0 c') ∧ w'.ownsRow w.heap.size 29 3 (.slice a' 0 c') 0 (vrowF.all []) ∧ Below w.heap.size w w' := by
  obtain ⟨i0, hi0, hz0, hz1, hz2⟩ := finfo_parts vrowInfo
  have hk3 : vrowF.k = 3 := rfl
  rw [hk3] at hz1
  obtain ⟨NC, hNC⟩ : ∃ NC, NC = grownCap w m 0 29 := ⟨_, rfl⟩
  have hge : m ≤ NC := by rw [hNC]; exact grownCap_ge w m 0 29
  have hcm : NC ≤ maxLen := by rw [hNC]; exact grownCap_le_maxLen w m 0 29 (by unfold maxLen; omega)
  obtain ⟨C0, hC0⟩ : ∃ C0 : Array Value, C0 = Builtin.zeroCells #[.int .i64 0, .int .i64 0, .int .i64 0] m ++ Builtin.zeroCells #[.int .i64 0, .int .i64 0, .int .i64 0] (NC - m) := ⟨_, rfl⟩
  have hap : ∀ ty, (Builtin.append_ #[65, 3] ty #[.slice none 0 0, .int .i64 m]).run Try.prog w = .ok (.slice (some ⟨w.heap.size, 0, none⟩) m NC) (w.drew.alloc (.cells C0 29)) := fun ty => by
    rw [hC0, hNC]
    exact run_zeros_nil (P := Try.prog) w 65 3 ty 29 i0 (.agg #[.int .i64 0, .int .i64 0, .int .i64 0]) .i64 .i64 Try.underlying65 Try.underlying3 hi0 hz0 m h0 (by omega) (by omega) (by rw [hz2]; omega)
  have hC0s : C0.size = NC * 3 := by
    rw [hC0]
    simp only [Array.size_append, size_zeroCells]
    simp
    omega
  have hown : (w.drew.alloc (.cells C0 29)).ownsRow w.heap.size 29 3 (.slice (some ⟨w.heap.size, 0, none⟩) 0 NC) 0 (vrowF.all []) :=
    ⟨by simp [Flat.all], .inr ⟨w.heap.size, NC, C0, rfl, Nat.le_refl _, block_last w.drew _, Nat.zero_le _, hcm, hC0s, by simp [Flat.all]⟩⟩
  have HO := hide hown
  have HB : Hid (Below w.heap.size w (w.drew.alloc (.cells C0 29))) := hide (gr_trans (gr_drew (Below.refl _ _)) (below_one w.drew _))
  have hpos : (0 : Int) < (m : Int) := by omega
  have hnn : ¬ ((m : Int) < 0) := by omega
  have hwm : IntKind.i64.wrap (m : Int) = (m : Int) := by rw [IntKind.wrap_i64]; omega
  clear hown hC0 hC0s hge hi0 hz0 hz1 hz2 hNC
  go_enter Try.func98, Try.ntmps98
  go_wp2_with (at_builtin; refine Lib.wpList_append_run _ rfl _ _ _ _ rfl _ _ rfl rfl _ _ (hap _) ?_)
  go_wp2
  go_ret
  exact ⟨_, _, rfl, HO.out, HB.out⟩

set_option maxRecDepth 100000 in
set_option maxHeartbeats 4000000 in
theorem concat_made (g : Nat) (a1 : Option Addr) (n1 c1 : Nat) (a2 : Option Addr) (n2 c2 : Nat) (a3 : Option Addr) (n3 c3 : Nat) (l1 l2 l3 : List VR) (w : World) (kg : w.heap[g]? = some (.cells #[.slice a1 n1 c1, .slice a2 n2 c2, .slice a3 n3 c3] 65)) (h1 : GRow vrowF w a1 n1 c1 l1) (h2 : GRow vrowF w a2 n2 c2 l2) (h3 : GRow vrowF w a3 n3 c3 l3) (hs : n1 + n2 + n3 ≤ 33554432) (hp : 0 < n2) :
    Calls Try.prog 86 #[.slice (some ⟨g, 0, none⟩) 3 3] w fun e w' => ∃ a' c', e = .returned (.slice a' (n1 + n2 + n3) c') ∧ w'.ownsRow w.heap.size 29 3 (.slice a' (n1 + n2 + n3) c') (n1 + n2 + n3) (vrowF.all (l1 ++ l2 ++ l3)) ∧ Below w.heap.size w w' := by
  obtain ⟨⟨p0, p1, p2⟩, -⟩ := cells3 kg
  have j1 : ¬ ((n1 : Int) < 0) := by omega
  have j2 : ¬ ((n1 : Int) + (n2 : Int) < 0) := by omega
  have j3 : ¬ ((n1 : Int) + (n2 : Int) + (n3 : Int) < 0) := by omega
  have e2 : IntKind.i64.wrap ((n1 : Int) + (n2 : Int)) = (n1 : Int) + (n2 : Int) := by rw [IntKind.wrap_i64]; omega
  have e3 : IntKind.i64.wrap ((n1 : Int) + (n2 : Int) + (n3 : Int)) = (n1 : Int) + (n2 : Int) + (n3 : Int) := by rw [IntKind.wrap_i64]; omega
  have e1 : IntKind.i64.wrap (n1 : Int) = (n1 : Int) := by rw [IntKind.wrap_i64]; omega
  go_enter Try.func86, Try.ntmps86
  go_wp2
  go_loop [3, 11] (fun s i => ∃ k : Nat, k ≤ 3 ∧ i = .int .i64 k ∧ (k = 0 → s = .int .i64 0) ∧ (k = 1 → s = .int .i64 (n1 : Int)) ∧ (k = 2 → s = .int .i64 ((n1 : Int) + (n2 : Int))) ∧ (k = 3 → s = .int .i64 ((n1 : Int) + (n2 : Int) + (n3 : Int)))) (fun _ i => 3 - (intOf i).toNat)
  case atStart => exact ⟨0, by omega, rfl, fun _ => rfl, by omega, by omega, by omega⟩
  case round =>
    obtain ⟨k, hk, hi, s0, s1, s2, s3⟩ := hrel
    rcases (show k = 0 ∨ k = 1 ∨ k = 2 ∨ k = 3 by omega) with rfl | rfl | rfl | rfl
    · have hi : _ = Value.int .i64 0 := hi
      subst hi
      have hs0 := s0 rfl
      subst hs0
      clear s0 s1 s2 s3
      go_wp2
      go_round
      case rel => exact ⟨1, by omega, by go_num, by omega, fun _ => by go_num, by omega, by omega⟩
      case measure => simp [intOf]
    · have hi : _ = Value.int .i64 1 := hi
      subst hi
      have hs0 := s1 rfl
      subst hs0
      clear s0 s1 s2 s3
      go_wp2
      go_round
      case rel => exact ⟨2, by omega, by go_num, by omega, by omega, fun _ => by go_num, by omega⟩
      case measure => simp [intOf]
    · have hi : _ = Value.int .i64 2 := hi
      subst hi
      have hs0 := s2 rfl
      subst hs0
      clear s0 s1 s2 s3
      go_wp2
      go_round
      case rel => exact ⟨3, by omega, by go_num, by omega, by omega, by omega, fun _ => by go_num⟩
      case measure => simp [intOf]
    · have hi : _ = Value.int .i64 3 := hi
      subst hi
      have hs0 := s3 rfl
      subst hs0
      clear s0 s1 s2 s3 p0 p1 p2
      go_wp2_with fail
      have hg := growNil_made (n1 + n2 + n3) w (by omega) hs
      rw [show (((n1 + n2 + n3 : Nat)) : Int) = (n1 : Int) + (n2 : Int) + (n3 : Int) by omega] at hg
      refine hg.mono ?_
      rintro e w1 ⟨a', c', rfl, ho, hb⟩
      clear j1 j2 j3 e1 e2 e3 hg
      go_wp2
      go_loopw [6, 27] (fun s i wr => ∃ (k : Nat) (ar : Option Addr) (cr : Nat), k ≤ 3 ∧ i = .int .i64 k ∧ s = .slice ar (if k = 0 then 0 else if k = 1 then n1 else if k = 2 then n1 + n2 else n1 + n2 + n3) cr ∧ wr.ownsRow w.heap.size 29 3 (.slice ar (if k = 0 then 0 else if k = 1 then n1 else if k = 2 then n1 + n2 else n1 + n2 + n3) cr) (if k = 0 then 0 else if k = 1 then n1 else if k = 2 then n1 + n2 else n1 + n2 + n3) (vrowF.all (if k = 0 then [] else if k = 1 then l1 else if k = 2 then l1 ++ l2 else l1 ++ (l2 ++ l3))) ∧ Below w.heap.size w wr) (fun _ i _ => 3 - (intOf i).toNat)
      case atStart => exact ⟨0, a', c', by omega, rfl, rfl, ho, hb⟩
      case round =>
        obtain ⟨k, ar, cr, hk, hi, hs0, ho, hb⟩ := hrel
        rcases (show k = 0 ∨ k = 1 ∨ k = 2 ∨ k = 3 by omega) with rfl | rfl | rfl | rfl
        · have hi : _ = Value.int .i64 0 := hi
          subst hi
          have hs0 : _ = Value.slice ar (0) cr := hs0
          subst hs0
          have HB := hide hb
          obtain ⟨⟨q0, q1, q2⟩, -⟩ := cells3 (kept_block kg hb)
          have ho : wr.ownsRow w.heap.size 29 3 (.slice ar (0) cr) (0) (vrowF.all ([])) := ho
          clear hb
          go_wp2_with (at_builtin; refine wpList_append_flat (F := vrowF) _ rfl _ _ 65 29 rfl w.heap.size Try.underlying65 vrowInfo rfl (by decide) _ (0) ([]) rfl ho _ n1 c1 l1 rfl (h1.below HB.out) (by omega) HB.out.size ?_)
          intro a7 c7 w7 how hr hgr hb7
          have HO : Hid (w7.ownsRow w.heap.size 29 3 (.slice a7 (n1) c7) (n1) (vrowF.all (l1))) := hide how
          have HB7 := hide (HB.out.trans hb7)
          clear how hr hgr hb7 ho q0 q1 q2
          go_wp2
          go_roundw
          case rel => exact ⟨1, a7, c7, by omega, by go_num, rfl, HO.out, HB7.out⟩
          case measure => simp [intOf]
        · have hi : _ = Value.int .i64 1 := hi
          subst hi
          have hs0 : _ = Value.slice ar (n1) cr := hs0
          subst hs0
          have HB := hide hb
          obtain ⟨⟨q0, q1, q2⟩, -⟩ := cells3 (kept_block kg hb)
          have ho : wr.ownsRow w.heap.size 29 3 (.slice ar (n1) cr) (n1) (vrowF.all (l1)) := ho
          clear hb
          go_wp2_with (at_builtin; refine wpList_append_flat (F := vrowF) _ rfl _ _ 65 29 rfl w.heap.size Try.underlying65 vrowInfo rfl (by decide) _ (n1) (l1) rfl ho _ n2 c2 l2 rfl (h2.below HB.out) (by omega) HB.out.size ?_)
          intro a7 c7 w7 how hr hgr hb7
          have HO : Hid (w7.ownsRow w.heap.size 29 3 (.slice a7 (n1 + n2) c7) (n1 + n2) (vrowF.all (l1 ++ l2))) := hide how
          have HB7 := hide (HB.out.trans hb7)
          clear how hr hgr hb7 ho q0 q1 q2
          go_wp2
          go_roundw
          case rel => exact ⟨2, a7, c7, by omega, by go_num, rfl, HO.out, HB7.out⟩
          case measure => simp [intOf]
        · have hi : _ = Value.int .i64 2 := hi
          subst hi
          have hs0 : _ = Value.slice ar (n1 + n2) cr := hs0
          subst hs0
          have HB := hide hb
          obtain ⟨⟨q0, q1, q2⟩, -⟩ := cells3 (kept_block kg hb)
          have ho : wr.ownsRow w.heap.size 29 3 (.slice ar (n1 + n2) cr) (n1 + n2) (vrowF.all (l1 ++ l2)) := ho
          clear hb
          go_wp2_with (at_builtin; refine wpList_append_flat (F := vrowF) _ rfl _ _ 65 29 rfl w.heap.size Try.underlying65 vrowInfo rfl (by decide) _ (n1 + n2) (l1 ++ l2) rfl ho _ n3 c3 l3 rfl (h3.below HB.out) (by omega) HB.out.size ?_)
          intro a7 c7 w7 how hr hgr hb7
          have HO : Hid (w7.ownsRow w.heap.size 29 3 (.slice a7 (n1 + n2 + n3) c7) (n1 + n2 + n3) (vrowF.all (l1 ++ (l2 ++ l3)))) := hide how
          have HB7 := hide (HB.out.trans hb7)
          clear how hr hgr hb7 ho q0 q1 q2
          go_wp2
          go_roundw
          case rel => exact ⟨3, a7, c7, by omega, by go_num, rfl, HO.out, HB7.out⟩
          case measure => simp [intOf]
        · have hi : _ = Value.int .i64 3 := hi
          subst hi
          have hs0 : _ = Value.slice ar (n1 + n2 + n3) cr := hs0
          subst hs0
          have ho : wr.ownsRow w.heap.size 29 3 (.slice ar (n1 + n2 + n3) cr) (n1 + n2 + n3) (vrowF.all (l1 ++ (l2 ++ l3))) := ho
          rw [← List.append_assoc] at ho
          have HO := hide ho
          have HB := hide hb
          clear ho hb
          go_wp2
          go_ret
          exact ⟨ar, cr, (by simp), HO.out, HB.out⟩

end Go.Proofs.Ytafonmfgeecopaa
