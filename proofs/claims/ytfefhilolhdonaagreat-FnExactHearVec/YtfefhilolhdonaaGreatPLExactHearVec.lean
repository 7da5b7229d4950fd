/-
  FnExactHearVec answers true at all arguments: HearVec answers as the specification; it writes into no argument and keeps nothing of one; its answer owns its memory, behind another call too.
-/
import Derived.Test.YtfefhilolhdonaaGreatPLBrHelp
import Derived.Test.YtfefhilolhdonaaGreatPLBrStepI
import Derived.Test.YtfefhilolhdonaaGreatPLBrStepS
import Derived.Test.YtfefhilolhdonaaGreatPLK01
import Derived.Test.YtfefhilolhdonaaGreatPLK07
import Derived.Deep.RegionHeld3
import Derived.WalkKit
import Derived.ProofKit
import Derived.OpenShut
import Derived.ShutString
import Derived.ChangeOld
import Derived.Below
import Derived.Lib.SmallJoins
namespace Go.Proofs.YtfefhilolhdonaaGreat
open Go.RowKit

theorem set_box11 {w : World} {X : Nat} {c0 c1 c2 c3 c4 c5 c6 c7 c8 c9 c10 : Value} {T : TypeId} (h : w.heap[X]? = some (.cells #[c0, c1, c2, c3, c4, c5, c6, c7, c8, c9, c10] T)) (u0 u1 u2 u3 u4 u5 u6 u7 u8 u9 u10 : Value) : (((((((((((w.setCell ⟨X, 0, none⟩ u0).setCell ⟨X, 1, none⟩ u1).setCell ⟨X, 2, none⟩ u2).setCell ⟨X, 3, none⟩ u3).setCell ⟨X, 4, none⟩ u4).setCell ⟨X, 5, none⟩ u5).setCell ⟨X, 6, none⟩ u6).setCell ⟨X, 7, none⟩ u7).setCell ⟨X, 8, none⟩ u8).setCell ⟨X, 9, none⟩ u9).setCell ⟨X, 10, none⟩ u10).heap[X]? = some (.cells #[u0, u1, u2, u3, u4, u5, u6, u7, u8, u9, u10] T) := by
 have h' := (box11 (box11 (box11 (box11 (box11 (box11 (box11 (box11 (box11 (box11 (box11 h 0 u0) 1 u1) 2 u2) 3 u3) 4 u4) 5 u5) 6 u6) 7 u7) 8 u8) 9 u9) 10 u10)
 simp only [lA, lB, lC] at h'
 exact h'

set_option maxRecDepth 100000 in
set_option maxHeartbeats 32000000 in
theorem exactHearVec_walk (a0 : Option Addr) (n0 c0 : Nat) (fa0 : Option Addr) (fn0 fc0 : Nat) (ra0 : Option Addr) (rn0 rc0 : Nat) (oa0 : Option Addr) (on0 oc0 : Nat) (B0 : BR) (port : Int) (R C H Bq Pq : Int) (w : World) (h0 : BrRow w a0 n0 c0 fa0 fn0 fc0 ra0 rn0 rc0 oa0 on0 oc0 B0) (g0 : B0.Rng) (_wp : (Lit.int .i64 port).wf = true) :
  Calls Tryz.prog 5 #[.agg #[.int .i64 B0.id, .string B0.name, .slice a0 n0 c0, .slice fa0 fn0 fc0, .slice ra0 rn0 rc0, .slice oa0 on0 oc0, .int .i64 B0.ticks, .int .i64 B0.parse, .int .i64 B0.word, .int .i64 B0.drops, .int .i64 B0.vers], .int .i64 port, .agg #[.int .i64 R, .int .i64 C, .int .i64 H, .int .i64 Bq, .int .i64 Pq]] w fun e w' => e = .returned (.bool true) ∧ Below w.heap.size w w' := by
 generalize hwA : w.alloc (Obj.cells #[.int .i64 B0.id, .string B0.name, .slice a0 n0 c0, .slice fa0 fn0 fc0, .slice ra0 rn0 rc0, .slice oa0 on0 oc0, .int .i64 B0.ticks, .int .i64 B0.parse, .int .i64 B0.word, .int .i64 B0.drops, .int .i64 B0.vers] 66) = wA
 generalize hwV : wA.alloc (Obj.cells #[.int .i64 R, .int .i64 C, .int .i64 H, .int .i64 Bq, .int .i64 Pq] 67) = wV
 have uA : Below w.heap.size w wA := by subst hwA; exact below_one _ _
 have uAV : Below wA.heap.size wA wV := by subst hwV; exact below_one _ _
 have uV := gr_trans uA uAV
 have kA : wV.heap[w.heap.size]? = some (.cells #[.int .i64 B0.id, .string B0.name, .slice a0 n0 c0, .slice fa0 fn0 fc0, .slice ra0 rn0 rc0, .slice oa0 on0 oc0, .int .i64 B0.ticks, .int .i64 B0.parse, .int .i64 B0.word, .int .i64 B0.drops, .int .i64 B0.vers] 66) := kept_block (by rw [← hwA]; exact block_last _ _) uAV
 have kV : wV.heap[wA.heap.size]? = some (.cells #[.int .i64 R, .int .i64 C, .int .i64 H, .int .i64 Bq, .int .i64 Pq] 67) := by rw [← hwV]; exact block_last _ _
 obtain ⟨x0, x1, x2, x3, x4, x5, x6, x7, x8, x9, x10⟩ := cells11 kA
 by_cases gb : ¬ sizeB B0 ≤ 1048576
 ·go_enter Tryz.func5, Tryz.ntmps5
  go_wp2_with fail
  refine (szBridge_from 1048576 (by omega) (by omega) a0 n0 c0 fa0 fn0 fc0 ra0 rn0 rc0 oa0 on0 oc0 B0 _ (h0.below uV) g0.name).mono ?_
  rintro e w1 ⟨rfl, hb1⟩
  rw [if_neg (show ¬ sizeB B0 ≤ 1048576 by omega)]
  have HB := hide (gr_trans uV hb1)
  clear x0 x1 x2 x3 x4 x5 x6 x7 x8 x9 x10
  go_wp2
  go_ret
  exact ⟨rfl, HB.out⟩
 have hsz : sizeB B0 = (B0.name.size : Int) + n0 + fn0 + (rn0 + on0) := by unfold sizeB; rw [h0.ports.size, h0.f.size, h0.v.rows.size, h0.v.own.size]
 have gb : sizeB B0 ≤ 1048576 := by omega
 have gn : n0 ≤ 1048576 := by omega
 have gf : fn0 ≤ 1048576 := by omega
 have gr : rn0 ≤ 1048576 := by omega
 have go : on0 ≤ 1048576 := by omega
 have gs : ¬ ((1048576 : Int) - sizeB B0 < 0) := by omega
 clear hsz
 have HLE := hide (hear_less B0 port ⟨R, C, H, Bq, Pq⟩)
 generalize hV : hearB B0 port ⟨R, C, H, Bq, Pq⟩ = V at HLE
 have HV := hide hV
 clear hV
 go_enter Tryz.func5, Tryz.ntmps5
 go_wp2_with fail
 refine (szBridge_from 1048576 (by omega) (by omega) a0 n0 c0 fa0 fn0 fc0 ra0 rn0 rc0 oa0 on0 oc0 B0 _ (h0.below uV) g0.name).mono ?_
 rintro e w1 ⟨rfl, hb1⟩
 rw [if_pos gb]
 have kA := kept_block kA hb1
 have kV := kept_block kV hb1
 have uB := gr_trans uV hb1
 clear hb1 x0 x1 x2 x3 x4 x5 x6 x7 x8 x9 x10 uV uA uAV hwA hwV
 generalize hSZ : sizeB B0 = SZ at *
 clear hSZ
 go_upto_region 5 with fail
 go_cut [8] from 15 to 81 (fun s wx => ∃ (g : Nat) (a3 : Option Addr) (n3 c3 : Nat) (fa3 : Option Addr) (fn3 fc3 : Nat) (ra3 : Option Addr) (rn3 rc3 : Nat) (oa3 : Option Addr) (on3 oc3 : Nat), s = .pointer (some ⟨g, 0, none⟩) ∧ w1.heap.size ≤ g ∧ wx.heap[g]? = some (.cells #[.int .i64 V.id, .string V.name, .slice a3 n3 c3, .slice fa3 fn3 fc3, .slice ra3 rn3 rc3, .slice oa3 on3 oc3, .int .i64 V.ticks, .int .i64 V.parse, .int .i64 V.word, .int .i64 V.drops, .int .i64 V.vers] 31) ∧ BrOwn wx w1.heap.size a3 n3 c3 fa3 fn3 fc3 ra3 rn3 rc3 oa3 on3 oc3 V ∧ Below w1.heap.size w1 wx)
 case first =>
  have vv : Below w1.heap.size w1 w1.drew := gr_drew (Below.refl _ _)
  go_wp2_with fail
  refine wp_region_held_drew (S := (fun W => (W.cell? ⟨w.heap.size, 0, none⟩ = some (.int .i64 B0.id) ∧ W.cell? ⟨w.heap.size, 1, none⟩ = some (.string B0.name) ∧ W.cell? ⟨w.heap.size, 2, none⟩ = some (.slice a0 n0 c0) ∧ W.cell? ⟨w.heap.size, 3, none⟩ = some (.slice fa0 fn0 fc0) ∧ W.cell? ⟨w.heap.size, 4, none⟩ = some (.slice ra0 rn0 rc0) ∧ W.cell? ⟨w.heap.size, 5, none⟩ = some (.slice oa0 on0 oc0) ∧ W.cell? ⟨w.heap.size, 6, none⟩ = some (.int .i64 B0.ticks) ∧ W.cell? ⟨w.heap.size, 7, none⟩ = some (.int .i64 B0.parse) ∧ W.cell? ⟨w.heap.size, 8, none⟩ = some (.int .i64 B0.word) ∧ W.cell? ⟨w.heap.size, 9, none⟩ = some (.int .i64 B0.drops) ∧ W.cell? ⟨w.heap.size, 10, none⟩ = some (.int .i64 B0.vers)) ∧ (W.cell? ⟨wA.heap.size, 0, none⟩ = some (.int .i64 R) ∧ W.cell? ⟨wA.heap.size, 1, none⟩ = some (.int .i64 C) ∧ W.cell? ⟨wA.heap.size, 2, none⟩ = some (.int .i64 H) ∧ W.cell? ⟨wA.heap.size, 3, none⟩ = some (.int .i64 Bq) ∧ W.cell? ⟨wA.heap.size, 4, none⟩ = some (.int .i64 Pq)))) (by kernel_rfl) (⟨cells11 (kept_block kA vv), (cells5 (kept_block kV vv)).1⟩) (fun hHeld => ?_)
  refine wpAnyH_take (i := 0) (oi := ⟨some 20, .load 66 (.tmp 3), 66, "exact.go:4002", #[], none⟩) (v := ?_) rfl (by kernel_rfl) (by kernel_rfl) (by kernel_rfl) (fun _ _ _ h => h) (Or.inl ⟨by rfl, ?_⟩) (by assumption) ?_
  rotate_left
  ·(intro wY hSw; (try dsimp only at hSw); go_simp; try with_reducible rfl)
  simp only [Act.put, lA, lB, lC]
  refine wpAnyH_take (i := 2) (oi := ⟨some 22, .move (.tmp 1), 3, "exact.go:4002", #[], none⟩) (v := ?_) rfl (by kernel_rfl) (by kernel_rfl) (by kernel_rfl) (fun _ _ _ h => h) (Or.inl ⟨by rfl, ?_⟩) (by assumption) ?_
  rotate_left
  ·(intro wY hSw; (try dsimp only at hSw); go_simp; try with_reducible rfl)
  simp only [Act.put, lA, lB, lC]
  refine wpAnyH_take (i := 3) (oi := ⟨some 23, .load 67 (.tmp 5), 67, "exact.go:4002", #[], none⟩) (v := ?_) rfl (by kernel_rfl) (by kernel_rfl) (by kernel_rfl) (fun _ _ _ h => h) (Or.inl ⟨by rfl, ?_⟩) (by assumption) ?_
  rotate_left
  ·(intro wY hSw; (try dsimp only at hSw); go_simp; try with_reducible rfl)
  simp only [Act.put, lA, lB, lC]
  refine wpAnyH_ready (rs := [1, 6]) (by kernel_rfl) (by simp) ?_
  refine AllReadyH.cons (o := ⟨some 21, .call ⟨.value (.func 32), #[.tmp 20], #[66]⟩, 31, "exact.go:4002", #[⟨0, .data⟩], none⟩) rfl (fun K hK => ?_) ?_
  ·go_simp
   refine (toBridge_made a0 n0 c0 fa0 fn0 fc0 ra0 rn0 rc0 oa0 on0 oc0 B0 _ (h0.below (gr_trans uB vv)) gn gf gr go).mono ?_
   rintro e wx ⟨a2, c2, fa2, fc2, ra2, rc2, oa2, oc2, rfl, t2, hbx⟩
   try have kB := kept_block kB hbx
   have vv := gr_trans vv hbx
   clear hbx
   go_wp2_with fail
   refine hK.out _ _ (⟨cells11 (kept_block kA vv), (cells5 (kept_block kV vv)).1⟩) (fun hHeld => ?_)
   clear hK K
   try simp only [Act.put, lA, lB, lC]
   refine wpAnyH_ready (rs := [4, 6]) (by kernel_rfl) (by simp) ?_
   refine AllReadyH.cons (o := ⟨some 24, .call ⟨.value (.func 33), #[.tmp 23], #[67]⟩, 35, "exact.go:4002", #[⟨3, .data⟩, ⟨1, .chain⟩], none⟩) rfl (fun K hK => ?_) ?_
   ·go_simp
    refine (toVec_made R C H Bq Pq _).mono ?_
    rintro e wx ⟨rfl, hbx⟩
    try have t2 := t2.below hbx
    try have kB := kept_block kB hbx
    have vv := gr_trans vv hbx
    clear hbx
    go_wp2_with fail
    refine hK.out _ _ (⟨cells11 (kept_block kA vv), (cells5 (kept_block kV vv)).1⟩) (fun hHeld => ?_)
    clear hK K
    try simp only [Act.put, lA, lB, lC]
    refine wpAnyH_ready (rs := [5, 6]) (by kernel_rfl) (by simp) ?_
    refine AllReadyH.cons (o := ⟨some 25, .call ⟨.value (.func 25), #[.tmp 21, .tmp 22, .tmp 24], #[31, 3, 35]⟩, 31, "exact.go:4002", #[⟨1, .data⟩, ⟨2, .data⟩, ⟨4, .data⟩, ⟨4, .chain⟩], none⟩) rfl (fun K hK => ?_) ?_
    ·go_simp
     refine (specHear_made _ _ _ _ _ _ _ _ _ _ _ _ B0 port ⟨R, C, H, Bq, Pq⟩ _ t2.row (by omega) (by omega) (by omega) (by omega)).mono ?_
     rw [HV.out]
     rintro e wx ⟨a3, n3, c3, fa3, fn3, fc3, ra3, rn3, rc3, oa3, on3, oc3, rfl, t3, hbx⟩
     have t3 := t3.lt (base' := w1.heap.size) vv.size
     try have kB := kept_block kB hbx
     have vv := gr_trans vv hbx
     clear hbx
     go_wp2_with fail
     refine hK.out _ _ (⟨cells11 (kept_block kA vv), (cells5 (kept_block kV vv)).1⟩) (fun hHeld => ?_)
     clear hK K
     try simp only [Act.put, lA, lB, lC]
     refine wpAnyH_ready (rs := [6]) (by kernel_rfl) (by simp) ?_
     refine AllReadyH.cons (o := ⟨some 8, .alloc 31, 0, "exact.go:4002", #[], none⟩) rfl (fun K hK => ?_) ?_
     ·go_simp
      first
      | refine made_new (K := K _) (fun wx kB hbx => ?_)
      | refine made_drew (K := K _) (fun wx kB hbx => ?_)
      have gB := vv.size
      try have t2 := t2.below hbx
      try have t3 := t3.below hbx
      have vv := gr_trans vv hbx
      clear hbx
      refine hK.out _ _ (⟨cells11 (kept_block kA vv), (cells5 (kept_block kV vv)).1⟩) (fun hHeld => ?_)
      clear hK K
      try simp only [Act.put, lA, lB, lC]
      refine wpAnyH_ready (rs := [7]) (by kernel_rfl) (by simp) ?_
      refine AllReadyH.cons (o := ⟨none, .store 31 (.tmp 8) (.tmp 25), 0, "exact.go:4002", #[⟨6, .data⟩, ⟨5, .data⟩, ⟨5, .chain⟩, ⟨0, .phase⟩, ⟨1, .phase⟩, ⟨2, .phase⟩, ⟨3, .phase⟩, ⟨4, .phase⟩, ⟨5, .phase⟩, ⟨6, .phase⟩], none⟩) rfl (fun K hK => ?_) ?_
      ·obtain ⟨b0, b1, b2, b3, b4, b5, b6, b7, b8, b9, b10⟩ := cells11 kB
       have fr := frozen8 kB
       have fr0 := fr 0
       have fr1 := fr 1
       have fr2 := fr 2
       have fr3 := fr 3
       have fr4 := fr 4
       have fr5 := fr 5
       have fr6 := fr 6
       have fr7 := fr 7
       have fr8 := fr 8
       have fr9 := fr 9
       have fr10 := fr 10
       go_simp
       clear b0 b1 b2 b3 b4 b5 b6 b7 b8 b9 b10 fr0 fr1 fr2 fr3 fr4 fr5 fr6 fr7 fr8 fr9 fr10 fr
       have vv := below_set11 vv gB (.int .i64 V.id) (.string V.name) (.slice a3 n3 c3) (.slice fa3 fn3 fc3) (.slice ra3 rn3 rc3) (.slice oa3 on3 oc3) (.int .i64 V.ticks) (.int .i64 V.parse) (.int .i64 V.word) (.int .i64 V.drops) (.int .i64 V.vers)
       have t3 := t3.boxed11 kB (.int .i64 V.id) (.string V.name) (.slice a3 n3 c3) (.slice fa3 fn3 fc3) (.slice ra3 rn3 rc3) (.slice oa3 on3 oc3) (.int .i64 V.ticks) (.int .i64 V.parse) (.int .i64 V.word) (.int .i64 V.drops) (.int .i64 V.vers)
       have kB := set_box11 kB (.int .i64 V.id) (.string V.name) (.slice a3 n3 c3) (.slice fa3 fn3 fc3) (.slice ra3 rn3 rc3) (.slice oa3 on3 oc3) (.int .i64 V.ticks) (.int .i64 V.parse) (.int .i64 V.word) (.int .i64 V.drops) (.int .i64 V.vers)
       refine hK.out _ _ (⟨cells11 (kept_block kA vv), (cells5 (kept_block kV vv)).1⟩) (fun hHeld => ?_)
       clear hK K
       try simp only [Act.put, lA, lB, lC]
       refine wpAnyH_done (by kernel_rfl) ?_ _
       clear hHeld
       go_wp2_with fail
       go_meet
       exact ⟨_, a3, n3, c3, fa3, fn3, fc3, ra3, rn3, rc3, oa3, on3, oc3, rfl, gB, kB, t3, vv⟩
      exact AllReadyH.nil
     exact AllReadyH.nil
    refine AllReadyH.cons (o := ⟨some 8, .alloc 31, 0, "exact.go:4002", #[], none⟩) rfl (fun K hK => ?_) ?_
    ·go_simp
     first
     | refine made_new (K := K _) (fun wx kB hbx => ?_)
     | refine made_drew (K := K _) (fun wx kB hbx => ?_)
     have gB := vv.size
     try have t2 := t2.below hbx
     try have t3 := t3.below hbx
     have vv := gr_trans vv hbx
     clear hbx
     refine hK.out _ _ (⟨cells11 (kept_block kA vv), (cells5 (kept_block kV vv)).1⟩) (fun hHeld => ?_)
     clear hK K
     try simp only [Act.put, lA, lB, lC]
     refine wpAnyH_ready (rs := [5]) (by kernel_rfl) (by simp) ?_
     refine AllReadyH.cons (o := ⟨some 25, .call ⟨.value (.func 25), #[.tmp 21, .tmp 22, .tmp 24], #[31, 3, 35]⟩, 31, "exact.go:4002", #[⟨1, .data⟩, ⟨2, .data⟩, ⟨4, .data⟩, ⟨4, .chain⟩], none⟩) rfl (fun K hK => ?_) ?_
     ·go_simp
      refine (specHear_made _ _ _ _ _ _ _ _ _ _ _ _ B0 port ⟨R, C, H, Bq, Pq⟩ _ t2.row (by omega) (by omega) (by omega) (by omega)).mono ?_
      rw [HV.out]
      rintro e wx ⟨a3, n3, c3, fa3, fn3, fc3, ra3, rn3, rc3, oa3, on3, oc3, rfl, t3, hbx⟩
      have t3 := t3.lt (base' := w1.heap.size) vv.size
      try have kB := kept_block kB hbx
      have vv := gr_trans vv hbx
      clear hbx
      go_wp2_with fail
      refine hK.out _ _ (⟨cells11 (kept_block kA vv), (cells5 (kept_block kV vv)).1⟩) (fun hHeld => ?_)
      clear hK K
      try simp only [Act.put, lA, lB, lC]
      refine wpAnyH_ready (rs := [7]) (by kernel_rfl) (by simp) ?_
      refine AllReadyH.cons (o := ⟨none, .store 31 (.tmp 8) (.tmp 25), 0, "exact.go:4002", #[⟨6, .data⟩, ⟨5, .data⟩, ⟨5, .chain⟩, ⟨0, .phase⟩, ⟨1, .phase⟩, ⟨2, .phase⟩, ⟨3, .phase⟩, ⟨4, .phase⟩, ⟨5, .phase⟩, ⟨6, .phase⟩], none⟩) rfl (fun K hK => ?_) ?_
      ·obtain ⟨b0, b1, b2, b3, b4, b5, b6, b7, b8, b9, b10⟩ := cells11 kB
       have fr := frozen8 kB
       have fr0 := fr 0
       have fr1 := fr 1
       have fr2 := fr 2
       have fr3 := fr 3
       have fr4 := fr 4
       have fr5 := fr 5
       have fr6 := fr 6
       have fr7 := fr 7
       have fr8 := fr 8
       have fr9 := fr 9
       have fr10 := fr 10
       go_simp
       clear b0 b1 b2 b3 b4 b5 b6 b7 b8 b9 b10 fr0 fr1 fr2 fr3 fr4 fr5 fr6 fr7 fr8 fr9 fr10 fr
       have vv := below_set11 vv gB (.int .i64 V.id) (.string V.name) (.slice a3 n3 c3) (.slice fa3 fn3 fc3) (.slice ra3 rn3 rc3) (.slice oa3 on3 oc3) (.int .i64 V.ticks) (.int .i64 V.parse) (.int .i64 V.word) (.int .i64 V.drops) (.int .i64 V.vers)
       have t3 := t3.boxed11 kB (.int .i64 V.id) (.string V.name) (.slice a3 n3 c3) (.slice fa3 fn3 fc3) (.slice ra3 rn3 rc3) (.slice oa3 on3 oc3) (.int .i64 V.ticks) (.int .i64 V.parse) (.int .i64 V.word) (.int .i64 V.drops) (.int .i64 V.vers)
       have kB := set_box11 kB (.int .i64 V.id) (.string V.name) (.slice a3 n3 c3) (.slice fa3 fn3 fc3) (.slice ra3 rn3 rc3) (.slice oa3 on3 oc3) (.int .i64 V.ticks) (.int .i64 V.parse) (.int .i64 V.word) (.int .i64 V.drops) (.int .i64 V.vers)
       refine hK.out _ _ (⟨cells11 (kept_block kA vv), (cells5 (kept_block kV vv)).1⟩) (fun hHeld => ?_)
       clear hK K
       try simp only [Act.put, lA, lB, lC]
       refine wpAnyH_done (by kernel_rfl) ?_ _
       clear hHeld
       go_wp2_with fail
       go_meet
       exact ⟨_, a3, n3, c3, fa3, fn3, fc3, ra3, rn3, rc3, oa3, on3, oc3, rfl, gB, kB, t3, vv⟩
      exact AllReadyH.nil
     exact AllReadyH.nil
    exact AllReadyH.nil
   refine AllReadyH.cons (o := ⟨some 8, .alloc 31, 0, "exact.go:4002", #[], none⟩) rfl (fun K hK => ?_) ?_
   ·go_simp
    first
    | refine made_new (K := K _) (fun wx kB hbx => ?_)
    | refine made_drew (K := K _) (fun wx kB hbx => ?_)
    have gB := vv.size
    try have t2 := t2.below hbx
    try have t3 := t3.below hbx
    have vv := gr_trans vv hbx
    clear hbx
    refine hK.out _ _ (⟨cells11 (kept_block kA vv), (cells5 (kept_block kV vv)).1⟩) (fun hHeld => ?_)
    clear hK K
    try simp only [Act.put, lA, lB, lC]
    refine wpAnyH_ready (rs := [4]) (by kernel_rfl) (by simp) ?_
    refine AllReadyH.cons (o := ⟨some 24, .call ⟨.value (.func 33), #[.tmp 23], #[67]⟩, 35, "exact.go:4002", #[⟨3, .data⟩, ⟨1, .chain⟩], none⟩) rfl (fun K hK => ?_) ?_
    ·go_simp
     refine (toVec_made R C H Bq Pq _).mono ?_
     rintro e wx ⟨rfl, hbx⟩
     try have t2 := t2.below hbx
     try have kB := kept_block kB hbx
     have vv := gr_trans vv hbx
     clear hbx
     go_wp2_with fail
     refine hK.out _ _ (⟨cells11 (kept_block kA vv), (cells5 (kept_block kV vv)).1⟩) (fun hHeld => ?_)
     clear hK K
     try simp only [Act.put, lA, lB, lC]
     refine wpAnyH_ready (rs := [5]) (by kernel_rfl) (by simp) ?_
     refine AllReadyH.cons (o := ⟨some 25, .call ⟨.value (.func 25), #[.tmp 21, .tmp 22, .tmp 24], #[31, 3, 35]⟩, 31, "exact.go:4002", #[⟨1, .data⟩, ⟨2, .data⟩, ⟨4, .data⟩, ⟨4, .chain⟩], none⟩) rfl (fun K hK => ?_) ?_
     ·go_simp
      refine (specHear_made _ _ _ _ _ _ _ _ _ _ _ _ B0 port ⟨R, C, H, Bq, Pq⟩ _ t2.row (by omega) (by omega) (by omega) (by omega)).mono ?_
      rw [HV.out]
      rintro e wx ⟨a3, n3, c3, fa3, fn3, fc3, ra3, rn3, rc3, oa3, on3, oc3, rfl, t3, hbx⟩
      have t3 := t3.lt (base' := w1.heap.size) vv.size
      try have kB := kept_block kB hbx
      have vv := gr_trans vv hbx
      clear hbx
      go_wp2_with fail
      refine hK.out _ _ (⟨cells11 (kept_block kA vv), (cells5 (kept_block kV vv)).1⟩) (fun hHeld => ?_)
      clear hK K
      try simp only [Act.put, lA, lB, lC]
      refine wpAnyH_ready (rs := [7]) (by kernel_rfl) (by simp) ?_
      refine AllReadyH.cons (o := ⟨none, .store 31 (.tmp 8) (.tmp 25), 0, "exact.go:4002", #[⟨6, .data⟩, ⟨5, .data⟩, ⟨5, .chain⟩, ⟨0, .phase⟩, ⟨1, .phase⟩, ⟨2, .phase⟩, ⟨3, .phase⟩, ⟨4, .phase⟩, ⟨5, .phase⟩, ⟨6, .phase⟩], none⟩) rfl (fun K hK => ?_) ?_
      ·obtain ⟨b0, b1, b2, b3, b4, b5, b6, b7, b8, b9, b10⟩ := cells11 kB
       have fr := frozen8 kB
       have fr0 := fr 0
       have fr1 := fr 1
       have fr2 := fr 2
       have fr3 := fr 3
       have fr4 := fr 4
       have fr5 := fr 5
       have fr6 := fr 6
       have fr7 := fr 7
       have fr8 := fr 8
       have fr9 := fr 9
       have fr10 := fr 10
       go_simp
       clear b0 b1 b2 b3 b4 b5 b6 b7 b8 b9 b10 fr0 fr1 fr2 fr3 fr4 fr5 fr6 fr7 fr8 fr9 fr10 fr
       have vv := below_set11 vv gB (.int .i64 V.id) (.string V.name) (.slice a3 n3 c3) (.slice fa3 fn3 fc3) (.slice ra3 rn3 rc3) (.slice oa3 on3 oc3) (.int .i64 V.ticks) (.int .i64 V.parse) (.int .i64 V.word) (.int .i64 V.drops) (.int .i64 V.vers)
       have t3 := t3.boxed11 kB (.int .i64 V.id) (.string V.name) (.slice a3 n3 c3) (.slice fa3 fn3 fc3) (.slice ra3 rn3 rc3) (.slice oa3 on3 oc3) (.int .i64 V.ticks) (.int .i64 V.parse) (.int .i64 V.word) (.int .i64 V.drops) (.int .i64 V.vers)
       have kB := set_box11 kB (.int .i64 V.id) (.string V.name) (.slice a3 n3 c3) (.slice fa3 fn3 fc3) (.slice ra3 rn3 rc3) (.slice oa3 on3 oc3) (.int .i64 V.ticks) (.int .i64 V.parse) (.int .i64 V.word) (.int .i64 V.drops) (.int .i64 V.vers)
       refine hK.out _ _ (⟨cells11 (kept_block kA vv), (cells5 (kept_block kV vv)).1⟩) (fun hHeld => ?_)
       clear hK K
       try simp only [Act.put, lA, lB, lC]
       refine wpAnyH_done (by kernel_rfl) ?_ _
       clear hHeld
       go_wp2_with fail
       go_meet
       exact ⟨_, a3, n3, c3, fa3, fn3, fc3, ra3, rn3, rc3, oa3, on3, oc3, rfl, gB, kB, t3, vv⟩
      exact AllReadyH.nil
     exact AllReadyH.nil
    exact AllReadyH.nil
   exact AllReadyH.nil
  refine AllReadyH.cons (o := ⟨some 8, .alloc 31, 0, "exact.go:4002", #[], none⟩) rfl (fun K hK => ?_) ?_
  ·go_simp
   first
   | refine made_new (K := K _) (fun wx kB hbx => ?_)
   | refine made_drew (K := K _) (fun wx kB hbx => ?_)
   have gB := vv.size
   try have t2 := t2.below hbx
   try have t3 := t3.below hbx
   have vv := gr_trans vv hbx
   clear hbx
   refine hK.out _ _ (⟨cells11 (kept_block kA vv), (cells5 (kept_block kV vv)).1⟩) (fun hHeld => ?_)
   clear hK K
   try simp only [Act.put, lA, lB, lC]
   refine wpAnyH_ready (rs := [1]) (by kernel_rfl) (by simp) ?_
   refine AllReadyH.cons (o := ⟨some 21, .call ⟨.value (.func 32), #[.tmp 20], #[66]⟩, 31, "exact.go:4002", #[⟨0, .data⟩], none⟩) rfl (fun K hK => ?_) ?_
   ·go_simp
    refine (toBridge_made a0 n0 c0 fa0 fn0 fc0 ra0 rn0 rc0 oa0 on0 oc0 B0 _ (h0.below (gr_trans uB vv)) gn gf gr go).mono ?_
    rintro e wx ⟨a2, c2, fa2, fc2, ra2, rc2, oa2, oc2, rfl, t2, hbx⟩
    try have kB := kept_block kB hbx
    have vv := gr_trans vv hbx
    clear hbx
    go_wp2_with fail
    refine hK.out _ _ (⟨cells11 (kept_block kA vv), (cells5 (kept_block kV vv)).1⟩) (fun hHeld => ?_)
    clear hK K
    try simp only [Act.put, lA, lB, lC]
    refine wpAnyH_ready (rs := [4]) (by kernel_rfl) (by simp) ?_
    refine AllReadyH.cons (o := ⟨some 24, .call ⟨.value (.func 33), #[.tmp 23], #[67]⟩, 35, "exact.go:4002", #[⟨3, .data⟩, ⟨1, .chain⟩], none⟩) rfl (fun K hK => ?_) ?_
    ·go_simp
     refine (toVec_made R C H Bq Pq _).mono ?_
     rintro e wx ⟨rfl, hbx⟩
     try have t2 := t2.below hbx
     try have kB := kept_block kB hbx
     have vv := gr_trans vv hbx
     clear hbx
     go_wp2_with fail
     refine hK.out _ _ (⟨cells11 (kept_block kA vv), (cells5 (kept_block kV vv)).1⟩) (fun hHeld => ?_)
     clear hK K
     try simp only [Act.put, lA, lB, lC]
     refine wpAnyH_ready (rs := [5]) (by kernel_rfl) (by simp) ?_
     refine AllReadyH.cons (o := ⟨some 25, .call ⟨.value (.func 25), #[.tmp 21, .tmp 22, .tmp 24], #[31, 3, 35]⟩, 31, "exact.go:4002", #[⟨1, .data⟩, ⟨2, .data⟩, ⟨4, .data⟩, ⟨4, .chain⟩], none⟩) rfl (fun K hK => ?_) ?_
     ·go_simp
      refine (specHear_made _ _ _ _ _ _ _ _ _ _ _ _ B0 port ⟨R, C, H, Bq, Pq⟩ _ t2.row (by omega) (by omega) (by omega) (by omega)).mono ?_
      rw [HV.out]
      rintro e wx ⟨a3, n3, c3, fa3, fn3, fc3, ra3, rn3, rc3, oa3, on3, oc3, rfl, t3, hbx⟩
      have t3 := t3.lt (base' := w1.heap.size) vv.size
      try have kB := kept_block kB hbx
      have vv := gr_trans vv hbx
      clear hbx
      go_wp2_with fail
      refine hK.out _ _ (⟨cells11 (kept_block kA vv), (cells5 (kept_block kV vv)).1⟩) (fun hHeld => ?_)
      clear hK K
      try simp only [Act.put, lA, lB, lC]
      refine wpAnyH_ready (rs := [7]) (by kernel_rfl) (by simp) ?_
      refine AllReadyH.cons (o := ⟨none, .store 31 (.tmp 8) (.tmp 25), 0, "exact.go:4002", #[⟨6, .data⟩, ⟨5, .data⟩, ⟨5, .chain⟩, ⟨0, .phase⟩, ⟨1, .phase⟩, ⟨2, .phase⟩, ⟨3, .phase⟩, ⟨4, .phase⟩, ⟨5, .phase⟩, ⟨6, .phase⟩], none⟩) rfl (fun K hK => ?_) ?_
      ·obtain ⟨b0, b1, b2, b3, b4, b5, b6, b7, b8, b9, b10⟩ := cells11 kB
       have fr := frozen8 kB
       have fr0 := fr 0
       have fr1 := fr 1
       have fr2 := fr 2
       have fr3 := fr 3
       have fr4 := fr 4
       have fr5 := fr 5
       have fr6 := fr 6
       have fr7 := fr 7
       have fr8 := fr 8
       have fr9 := fr 9
       have fr10 := fr 10
       go_simp
       clear b0 b1 b2 b3 b4 b5 b6 b7 b8 b9 b10 fr0 fr1 fr2 fr3 fr4 fr5 fr6 fr7 fr8 fr9 fr10 fr
       have vv := below_set11 vv gB (.int .i64 V.id) (.string V.name) (.slice a3 n3 c3) (.slice fa3 fn3 fc3) (.slice ra3 rn3 rc3) (.slice oa3 on3 oc3) (.int .i64 V.ticks) (.int .i64 V.parse) (.int .i64 V.word) (.int .i64 V.drops) (.int .i64 V.vers)
       have t3 := t3.boxed11 kB (.int .i64 V.id) (.string V.name) (.slice a3 n3 c3) (.slice fa3 fn3 fc3) (.slice ra3 rn3 rc3) (.slice oa3 on3 oc3) (.int .i64 V.ticks) (.int .i64 V.parse) (.int .i64 V.word) (.int .i64 V.drops) (.int .i64 V.vers)
       have kB := set_box11 kB (.int .i64 V.id) (.string V.name) (.slice a3 n3 c3) (.slice fa3 fn3 fc3) (.slice ra3 rn3 rc3) (.slice oa3 on3 oc3) (.int .i64 V.ticks) (.int .i64 V.parse) (.int .i64 V.word) (.int .i64 V.drops) (.int .i64 V.vers)
       refine hK.out _ _ (⟨cells11 (kept_block kA vv), (cells5 (kept_block kV vv)).1⟩) (fun hHeld => ?_)
       clear hK K
       try simp only [Act.put, lA, lB, lC]
       refine wpAnyH_done (by kernel_rfl) ?_ _
       clear hHeld
       go_wp2_with fail
       go_meet
       exact ⟨_, a3, n3, c3, fa3, fn3, fc3, ra3, rn3, rc3, oa3, on3, oc3, rfl, gB, kB, t3, vv⟩
      exact AllReadyH.nil
     exact AllReadyH.nil
    exact AllReadyH.nil
   exact AllReadyH.nil
  exact AllReadyH.nil
 case rest =>
  obtain ⟨gS, a3, n3, c3, fa3, fn3, fc3, ra3, rn3, rc3, oa3, on3, oc3, rfl, -, kS, tS, hb⟩ := hcut
  obtain ⟨wS, hwS⟩ : ∃ x, x = wc := ⟨_, rfl⟩
  subst hwS
  have kA := kept_block kA hb
  have kV := kept_block kV hb
  have uS := gr_trans uB hb
  have pS : Below wS.heap.size wS wS := Below.refl _ _
  clear hb uB
  obtain ⟨x0, x1, x2, x3, x4, x5, x6, x7, x8, x9, x10⟩ := cells11 kA
  go_wp2_with fail
  refine (toBridge_made a0 n0 c0 fa0 fn0 fc0 ra0 rn0 rc0 oa0 on0 oc0 B0 _ (h0.below uS) gn gf gr go).mono ?_
  rintro e w4 ⟨a4, c4, fa4, fc4, ra4, rc4, oa4, oc4, rfl, t4, hb4⟩
  have EX := hide t4.under
  generalize hwX : w4.alloc (Obj.cells #[.int .i64 B0.id, .string B0.name, .slice a4 n0 c4, .slice fa4 fn0 fc4, .slice ra4 rn0 rc4, .slice oa4 on0 oc4, .int .i64 B0.ticks, .int .i64 B0.parse, .int .i64 B0.word, .int .i64 B0.drops, .int .i64 B0.vers] 31) = wX
  have b4X : Below w4.heap.size w4 wX := by subst hwX; exact below_one _ _
  have kX : wX.heap[w4.heap.size]? = some (.cells #[.int .i64 B0.id, .string B0.name, .slice a4 n0 c4, .slice fa4 fn0 fc4, .slice ra4 rn0 rc4, .slice oa4 on0 oc4, .int .i64 B0.ticks, .int .i64 B0.parse, .int .i64 B0.word, .int .i64 B0.drops, .int .i64 B0.vers] 31) := by rw [← hwX]; exact block_last _ _
  have tX := t4.below b4X
  have pS : Below wS.heap.size wS wX := gr_trans hb4 b4X
  have SG : Hid (wS.heap.size ≤ wX.heap.size) := hide pS.size
  have GX : Hid (w4.heap.size ≤ wX.heap.size) := hide b4X.size
  have KA := hide kA
  have KV := hide kV
  have kV := kept_block kV pS
  clear x0 x1 x2 x3 x4 x5 x6 x7 x8 x9 x10 t4 hb4
  go_upto_region 7 with fail
  try rw [hwX]
  clear hwX
  go_cut [10] from 15 to 81 (fun s wx => ∃ (g : Nat) (a3 : Option Addr) (n3 c3 : Nat) (fa3 : Option Addr) (fn3 fc3 : Nat) (ra3 : Option Addr) (rn3 rc3 : Nat) (oa3 : Option Addr) (on3 oc3 : Nat), s = .pointer (some ⟨g, 0, none⟩) ∧ wX.heap.size ≤ g ∧ wx.heap[g]? = some (.cells #[.int .i64 V.id, .string V.name, .slice a3 n3 c3, .slice fa3 fn3 fc3, .slice ra3 rn3 rc3, .slice oa3 on3 oc3, .int .i64 V.ticks, .int .i64 V.parse, .int .i64 V.word, .int .i64 V.drops, .int .i64 V.vers] 31) ∧ BrOwn wx wX.heap.size a3 n3 c3 fa3 fn3 fc3 ra3 rn3 rc3 oa3 on3 oc3 V ∧ Below wX.heap.size wX wx)
  case first =>
   have vv : Below wX.heap.size wX wX.drew := gr_drew (Below.refl _ _)
   go_wp2_with fail
   refine wp_region_held_drew (S := (fun W => (W.cell? ⟨w4.heap.size, 0, none⟩ = some (.int .i64 B0.id) ∧ W.cell? ⟨w4.heap.size, 1, none⟩ = some (.string B0.name) ∧ W.cell? ⟨w4.heap.size, 2, none⟩ = some (.slice a4 n0 c4) ∧ W.cell? ⟨w4.heap.size, 3, none⟩ = some (.slice fa4 fn0 fc4) ∧ W.cell? ⟨w4.heap.size, 4, none⟩ = some (.slice ra4 rn0 rc4) ∧ W.cell? ⟨w4.heap.size, 5, none⟩ = some (.slice oa4 on0 oc4) ∧ W.cell? ⟨w4.heap.size, 6, none⟩ = some (.int .i64 B0.ticks) ∧ W.cell? ⟨w4.heap.size, 7, none⟩ = some (.int .i64 B0.parse) ∧ W.cell? ⟨w4.heap.size, 8, none⟩ = some (.int .i64 B0.word) ∧ W.cell? ⟨w4.heap.size, 9, none⟩ = some (.int .i64 B0.drops) ∧ W.cell? ⟨w4.heap.size, 10, none⟩ = some (.int .i64 B0.vers)) ∧ (W.cell? ⟨wA.heap.size, 0, none⟩ = some (.int .i64 R) ∧ W.cell? ⟨wA.heap.size, 1, none⟩ = some (.int .i64 C) ∧ W.cell? ⟨wA.heap.size, 2, none⟩ = some (.int .i64 H) ∧ W.cell? ⟨wA.heap.size, 3, none⟩ = some (.int .i64 Bq) ∧ W.cell? ⟨wA.heap.size, 4, none⟩ = some (.int .i64 Pq)))) (by kernel_rfl) (⟨cells11 (kept_block kX vv), (cells5 (kept_block kV vv)).1⟩) (fun hHeld => ?_)
   refine wpAnyH_take (i := 0) (oi := ⟨some 28, .load 31 (.tmp 9), 31, "exact.go:4004", #[], none⟩) (v := ?_) rfl (by kernel_rfl) (by kernel_rfl) (by kernel_rfl) (fun _ _ _ h => h) (Or.inl ⟨by rfl, ?_⟩) (by assumption) ?_
   rotate_left
   ·(intro wY hSw; (try dsimp only at hSw); go_simp; try with_reducible rfl)
   simp only [Act.put, lA, lB, lC]
   refine wpAnyH_take (i := 1) (oi := ⟨some 29, .move (.tmp 1), 3, "exact.go:4004", #[], none⟩) (v := ?_) rfl (by kernel_rfl) (by kernel_rfl) (by kernel_rfl) (fun _ _ _ h => h) (Or.inl ⟨by rfl, ?_⟩) (by assumption) ?_
   rotate_left
   ·(intro wY hSw; (try dsimp only at hSw); go_simp; try with_reducible rfl)
   simp only [Act.put, lA, lB, lC]
   refine wpAnyH_take (i := 2) (oi := ⟨some 30, .load 67 (.tmp 5), 67, "exact.go:4004", #[], none⟩) (v := ?_) rfl (by kernel_rfl) (by kernel_rfl) (by kernel_rfl) (fun _ _ _ h => h) (Or.inl ⟨by rfl, ?_⟩) (by assumption) ?_
   rotate_left
   ·(intro wY hSw; (try dsimp only at hSw); go_simp; try with_reducible rfl)
   simp only [Act.put, lA, lB, lC]
   refine wpAnyH_ready (rs := [3, 5]) (by kernel_rfl) (by simp) ?_
   refine AllReadyH.cons (o := ⟨some 31, .call ⟨.value (.func 33), #[.tmp 30], #[67]⟩, 35, "exact.go:4004", #[⟨2, .data⟩], none⟩) rfl (fun K hK => ?_) ?_
   ·go_simp
    refine (toVec_made R C H Bq Pq _).mono ?_
    rintro e wx ⟨rfl, hbx⟩
    try have t2 := t2.below hbx
    try have kB := kept_block kB hbx
    have vv := gr_trans vv hbx
    clear hbx
    go_wp2_with fail
    refine hK.out _ _ (⟨cells11 (kept_block kX vv), (cells5 (kept_block kV vv)).1⟩) (fun hHeld => ?_)
    clear hK K
    try simp only [Act.put, lA, lB, lC]
    refine wpAnyH_ready (rs := [4, 5]) (by kernel_rfl) (by simp) ?_
    refine AllReadyH.cons (o := ⟨some 32, .call ⟨.value (.func 10), #[.tmp 28, .tmp 29, .tmp 31], #[31, 3, 35]⟩, 31, "exact.go:4004", #[⟨0, .data⟩, ⟨1, .data⟩, ⟨3, .data⟩, ⟨3, .chain⟩], none⟩) rfl (fun K hK => ?_) ?_
    ·go_simp
     refine (implHear_made _ _ _ _ _ _ _ _ _ _ _ _ B0 port ⟨R, C, H, Bq, Pq⟩ _ (tX.below vv).row (by omega) (by omega) (by omega) (by omega) g0.f g0.v).mono ?_
     rw [HV.out]
     rintro e wx ⟨a3, n3, c3, fa3, fn3, fc3, ra3, rn3, rc3, oa3, on3, oc3, rfl, t3, hbx⟩
     have t3 := t3.lt (base' := wX.heap.size) vv.size
     try have kB := kept_block kB hbx
     have vv := gr_trans vv hbx
     clear hbx
     go_wp2_with fail
     refine hK.out _ _ (⟨cells11 (kept_block kX vv), (cells5 (kept_block kV vv)).1⟩) (fun hHeld => ?_)
     clear hK K
     try simp only [Act.put, lA, lB, lC]
     refine wpAnyH_ready (rs := [5]) (by kernel_rfl) (by simp) ?_
     refine AllReadyH.cons (o := ⟨some 10, .alloc 31, 0, "exact.go:4004", #[], none⟩) rfl (fun K hK => ?_) ?_
     ·go_simp
      first
      | refine made_new (K := K _) (fun wx kB hbx => ?_)
      | refine made_drew (K := K _) (fun wx kB hbx => ?_)
      have gB := vv.size
      try have t2 := t2.below hbx
      try have t3 := t3.below hbx
      have vv := gr_trans vv hbx
      clear hbx
      refine hK.out _ _ (⟨cells11 (kept_block kX vv), (cells5 (kept_block kV vv)).1⟩) (fun hHeld => ?_)
      clear hK K
      try simp only [Act.put, lA, lB, lC]
      refine wpAnyH_ready (rs := [6]) (by kernel_rfl) (by simp) ?_
      refine AllReadyH.cons (o := ⟨none, .store 31 (.tmp 10) (.tmp 32), 0, "exact.go:4004", #[⟨5, .data⟩, ⟨4, .data⟩, ⟨4, .chain⟩, ⟨0, .phase⟩, ⟨1, .phase⟩, ⟨2, .phase⟩, ⟨3, .phase⟩, ⟨4, .phase⟩, ⟨5, .phase⟩], none⟩) rfl (fun K hK => ?_) ?_
      ·obtain ⟨b0, b1, b2, b3, b4, b5, b6, b7, b8, b9, b10⟩ := cells11 kB
       have fr := frozen8 kB
       have fr0 := fr 0
       have fr1 := fr 1
       have fr2 := fr 2
       have fr3 := fr 3
       have fr4 := fr 4
       have fr5 := fr 5
       have fr6 := fr 6
       have fr7 := fr 7
       have fr8 := fr 8
       have fr9 := fr 9
       have fr10 := fr 10
       go_simp
       clear b0 b1 b2 b3 b4 b5 b6 b7 b8 b9 b10 fr0 fr1 fr2 fr3 fr4 fr5 fr6 fr7 fr8 fr9 fr10 fr
       have vv := below_set11 vv gB (.int .i64 V.id) (.string V.name) (.slice a3 n3 c3) (.slice fa3 fn3 fc3) (.slice ra3 rn3 rc3) (.slice oa3 on3 oc3) (.int .i64 V.ticks) (.int .i64 V.parse) (.int .i64 V.word) (.int .i64 V.drops) (.int .i64 V.vers)
       have t3 := t3.boxed11 kB (.int .i64 V.id) (.string V.name) (.slice a3 n3 c3) (.slice fa3 fn3 fc3) (.slice ra3 rn3 rc3) (.slice oa3 on3 oc3) (.int .i64 V.ticks) (.int .i64 V.parse) (.int .i64 V.word) (.int .i64 V.drops) (.int .i64 V.vers)
       have kB := set_box11 kB (.int .i64 V.id) (.string V.name) (.slice a3 n3 c3) (.slice fa3 fn3 fc3) (.slice ra3 rn3 rc3) (.slice oa3 on3 oc3) (.int .i64 V.ticks) (.int .i64 V.parse) (.int .i64 V.word) (.int .i64 V.drops) (.int .i64 V.vers)
       refine hK.out _ _ (⟨cells11 (kept_block kX vv), (cells5 (kept_block kV vv)).1⟩) (fun hHeld => ?_)
       clear hK K
       try simp only [Act.put, lA, lB, lC]
       refine wpAnyH_done (by kernel_rfl) ?_ _
       clear hHeld
       go_wp2_with fail
       go_meet
       exact ⟨_, a3, n3, c3, fa3, fn3, fc3, ra3, rn3, rc3, oa3, on3, oc3, rfl, gB, kB, t3, vv⟩
      exact AllReadyH.nil
     exact AllReadyH.nil
    refine AllReadyH.cons (o := ⟨some 10, .alloc 31, 0, "exact.go:4004", #[], none⟩) rfl (fun K hK => ?_) ?_
    ·go_simp
     first
     | refine made_new (K := K _) (fun wx kB hbx => ?_)
     | refine made_drew (K := K _) (fun wx kB hbx => ?_)
     have gB := vv.size
     try have t2 := t2.below hbx
     try have t3 := t3.below hbx
     have vv := gr_trans vv hbx
     clear hbx
     refine hK.out _ _ (⟨cells11 (kept_block kX vv), (cells5 (kept_block kV vv)).1⟩) (fun hHeld => ?_)
     clear hK K
     try simp only [Act.put, lA, lB, lC]
     refine wpAnyH_ready (rs := [4]) (by kernel_rfl) (by simp) ?_
     refine AllReadyH.cons (o := ⟨some 32, .call ⟨.value (.func 10), #[.tmp 28, .tmp 29, .tmp 31], #[31, 3, 35]⟩, 31, "exact.go:4004", #[⟨0, .data⟩, ⟨1, .data⟩, ⟨3, .data⟩, ⟨3, .chain⟩], none⟩) rfl (fun K hK => ?_) ?_
     ·go_simp
      refine (implHear_made _ _ _ _ _ _ _ _ _ _ _ _ B0 port ⟨R, C, H, Bq, Pq⟩ _ (tX.below vv).row (by omega) (by omega) (by omega) (by omega) g0.f g0.v).mono ?_
      rw [HV.out]
      rintro e wx ⟨a3, n3, c3, fa3, fn3, fc3, ra3, rn3, rc3, oa3, on3, oc3, rfl, t3, hbx⟩
      have t3 := t3.lt (base' := wX.heap.size) vv.size
      try have kB := kept_block kB hbx
      have vv := gr_trans vv hbx
      clear hbx
      go_wp2_with fail
      refine hK.out _ _ (⟨cells11 (kept_block kX vv), (cells5 (kept_block kV vv)).1⟩) (fun hHeld => ?_)
      clear hK K
      try simp only [Act.put, lA, lB, lC]
      refine wpAnyH_ready (rs := [6]) (by kernel_rfl) (by simp) ?_
      refine AllReadyH.cons (o := ⟨none, .store 31 (.tmp 10) (.tmp 32), 0, "exact.go:4004", #[⟨5, .data⟩, ⟨4, .data⟩, ⟨4, .chain⟩, ⟨0, .phase⟩, ⟨1, .phase⟩, ⟨2, .phase⟩, ⟨3, .phase⟩, ⟨4, .phase⟩, ⟨5, .phase⟩], none⟩) rfl (fun K hK => ?_) ?_
      ·obtain ⟨b0, b1, b2, b3, b4, b5, b6, b7, b8, b9, b10⟩ := cells11 kB
       have fr := frozen8 kB
       have fr0 := fr 0
       have fr1 := fr 1
       have fr2 := fr 2
       have fr3 := fr 3
       have fr4 := fr 4
       have fr5 := fr 5
       have fr6 := fr 6
       have fr7 := fr 7
       have fr8 := fr 8
       have fr9 := fr 9
       have fr10 := fr 10
       go_simp
       clear b0 b1 b2 b3 b4 b5 b6 b7 b8 b9 b10 fr0 fr1 fr2 fr3 fr4 fr5 fr6 fr7 fr8 fr9 fr10 fr
       have vv := below_set11 vv gB (.int .i64 V.id) (.string V.name) (.slice a3 n3 c3) (.slice fa3 fn3 fc3) (.slice ra3 rn3 rc3) (.slice oa3 on3 oc3) (.int .i64 V.ticks) (.int .i64 V.parse) (.int .i64 V.word) (.int .i64 V.drops) (.int .i64 V.vers)
       have t3 := t3.boxed11 kB (.int .i64 V.id) (.string V.name) (.slice a3 n3 c3) (.slice fa3 fn3 fc3) (.slice ra3 rn3 rc3) (.slice oa3 on3 oc3) (.int .i64 V.ticks) (.int .i64 V.parse) (.int .i64 V.word) (.int .i64 V.drops) (.int .i64 V.vers)
       have kB := set_box11 kB (.int .i64 V.id) (.string V.name) (.slice a3 n3 c3) (.slice fa3 fn3 fc3) (.slice ra3 rn3 rc3) (.slice oa3 on3 oc3) (.int .i64 V.ticks) (.int .i64 V.parse) (.int .i64 V.word) (.int .i64 V.drops) (.int .i64 V.vers)
       refine hK.out _ _ (⟨cells11 (kept_block kX vv), (cells5 (kept_block kV vv)).1⟩) (fun hHeld => ?_)
       clear hK K
       try simp only [Act.put, lA, lB, lC]
       refine wpAnyH_done (by kernel_rfl) ?_ _
       clear hHeld
       go_wp2_with fail
       go_meet
       exact ⟨_, a3, n3, c3, fa3, fn3, fc3, ra3, rn3, rc3, oa3, on3, oc3, rfl, gB, kB, t3, vv⟩
      exact AllReadyH.nil
     exact AllReadyH.nil
    exact AllReadyH.nil
   refine AllReadyH.cons (o := ⟨some 10, .alloc 31, 0, "exact.go:4004", #[], none⟩) rfl (fun K hK => ?_) ?_
   ·go_simp
    first
    | refine made_new (K := K _) (fun wx kB hbx => ?_)
    | refine made_drew (K := K _) (fun wx kB hbx => ?_)
    have gB := vv.size
    try have t2 := t2.below hbx
    try have t3 := t3.below hbx
    have vv := gr_trans vv hbx
    clear hbx
    refine hK.out _ _ (⟨cells11 (kept_block kX vv), (cells5 (kept_block kV vv)).1⟩) (fun hHeld => ?_)
    clear hK K
    try simp only [Act.put, lA, lB, lC]
    refine wpAnyH_ready (rs := [3]) (by kernel_rfl) (by simp) ?_
    refine AllReadyH.cons (o := ⟨some 31, .call ⟨.value (.func 33), #[.tmp 30], #[67]⟩, 35, "exact.go:4004", #[⟨2, .data⟩], none⟩) rfl (fun K hK => ?_) ?_
    ·go_simp
     refine (toVec_made R C H Bq Pq _).mono ?_
     rintro e wx ⟨rfl, hbx⟩
     try have t2 := t2.below hbx
     try have kB := kept_block kB hbx
     have vv := gr_trans vv hbx
     clear hbx
     go_wp2_with fail
     refine hK.out _ _ (⟨cells11 (kept_block kX vv), (cells5 (kept_block kV vv)).1⟩) (fun hHeld => ?_)
     clear hK K
     try simp only [Act.put, lA, lB, lC]
     refine wpAnyH_ready (rs := [4]) (by kernel_rfl) (by simp) ?_
     refine AllReadyH.cons (o := ⟨some 32, .call ⟨.value (.func 10), #[.tmp 28, .tmp 29, .tmp 31], #[31, 3, 35]⟩, 31, "exact.go:4004", #[⟨0, .data⟩, ⟨1, .data⟩, ⟨3, .data⟩, ⟨3, .chain⟩], none⟩) rfl (fun K hK => ?_) ?_
     ·go_simp
      refine (implHear_made _ _ _ _ _ _ _ _ _ _ _ _ B0 port ⟨R, C, H, Bq, Pq⟩ _ (tX.below vv).row (by omega) (by omega) (by omega) (by omega) g0.f g0.v).mono ?_
      rw [HV.out]
      rintro e wx ⟨a3, n3, c3, fa3, fn3, fc3, ra3, rn3, rc3, oa3, on3, oc3, rfl, t3, hbx⟩
      have t3 := t3.lt (base' := wX.heap.size) vv.size
      try have kB := kept_block kB hbx
      have vv := gr_trans vv hbx
      clear hbx
      go_wp2_with fail
      refine hK.out _ _ (⟨cells11 (kept_block kX vv), (cells5 (kept_block kV vv)).1⟩) (fun hHeld => ?_)
      clear hK K
      try simp only [Act.put, lA, lB, lC]
      refine wpAnyH_ready (rs := [6]) (by kernel_rfl) (by simp) ?_
      refine AllReadyH.cons (o := ⟨none, .store 31 (.tmp 10) (.tmp 32), 0, "exact.go:4004", #[⟨5, .data⟩, ⟨4, .data⟩, ⟨4, .chain⟩, ⟨0, .phase⟩, ⟨1, .phase⟩, ⟨2, .phase⟩, ⟨3, .phase⟩, ⟨4, .phase⟩, ⟨5, .phase⟩], none⟩) rfl (fun K hK => ?_) ?_
      ·obtain ⟨b0, b1, b2, b3, b4, b5, b6, b7, b8, b9, b10⟩ := cells11 kB
       have fr := frozen8 kB
       have fr0 := fr 0
       have fr1 := fr 1
       have fr2 := fr 2
       have fr3 := fr 3
       have fr4 := fr 4
       have fr5 := fr 5
       have fr6 := fr 6
       have fr7 := fr 7
       have fr8 := fr 8
       have fr9 := fr 9
       have fr10 := fr 10
       go_simp
       clear b0 b1 b2 b3 b4 b5 b6 b7 b8 b9 b10 fr0 fr1 fr2 fr3 fr4 fr5 fr6 fr7 fr8 fr9 fr10 fr
       have vv := below_set11 vv gB (.int .i64 V.id) (.string V.name) (.slice a3 n3 c3) (.slice fa3 fn3 fc3) (.slice ra3 rn3 rc3) (.slice oa3 on3 oc3) (.int .i64 V.ticks) (.int .i64 V.parse) (.int .i64 V.word) (.int .i64 V.drops) (.int .i64 V.vers)
       have t3 := t3.boxed11 kB (.int .i64 V.id) (.string V.name) (.slice a3 n3 c3) (.slice fa3 fn3 fc3) (.slice ra3 rn3 rc3) (.slice oa3 on3 oc3) (.int .i64 V.ticks) (.int .i64 V.parse) (.int .i64 V.word) (.int .i64 V.drops) (.int .i64 V.vers)
       have kB := set_box11 kB (.int .i64 V.id) (.string V.name) (.slice a3 n3 c3) (.slice fa3 fn3 fc3) (.slice ra3 rn3 rc3) (.slice oa3 on3 oc3) (.int .i64 V.ticks) (.int .i64 V.parse) (.int .i64 V.word) (.int .i64 V.drops) (.int .i64 V.vers)
       refine hK.out _ _ (⟨cells11 (kept_block kX vv), (cells5 (kept_block kV vv)).1⟩) (fun hHeld => ?_)
       clear hK K
       try simp only [Act.put, lA, lB, lC]
       refine wpAnyH_done (by kernel_rfl) ?_ _
       clear hHeld
       go_wp2_with fail
       go_meet
       exact ⟨_, a3, n3, c3, fa3, fn3, fc3, ra3, rn3, rc3, oa3, on3, oc3, rfl, gB, kB, t3, vv⟩
      exact AllReadyH.nil
     exact AllReadyH.nil
    exact AllReadyH.nil
   exact AllReadyH.nil
  case rest =>
   have kV := KV.out
   obtain ⟨gG, a6, n6, c6, fa6, fn6, fc6, ra6, rn6, rc6, oa6, on6, oc6, rfl, hgG, kG, tG, hb⟩ := hcut
   obtain ⟨wG, hwG⟩ : ∃ x, x = wc := ⟨_, rfl⟩
   subst hwG
   have GG := hide hgG
   have NG : Hid (n6 ≤ 16777216 ∧ fn6 ≤ 16777216 ∧ rn6 ≤ 16777216 ∧ on6 ≤ 16777216) := hide (by
    have e1 := tG.row.ports.size
    have e2 := tG.row.f.size
    have e3 := tG.row.v.rows.size
    have e4 := tG.row.v.own.size
    have d1 := h0.ports.size
    have d2 := h0.f.size
    have d3 := h0.v.rows.size
    have d4 := h0.v.own.size
    have l1 := HLE.out.1
    have l2 := HLE.out.2.1
    have l3 := HLE.out.2.2
    rw [l3] at e3 e4
    omega)
   have tX := tX.below hb
   have kX := kept_block kX hb
   have xb : wX.heap.size ≤ wG.heap.size := hb.size
   have pS := gr_trans pS hb
   clear hb hgG
   obtain ⟨z0, z1, z2, z3, z4, z5, z6, z7, z8, z9, z10⟩ := cells11 kG
   obtain ⟨s0, s1, s2, s3, s4, s5, s6, s7, s8, s9, s10⟩ := cells11 (kept_block kS pS)
   go_wp2_with fail
   refine (eqBridge_same _ _ _ _ _ _ _ _ _ _ _ _ _ _ _ _ _ _ _ _ _ _ _ _ V _ tG.row (tS.below pS).row).mono ?_
   rintro e w8 ⟨rfl, hb⟩
   have pS := gr_trans pS hb
   have xb := Nat.le_trans xb hb.size
   have tX := tX.below hb
   have kX := kept_block kX hb
   have tG := tG.below hb
   have kG := kept_block kG hb
   clear hb z0 z1 z2 z3 z4 z5 z6 z7 z8 z9 z10 s0 s1 s2 s3 s4 s5 s6 s7 s8 s9 s10
   have vv : Below w8.heap.size w8 w8.drew := gr_drew (Below.refl _ _)
   go_wp2_with fail
   refine wp_region_held_drew (S := (fun W => (W.cell? ⟨w.heap.size, 0, none⟩ = some (.int .i64 B0.id) ∧ W.cell? ⟨w.heap.size, 1, none⟩ = some (.string B0.name) ∧ W.cell? ⟨w.heap.size, 2, none⟩ = some (.slice a0 n0 c0) ∧ W.cell? ⟨w.heap.size, 3, none⟩ = some (.slice fa0 fn0 fc0) ∧ W.cell? ⟨w.heap.size, 4, none⟩ = some (.slice ra0 rn0 rc0) ∧ W.cell? ⟨w.heap.size, 5, none⟩ = some (.slice oa0 on0 oc0) ∧ W.cell? ⟨w.heap.size, 6, none⟩ = some (.int .i64 B0.ticks) ∧ W.cell? ⟨w.heap.size, 7, none⟩ = some (.int .i64 B0.parse) ∧ W.cell? ⟨w.heap.size, 8, none⟩ = some (.int .i64 B0.word) ∧ W.cell? ⟨w.heap.size, 9, none⟩ = some (.int .i64 B0.drops) ∧ W.cell? ⟨w.heap.size, 10, none⟩ = some (.int .i64 B0.vers)) ∧ (W.cell? ⟨w4.heap.size, 0, none⟩ = some (.int .i64 B0.id) ∧ W.cell? ⟨w4.heap.size, 1, none⟩ = some (.string B0.name) ∧ W.cell? ⟨w4.heap.size, 2, none⟩ = some (.slice a4 n0 c4) ∧ W.cell? ⟨w4.heap.size, 3, none⟩ = some (.slice fa4 fn0 fc4) ∧ W.cell? ⟨w4.heap.size, 4, none⟩ = some (.slice ra4 rn0 rc4) ∧ W.cell? ⟨w4.heap.size, 5, none⟩ = some (.slice oa4 on0 oc4) ∧ W.cell? ⟨w4.heap.size, 6, none⟩ = some (.int .i64 B0.ticks) ∧ W.cell? ⟨w4.heap.size, 7, none⟩ = some (.int .i64 B0.parse) ∧ W.cell? ⟨w4.heap.size, 8, none⟩ = some (.int .i64 B0.word) ∧ W.cell? ⟨w4.heap.size, 9, none⟩ = some (.int .i64 B0.drops) ∧ W.cell? ⟨w4.heap.size, 10, none⟩ = some (.int .i64 B0.vers)))) (by kernel_rfl) (⟨cells11 (kept_block kA (gr_trans pS vv)), cells11 (kept_block kX vv)⟩) (fun hHeld => ?_)
   refine wpAnyH_take (i := 0) (oi := ⟨some 37, .load 31 (.tmp 9), 31, "exact.go:4008", #[], none⟩) (v := ?_) rfl (by kernel_rfl) (by kernel_rfl) (by kernel_rfl) (fun _ _ _ h => h) (Or.inl ⟨by rfl, ?_⟩) (by assumption) ?_
   rotate_left
   ·(intro wY hSw; (try dsimp only at hSw); go_simp; try with_reducible rfl)
   simp only [Act.put, lA, lB, lC]
   refine wpAnyH_take (i := 1) (oi := ⟨some 38, .load 66 (.tmp 3), 66, "exact.go:4008", #[], none⟩) (v := ?_) rfl (by kernel_rfl) (by kernel_rfl) (by kernel_rfl) (fun _ _ _ h => h) (Or.inl ⟨by rfl, ?_⟩) (by assumption) ?_
   rotate_left
   ·(intro wY hSw; (try dsimp only at hSw); go_simp; try with_reducible rfl)
   simp only [Act.put, lA, lB, lC]
   refine wpAnyH_ready (rs := [2]) (by kernel_rfl) (by simp) ?_
   refine AllReadyH.cons (o := ⟨some 39, .call ⟨.value (.func 32), #[.tmp 38], #[66]⟩, 31, "exact.go:4008", #[⟨1, .data⟩], none⟩) rfl (fun K hK => ?_) ?_
   ·go_simp
    refine (toBridge_made a0 n0 c0 fa0 fn0 fc0 ra0 rn0 rc0 oa0 on0 oc0 B0 _ (h0.below (gr_trans uS (gr_trans pS vv))) gn gf gr go).mono ?_
    rintro e wt ⟨a7, c7, fa7, fc7, ra7, rc7, oa7, oc7, rfl, t7, hb7⟩
    have vv := gr_trans vv hb7
    go_wp2_with fail
    refine hK.out _ _ (⟨cells11 (kept_block kA (gr_trans pS vv)), cells11 (kept_block kX vv)⟩) (fun hHeld => ?_)
    clear hK K
    try simp only [Act.put, lA, lB, lC]
    refine wpAnyH_ready (rs := [3]) (by kernel_rfl) (by simp) ?_
    refine AllReadyH.cons (o := ⟨some 40, .call ⟨.value (.func 34), #[.tmp 37, .tmp 39], #[31, 31]⟩, 4, "exact.go:4008", #[⟨0, .data⟩, ⟨2, .data⟩, ⟨2, .chain⟩], none⟩) rfl (fun K hK => ?_) ?_
    ·go_simp
     refine (eqBridge_same _ _ _ _ _ _ _ _ _ _ _ _ _ _ _ _ _ _ _ _ _ _ _ _ B0 _ (tX.below vv).row t7.row).mono ?_
     rintro e wt ⟨rfl, hb8⟩
     have vv := gr_trans vv hb8
     clear t7
     go_wp2_with fail
     refine hK.out _ _ (⟨cells11 (kept_block kA (gr_trans pS vv)), cells11 (kept_block kX vv)⟩) (fun hHeld => ?_)
     clear hK K
     try simp only [Act.put, lA, lB, lC]
     refine wpAnyH_take (i := 4) (oi := ⟨some 41, .unOp .not 4 (.tmp 40), 4, "exact.go:4008", #[⟨3, .data⟩], none⟩) (v := ?_) rfl (by kernel_rfl) (by kernel_rfl) (by kernel_rfl) (fun _ _ _ h => h) (Or.inl ⟨by rfl, ?_⟩) (by assumption) ?_
     rotate_left
     ·(intro wY hSw; (try dsimp only at hSw); go_simp; try with_reducible rfl)
     simp only [Act.put, lA, lB, lC]
     refine wpAnyH_done (by kernel_rfl) ?_ _
     have pS := gr_trans pS vv
     have xb := Nat.le_trans xb vv.size
     have tX := tX.below vv
     have kX := kept_block kX vv
     have tG := tG.below vv
     have kG := kept_block kG vv
     clear hHeld vv
     obtain ⟨y0, y1, y2, y3, y4, y5, y6, y7, y8, y9, y10⟩ := cells11 kX
     go_wp2_with fail
     refine (markBridge_from 1 (by omega) (by omega) _ w4.heap.size _ _ _ _ _ _ _ _ _ _ _ _ B0 _ tX pS.size EX.out (by omega) (by omega) (by omega) (by omega)).mono ?_
     rintro e w9 ⟨rfl, -, bt⟩
     have pS := pS.trans bt.below
     have xb := Nat.le_trans xb bt.below.size
     have tG := tG.between bt GX.out
     have kG : w9.heap[gG]? = _ := (bt.block _ (Array.getElem?_eq_some_iff.1 kG).1 (Nat.le_trans GX.out GG.out)).trans kG
     clear tX bt y0 y1 y2 y3 y4 y5 y6 y7 y8 y9 y10 kX
     have hk0 : ¬ ((1 : Int) + 8 * (n0 : Int) + 5 * (fn0 : Int) + 3 * (rn0 : Int) + (on0 : Int) < 0) := by omega
     obtain ⟨s0, s1, s2, s3, s4, s5, s6, s7, s8, s9, s10⟩ := cells11 (kept_block kS pS)
     obtain ⟨z0, z1, z2, z3, z4, z5, z6, z7, z8, z9, z10⟩ := cells11 kG
     go_wp2_with fail
     refine (eqBridge_same _ _ _ _ _ _ _ _ _ _ _ _ _ _ _ _ _ _ _ _ _ _ _ _ V _ tG.row (tS.below pS).row).mono ?_
     rintro e w10 ⟨rfl, hb⟩
     have pS := gr_trans pS hb
     have xb := Nat.le_trans xb hb.size
     have tG := tG.below hb
     have kG := kept_block kG hb
     clear hb s0 s1 s2 s3 s4 s5 s6 s7 s8 s9 s10 z0 z1 z2 z3 z4 z5 z6 z7 z8 z9 z10
     obtain ⟨z0, z1, z2, z3, z4, z5, z6, z7, z8, z9, z10⟩ := cells11 kG
     go_wp2_with fail
     refine (markBridge_box 1 (by omega) (by omega) _ w10.heap.size _ _ _ _ _ _ _ _ _ _ _ _ V _ tG xb tG.under NG.out.1 NG.out.2.1 NG.out.2.2.1 NG.out.2.2.2).mono ?_
     rintro e w11 ⟨rfl, tM, bt, hbox⟩
     have pS := pS.trans (bt.below.mono SG.out)
     have kG := hbox _ _ kG
     clear tG bt z0 z1 z2 z3 z4 z5 z6 z7 z8 z9 z10 hbox
     obtain ⟨z0, z1, z2, z3, z4, z5, z6, z7, z8, z9, z10⟩ := cells11 kG
     go_wp2_with fail
     refine (heldBridge_from 1 (by omega) (by omega) _ _ _ _ _ _ _ _ _ _ _ _ V _ tM.row NG.out.1 NG.out.2.1 NG.out.2.2.1 NG.out.2.2.2).mono ?_
     rintro e w12 ⟨rfl, hb⟩
     have pS := gr_trans pS hb
     have tM := tM.below hb
     have kG := kept_block kG hb
     clear hb z0 z1 z2 z3 z4 z5 z6 z7 z8 z9 z10
     have m0 : ¬ ((1 : Int) + 8 * (n6 : Int) + 5 * (fn6 : Int) + 3 * (rn6 : Int) + (on6 : Int) < 0) := by omega
     have uB : Below w.heap.size w w12 := gr_trans uS pS
     have kA := kept_block kA pS
     have kV := kept_block kV pS
     go_upto_region 24 with fail
     go_cut [14] from 15 to 81 (fun s wx => ∃ (g : Nat) (a3 : Option Addr) (n3 c3 : Nat) (fa3 : Option Addr) (fn3 fc3 : Nat) (ra3 : Option Addr) (rn3 rc3 : Nat) (oa3 : Option Addr) (on3 oc3 : Nat), s = .pointer (some ⟨g, 0, none⟩) ∧ w12.heap.size ≤ g ∧ wx.heap[g]? = some (.cells #[.int .i64 V.id, .string V.name, .slice a3 n3 c3, .slice fa3 fn3 fc3, .slice ra3 rn3 rc3, .slice oa3 on3 oc3, .int .i64 V.ticks, .int .i64 V.parse, .int .i64 V.word, .int .i64 V.drops, .int .i64 V.vers] 31) ∧ BrOwn wx w12.heap.size a3 n3 c3 fa3 fn3 fc3 ra3 rn3 rc3 oa3 on3 oc3 V ∧ Below w12.heap.size w12 wx)
     case first =>
      have vv : Below w12.heap.size w12 w12.drew := gr_drew (Below.refl _ _)
      go_wp2_with fail
      refine wp_region_held_drew (S := (fun W => (W.cell? ⟨w.heap.size, 0, none⟩ = some (.int .i64 B0.id) ∧ W.cell? ⟨w.heap.size, 1, none⟩ = some (.string B0.name) ∧ W.cell? ⟨w.heap.size, 2, none⟩ = some (.slice a0 n0 c0) ∧ W.cell? ⟨w.heap.size, 3, none⟩ = some (.slice fa0 fn0 fc0) ∧ W.cell? ⟨w.heap.size, 4, none⟩ = some (.slice ra0 rn0 rc0) ∧ W.cell? ⟨w.heap.size, 5, none⟩ = some (.slice oa0 on0 oc0) ∧ W.cell? ⟨w.heap.size, 6, none⟩ = some (.int .i64 B0.ticks) ∧ W.cell? ⟨w.heap.size, 7, none⟩ = some (.int .i64 B0.parse) ∧ W.cell? ⟨w.heap.size, 8, none⟩ = some (.int .i64 B0.word) ∧ W.cell? ⟨w.heap.size, 9, none⟩ = some (.int .i64 B0.drops) ∧ W.cell? ⟨w.heap.size, 10, none⟩ = some (.int .i64 B0.vers)) ∧ (W.cell? ⟨wA.heap.size, 0, none⟩ = some (.int .i64 R) ∧ W.cell? ⟨wA.heap.size, 1, none⟩ = some (.int .i64 C) ∧ W.cell? ⟨wA.heap.size, 2, none⟩ = some (.int .i64 H) ∧ W.cell? ⟨wA.heap.size, 3, none⟩ = some (.int .i64 Bq) ∧ W.cell? ⟨wA.heap.size, 4, none⟩ = some (.int .i64 Pq)))) (by kernel_rfl) (⟨cells11 (kept_block kA vv), (cells5 (kept_block kV vv)).1⟩) (fun hHeld => ?_)
      refine wpAnyH_take (i := 0) (oi := ⟨some 64, .load 66 (.tmp 3), 66, "exact.go:4026", #[], none⟩) (v := ?_) rfl (by kernel_rfl) (by kernel_rfl) (by kernel_rfl) (fun _ _ _ h => h) (Or.inl ⟨by rfl, ?_⟩) (by assumption) ?_
      rotate_left
      ·(intro wY hSw; (try dsimp only at hSw); go_simp; try with_reducible rfl)
      simp only [Act.put, lA, lB, lC]
      refine wpAnyH_take (i := 2) (oi := ⟨some 66, .move (.tmp 1), 3, "exact.go:4026", #[], none⟩) (v := ?_) rfl (by kernel_rfl) (by kernel_rfl) (by kernel_rfl) (fun _ _ _ h => h) (Or.inl ⟨by rfl, ?_⟩) (by assumption) ?_
      rotate_left
      ·(intro wY hSw; (try dsimp only at hSw); go_simp; try with_reducible rfl)
      simp only [Act.put, lA, lB, lC]
      refine wpAnyH_take (i := 3) (oi := ⟨some 67, .load 67 (.tmp 5), 67, "exact.go:4026", #[], none⟩) (v := ?_) rfl (by kernel_rfl) (by kernel_rfl) (by kernel_rfl) (fun _ _ _ h => h) (Or.inl ⟨by rfl, ?_⟩) (by assumption) ?_
      rotate_left
      ·(intro wY hSw; (try dsimp only at hSw); go_simp; try with_reducible rfl)
      simp only [Act.put, lA, lB, lC]
      refine wpAnyH_ready (rs := [1, 6]) (by kernel_rfl) (by simp) ?_
      refine AllReadyH.cons (o := ⟨some 65, .call ⟨.value (.func 32), #[.tmp 64], #[66]⟩, 31, "exact.go:4026", #[⟨0, .data⟩], none⟩) rfl (fun K hK => ?_) ?_
      ·go_simp
       refine (toBridge_made a0 n0 c0 fa0 fn0 fc0 ra0 rn0 rc0 oa0 on0 oc0 B0 _ (h0.below (gr_trans uB vv)) gn gf gr go).mono ?_
       rintro e wx ⟨a2, c2, fa2, fc2, ra2, rc2, oa2, oc2, rfl, t2, hbx⟩
       try have kB := kept_block kB hbx
       have vv := gr_trans vv hbx
       clear hbx
       go_wp2_with fail
       refine hK.out _ _ (⟨cells11 (kept_block kA vv), (cells5 (kept_block kV vv)).1⟩) (fun hHeld => ?_)
       clear hK K
       try simp only [Act.put, lA, lB, lC]
       refine wpAnyH_ready (rs := [4, 6]) (by kernel_rfl) (by simp) ?_
       refine AllReadyH.cons (o := ⟨some 68, .call ⟨.value (.func 33), #[.tmp 67], #[67]⟩, 35, "exact.go:4026", #[⟨3, .data⟩, ⟨1, .chain⟩], none⟩) rfl (fun K hK => ?_) ?_
       ·go_simp
        refine (toVec_made R C H Bq Pq _).mono ?_
        rintro e wx ⟨rfl, hbx⟩
        try have t2 := t2.below hbx
        try have kB := kept_block kB hbx
        have vv := gr_trans vv hbx
        clear hbx
        go_wp2_with fail
        refine hK.out _ _ (⟨cells11 (kept_block kA vv), (cells5 (kept_block kV vv)).1⟩) (fun hHeld => ?_)
        clear hK K
        try simp only [Act.put, lA, lB, lC]
        refine wpAnyH_ready (rs := [5, 6]) (by kernel_rfl) (by simp) ?_
        refine AllReadyH.cons (o := ⟨some 69, .call ⟨.value (.func 10), #[.tmp 65, .tmp 66, .tmp 68], #[31, 3, 35]⟩, 31, "exact.go:4026", #[⟨1, .data⟩, ⟨2, .data⟩, ⟨4, .data⟩, ⟨4, .chain⟩], none⟩) rfl (fun K hK => ?_) ?_
        ·go_simp
         refine (implHear_made _ _ _ _ _ _ _ _ _ _ _ _ B0 port ⟨R, C, H, Bq, Pq⟩ _ t2.row (by omega) (by omega) (by omega) (by omega) g0.f g0.v).mono ?_
         rw [HV.out]
         rintro e wx ⟨a3, n3, c3, fa3, fn3, fc3, ra3, rn3, rc3, oa3, on3, oc3, rfl, t3, hbx⟩
         have t3 := t3.lt (base' := w12.heap.size) vv.size
         try have kB := kept_block kB hbx
         have vv := gr_trans vv hbx
         clear hbx
         go_wp2_with fail
         refine hK.out _ _ (⟨cells11 (kept_block kA vv), (cells5 (kept_block kV vv)).1⟩) (fun hHeld => ?_)
         clear hK K
         try simp only [Act.put, lA, lB, lC]
         refine wpAnyH_ready (rs := [6]) (by kernel_rfl) (by simp) ?_
         refine AllReadyH.cons (o := ⟨some 14, .alloc 31, 0, "exact.go:4026", #[], none⟩) rfl (fun K hK => ?_) ?_
         ·go_simp
          first
          | refine made_new (K := K _) (fun wx kB hbx => ?_)
          | refine made_drew (K := K _) (fun wx kB hbx => ?_)
          have gB := vv.size
          try have t2 := t2.below hbx
          try have t3 := t3.below hbx
          have vv := gr_trans vv hbx
          clear hbx
          refine hK.out _ _ (⟨cells11 (kept_block kA vv), (cells5 (kept_block kV vv)).1⟩) (fun hHeld => ?_)
          clear hK K
          try simp only [Act.put, lA, lB, lC]
          refine wpAnyH_ready (rs := [7]) (by kernel_rfl) (by simp) ?_
          refine AllReadyH.cons (o := ⟨none, .store 31 (.tmp 14) (.tmp 69), 0, "exact.go:4026", #[⟨6, .data⟩, ⟨5, .data⟩, ⟨5, .chain⟩, ⟨0, .phase⟩, ⟨1, .phase⟩, ⟨2, .phase⟩, ⟨3, .phase⟩, ⟨4, .phase⟩, ⟨5, .phase⟩, ⟨6, .phase⟩], none⟩) rfl (fun K hK => ?_) ?_
          ·obtain ⟨b0, b1, b2, b3, b4, b5, b6, b7, b8, b9, b10⟩ := cells11 kB
           have fr := frozen8 kB
           have fr0 := fr 0
           have fr1 := fr 1
           have fr2 := fr 2
           have fr3 := fr 3
           have fr4 := fr 4
           have fr5 := fr 5
           have fr6 := fr 6
           have fr7 := fr 7
           have fr8 := fr 8
           have fr9 := fr 9
           have fr10 := fr 10
           go_simp
           clear b0 b1 b2 b3 b4 b5 b6 b7 b8 b9 b10 fr0 fr1 fr2 fr3 fr4 fr5 fr6 fr7 fr8 fr9 fr10 fr
           have vv := below_set11 vv gB (.int .i64 V.id) (.string V.name) (.slice a3 n3 c3) (.slice fa3 fn3 fc3) (.slice ra3 rn3 rc3) (.slice oa3 on3 oc3) (.int .i64 V.ticks) (.int .i64 V.parse) (.int .i64 V.word) (.int .i64 V.drops) (.int .i64 V.vers)
           have t3 := t3.boxed11 kB (.int .i64 V.id) (.string V.name) (.slice a3 n3 c3) (.slice fa3 fn3 fc3) (.slice ra3 rn3 rc3) (.slice oa3 on3 oc3) (.int .i64 V.ticks) (.int .i64 V.parse) (.int .i64 V.word) (.int .i64 V.drops) (.int .i64 V.vers)
           have kB := set_box11 kB (.int .i64 V.id) (.string V.name) (.slice a3 n3 c3) (.slice fa3 fn3 fc3) (.slice ra3 rn3 rc3) (.slice oa3 on3 oc3) (.int .i64 V.ticks) (.int .i64 V.parse) (.int .i64 V.word) (.int .i64 V.drops) (.int .i64 V.vers)
           refine hK.out _ _ (⟨cells11 (kept_block kA vv), (cells5 (kept_block kV vv)).1⟩) (fun hHeld => ?_)
           clear hK K
           try simp only [Act.put, lA, lB, lC]
           refine wpAnyH_done (by kernel_rfl) ?_ _
           clear hHeld
           go_wp2_with fail
           go_meet
           exact ⟨_, a3, n3, c3, fa3, fn3, fc3, ra3, rn3, rc3, oa3, on3, oc3, rfl, gB, kB, t3, vv⟩
          exact AllReadyH.nil
         exact AllReadyH.nil
        refine AllReadyH.cons (o := ⟨some 14, .alloc 31, 0, "exact.go:4026", #[], none⟩) rfl (fun K hK => ?_) ?_
        ·go_simp
         first
         | refine made_new (K := K _) (fun wx kB hbx => ?_)
         | refine made_drew (K := K _) (fun wx kB hbx => ?_)
         have gB := vv.size
         try have t2 := t2.below hbx
         try have t3 := t3.below hbx
         have vv := gr_trans vv hbx
         clear hbx
         refine hK.out _ _ (⟨cells11 (kept_block kA vv), (cells5 (kept_block kV vv)).1⟩) (fun hHeld => ?_)
         clear hK K
         try simp only [Act.put, lA, lB, lC]
         refine wpAnyH_ready (rs := [5]) (by kernel_rfl) (by simp) ?_
         refine AllReadyH.cons (o := ⟨some 69, .call ⟨.value (.func 10), #[.tmp 65, .tmp 66, .tmp 68], #[31, 3, 35]⟩, 31, "exact.go:4026", #[⟨1, .data⟩, ⟨2, .data⟩, ⟨4, .data⟩, ⟨4, .chain⟩], none⟩) rfl (fun K hK => ?_) ?_
         ·go_simp
          refine (implHear_made _ _ _ _ _ _ _ _ _ _ _ _ B0 port ⟨R, C, H, Bq, Pq⟩ _ t2.row (by omega) (by omega) (by omega) (by omega) g0.f g0.v).mono ?_
          rw [HV.out]
          rintro e wx ⟨a3, n3, c3, fa3, fn3, fc3, ra3, rn3, rc3, oa3, on3, oc3, rfl, t3, hbx⟩
          have t3 := t3.lt (base' := w12.heap.size) vv.size
          try have kB := kept_block kB hbx
          have vv := gr_trans vv hbx
          clear hbx
          go_wp2_with fail
          refine hK.out _ _ (⟨cells11 (kept_block kA vv), (cells5 (kept_block kV vv)).1⟩) (fun hHeld => ?_)
          clear hK K
          try simp only [Act.put, lA, lB, lC]
          refine wpAnyH_ready (rs := [7]) (by kernel_rfl) (by simp) ?_
          refine AllReadyH.cons (o := ⟨none, .store 31 (.tmp 14) (.tmp 69), 0, "exact.go:4026", #[⟨6, .data⟩, ⟨5, .data⟩, ⟨5, .chain⟩, ⟨0, .phase⟩, ⟨1, .phase⟩, ⟨2, .phase⟩, ⟨3, .phase⟩, ⟨4, .phase⟩, ⟨5, .phase⟩, ⟨6, .phase⟩], none⟩) rfl (fun K hK => ?_) ?_
          ·obtain ⟨b0, b1, b2, b3, b4, b5, b6, b7, b8, b9, b10⟩ := cells11 kB
           have fr := frozen8 kB
           have fr0 := fr 0
           have fr1 := fr 1
           have fr2 := fr 2
           have fr3 := fr 3
           have fr4 := fr 4
           have fr5 := fr 5
           have fr6 := fr 6
           have fr7 := fr 7
           have fr8 := fr 8
           have fr9 := fr 9
           have fr10 := fr 10
           go_simp
           clear b0 b1 b2 b3 b4 b5 b6 b7 b8 b9 b10 fr0 fr1 fr2 fr3 fr4 fr5 fr6 fr7 fr8 fr9 fr10 fr
           have vv := below_set11 vv gB (.int .i64 V.id) (.string V.name) (.slice a3 n3 c3) (.slice fa3 fn3 fc3) (.slice ra3 rn3 rc3) (.slice oa3 on3 oc3) (.int .i64 V.ticks) (.int .i64 V.parse) (.int .i64 V.word) (.int .i64 V.drops) (.int .i64 V.vers)
           have t3 := t3.boxed11 kB (.int .i64 V.id) (.string V.name) (.slice a3 n3 c3) (.slice fa3 fn3 fc3) (.slice ra3 rn3 rc3) (.slice oa3 on3 oc3) (.int .i64 V.ticks) (.int .i64 V.parse) (.int .i64 V.word) (.int .i64 V.drops) (.int .i64 V.vers)
           have kB := set_box11 kB (.int .i64 V.id) (.string V.name) (.slice a3 n3 c3) (.slice fa3 fn3 fc3) (.slice ra3 rn3 rc3) (.slice oa3 on3 oc3) (.int .i64 V.ticks) (.int .i64 V.parse) (.int .i64 V.word) (.int .i64 V.drops) (.int .i64 V.vers)
           refine hK.out _ _ (⟨cells11 (kept_block kA vv), (cells5 (kept_block kV vv)).1⟩) (fun hHeld => ?_)
           clear hK K
           try simp only [Act.put, lA, lB, lC]
           refine wpAnyH_done (by kernel_rfl) ?_ _
           clear hHeld
           go_wp2_with fail
           go_meet
           exact ⟨_, a3, n3, c3, fa3, fn3, fc3, ra3, rn3, rc3, oa3, on3, oc3, rfl, gB, kB, t3, vv⟩
          exact AllReadyH.nil
         exact AllReadyH.nil
        exact AllReadyH.nil
       refine AllReadyH.cons (o := ⟨some 14, .alloc 31, 0, "exact.go:4026", #[], none⟩) rfl (fun K hK => ?_) ?_
       ·go_simp
        first
        | refine made_new (K := K _) (fun wx kB hbx => ?_)
        | refine made_drew (K := K _) (fun wx kB hbx => ?_)
        have gB := vv.size
        try have t2 := t2.below hbx
        try have t3 := t3.below hbx
        have vv := gr_trans vv hbx
        clear hbx
        refine hK.out _ _ (⟨cells11 (kept_block kA vv), (cells5 (kept_block kV vv)).1⟩) (fun hHeld => ?_)
        clear hK K
        try simp only [Act.put, lA, lB, lC]
        refine wpAnyH_ready (rs := [4]) (by kernel_rfl) (by simp) ?_
        refine AllReadyH.cons (o := ⟨some 68, .call ⟨.value (.func 33), #[.tmp 67], #[67]⟩, 35, "exact.go:4026", #[⟨3, .data⟩, ⟨1, .chain⟩], none⟩) rfl (fun K hK => ?_) ?_
        ·go_simp
         refine (toVec_made R C H Bq Pq _).mono ?_
         rintro e wx ⟨rfl, hbx⟩
         try have t2 := t2.below hbx
         try have kB := kept_block kB hbx
         have vv := gr_trans vv hbx
         clear hbx
         go_wp2_with fail
         refine hK.out _ _ (⟨cells11 (kept_block kA vv), (cells5 (kept_block kV vv)).1⟩) (fun hHeld => ?_)
         clear hK K
         try simp only [Act.put, lA, lB, lC]
         refine wpAnyH_ready (rs := [5]) (by kernel_rfl) (by simp) ?_
         refine AllReadyH.cons (o := ⟨some 69, .call ⟨.value (.func 10), #[.tmp 65, .tmp 66, .tmp 68], #[31, 3, 35]⟩, 31, "exact.go:4026", #[⟨1, .data⟩, ⟨2, .data⟩, ⟨4, .data⟩, ⟨4, .chain⟩], none⟩) rfl (fun K hK => ?_) ?_
         ·go_simp
          refine (implHear_made _ _ _ _ _ _ _ _ _ _ _ _ B0 port ⟨R, C, H, Bq, Pq⟩ _ t2.row (by omega) (by omega) (by omega) (by omega) g0.f g0.v).mono ?_
          rw [HV.out]
          rintro e wx ⟨a3, n3, c3, fa3, fn3, fc3, ra3, rn3, rc3, oa3, on3, oc3, rfl, t3, hbx⟩
          have t3 := t3.lt (base' := w12.heap.size) vv.size
          try have kB := kept_block kB hbx
          have vv := gr_trans vv hbx
          clear hbx
          go_wp2_with fail
          refine hK.out _ _ (⟨cells11 (kept_block kA vv), (cells5 (kept_block kV vv)).1⟩) (fun hHeld => ?_)
          clear hK K
          try simp only [Act.put, lA, lB, lC]
          refine wpAnyH_ready (rs := [7]) (by kernel_rfl) (by simp) ?_
          refine AllReadyH.cons (o := ⟨none, .store 31 (.tmp 14) (.tmp 69), 0, "exact.go:4026", #[⟨6, .data⟩, ⟨5, .data⟩, ⟨5, .chain⟩, ⟨0, .phase⟩, ⟨1, .phase⟩, ⟨2, .phase⟩, ⟨3, .phase⟩, ⟨4, .phase⟩, ⟨5, .phase⟩, ⟨6, .phase⟩], none⟩) rfl (fun K hK => ?_) ?_
          ·obtain ⟨b0, b1, b2, b3, b4, b5, b6, b7, b8, b9, b10⟩ := cells11 kB
           have fr := frozen8 kB
           have fr0 := fr 0
           have fr1 := fr 1
           have fr2 := fr 2
           have fr3 := fr 3
           have fr4 := fr 4
           have fr5 := fr 5
           have fr6 := fr 6
           have fr7 := fr 7
           have fr8 := fr 8
           have fr9 := fr 9
           have fr10 := fr 10
           go_simp
           clear b0 b1 b2 b3 b4 b5 b6 b7 b8 b9 b10 fr0 fr1 fr2 fr3 fr4 fr5 fr6 fr7 fr8 fr9 fr10 fr
           have vv := below_set11 vv gB (.int .i64 V.id) (.string V.name) (.slice a3 n3 c3) (.slice fa3 fn3 fc3) (.slice ra3 rn3 rc3) (.slice oa3 on3 oc3) (.int .i64 V.ticks) (.int .i64 V.parse) (.int .i64 V.word) (.int .i64 V.drops) (.int .i64 V.vers)
           have t3 := t3.boxed11 kB (.int .i64 V.id) (.string V.name) (.slice a3 n3 c3) (.slice fa3 fn3 fc3) (.slice ra3 rn3 rc3) (.slice oa3 on3 oc3) (.int .i64 V.ticks) (.int .i64 V.parse) (.int .i64 V.word) (.int .i64 V.drops) (.int .i64 V.vers)
           have kB := set_box11 kB (.int .i64 V.id) (.string V.name) (.slice a3 n3 c3) (.slice fa3 fn3 fc3) (.slice ra3 rn3 rc3) (.slice oa3 on3 oc3) (.int .i64 V.ticks) (.int .i64 V.parse) (.int .i64 V.word) (.int .i64 V.drops) (.int .i64 V.vers)
           refine hK.out _ _ (⟨cells11 (kept_block kA vv), (cells5 (kept_block kV vv)).1⟩) (fun hHeld => ?_)
           clear hK K
           try simp only [Act.put, lA, lB, lC]
           refine wpAnyH_done (by kernel_rfl) ?_ _
           clear hHeld
           go_wp2_with fail
           go_meet
           exact ⟨_, a3, n3, c3, fa3, fn3, fc3, ra3, rn3, rc3, oa3, on3, oc3, rfl, gB, kB, t3, vv⟩
          exact AllReadyH.nil
         exact AllReadyH.nil
        exact AllReadyH.nil
       exact AllReadyH.nil
      refine AllReadyH.cons (o := ⟨some 14, .alloc 31, 0, "exact.go:4026", #[], none⟩) rfl (fun K hK => ?_) ?_
      ·go_simp
       first
       | refine made_new (K := K _) (fun wx kB hbx => ?_)
       | refine made_drew (K := K _) (fun wx kB hbx => ?_)
       have gB := vv.size
       try have t2 := t2.below hbx
       try have t3 := t3.below hbx
       have vv := gr_trans vv hbx
       clear hbx
       refine hK.out _ _ (⟨cells11 (kept_block kA vv), (cells5 (kept_block kV vv)).1⟩) (fun hHeld => ?_)
       clear hK K
       try simp only [Act.put, lA, lB, lC]
       refine wpAnyH_ready (rs := [1]) (by kernel_rfl) (by simp) ?_
       refine AllReadyH.cons (o := ⟨some 65, .call ⟨.value (.func 32), #[.tmp 64], #[66]⟩, 31, "exact.go:4026", #[⟨0, .data⟩], none⟩) rfl (fun K hK => ?_) ?_
       ·go_simp
        refine (toBridge_made a0 n0 c0 fa0 fn0 fc0 ra0 rn0 rc0 oa0 on0 oc0 B0 _ (h0.below (gr_trans uB vv)) gn gf gr go).mono ?_
        rintro e wx ⟨a2, c2, fa2, fc2, ra2, rc2, oa2, oc2, rfl, t2, hbx⟩
        try have kB := kept_block kB hbx
        have vv := gr_trans vv hbx
        clear hbx
        go_wp2_with fail
        refine hK.out _ _ (⟨cells11 (kept_block kA vv), (cells5 (kept_block kV vv)).1⟩) (fun hHeld => ?_)
        clear hK K
        try simp only [Act.put, lA, lB, lC]
        refine wpAnyH_ready (rs := [4]) (by kernel_rfl) (by simp) ?_
        refine AllReadyH.cons (o := ⟨some 68, .call ⟨.value (.func 33), #[.tmp 67], #[67]⟩, 35, "exact.go:4026", #[⟨3, .data⟩, ⟨1, .chain⟩], none⟩) rfl (fun K hK => ?_) ?_
        ·go_simp
         refine (toVec_made R C H Bq Pq _).mono ?_
         rintro e wx ⟨rfl, hbx⟩
         try have t2 := t2.below hbx
         try have kB := kept_block kB hbx
         have vv := gr_trans vv hbx
         clear hbx
         go_wp2_with fail
         refine hK.out _ _ (⟨cells11 (kept_block kA vv), (cells5 (kept_block kV vv)).1⟩) (fun hHeld => ?_)
         clear hK K
         try simp only [Act.put, lA, lB, lC]
         refine wpAnyH_ready (rs := [5]) (by kernel_rfl) (by simp) ?_
         refine AllReadyH.cons (o := ⟨some 69, .call ⟨.value (.func 10), #[.tmp 65, .tmp 66, .tmp 68], #[31, 3, 35]⟩, 31, "exact.go:4026", #[⟨1, .data⟩, ⟨2, .data⟩, ⟨4, .data⟩, ⟨4, .chain⟩], none⟩) rfl (fun K hK => ?_) ?_
         ·go_simp
          refine (implHear_made _ _ _ _ _ _ _ _ _ _ _ _ B0 port ⟨R, C, H, Bq, Pq⟩ _ t2.row (by omega) (by omega) (by omega) (by omega) g0.f g0.v).mono ?_
          rw [HV.out]
          rintro e wx ⟨a3, n3, c3, fa3, fn3, fc3, ra3, rn3, rc3, oa3, on3, oc3, rfl, t3, hbx⟩
          have t3 := t3.lt (base' := w12.heap.size) vv.size
          try have kB := kept_block kB hbx
          have vv := gr_trans vv hbx
          clear hbx
          go_wp2_with fail
          refine hK.out _ _ (⟨cells11 (kept_block kA vv), (cells5 (kept_block kV vv)).1⟩) (fun hHeld => ?_)
          clear hK K
          try simp only [Act.put, lA, lB, lC]
          refine wpAnyH_ready (rs := [7]) (by kernel_rfl) (by simp) ?_
          refine AllReadyH.cons (o := ⟨none, .store 31 (.tmp 14) (.tmp 69), 0, "exact.go:4026", #[⟨6, .data⟩, ⟨5, .data⟩, ⟨5, .chain⟩, ⟨0, .phase⟩, ⟨1, .phase⟩, ⟨2, .phase⟩, ⟨3, .phase⟩, ⟨4, .phase⟩, ⟨5, .phase⟩, ⟨6, .phase⟩], none⟩) rfl (fun K hK => ?_) ?_
          ·obtain ⟨b0, b1, b2, b3, b4, b5, b6, b7, b8, b9, b10⟩ := cells11 kB
           have fr := frozen8 kB
           have fr0 := fr 0
           have fr1 := fr 1
           have fr2 := fr 2
           have fr3 := fr 3
           have fr4 := fr 4
           have fr5 := fr 5
           have fr6 := fr 6
           have fr7 := fr 7
           have fr8 := fr 8
           have fr9 := fr 9
           have fr10 := fr 10
           go_simp
           clear b0 b1 b2 b3 b4 b5 b6 b7 b8 b9 b10 fr0 fr1 fr2 fr3 fr4 fr5 fr6 fr7 fr8 fr9 fr10 fr
           have vv := below_set11 vv gB (.int .i64 V.id) (.string V.name) (.slice a3 n3 c3) (.slice fa3 fn3 fc3) (.slice ra3 rn3 rc3) (.slice oa3 on3 oc3) (.int .i64 V.ticks) (.int .i64 V.parse) (.int .i64 V.word) (.int .i64 V.drops) (.int .i64 V.vers)
           have t3 := t3.boxed11 kB (.int .i64 V.id) (.string V.name) (.slice a3 n3 c3) (.slice fa3 fn3 fc3) (.slice ra3 rn3 rc3) (.slice oa3 on3 oc3) (.int .i64 V.ticks) (.int .i64 V.parse) (.int .i64 V.word) (.int .i64 V.drops) (.int .i64 V.vers)
           have kB := set_box11 kB (.int .i64 V.id) (.string V.name) (.slice a3 n3 c3) (.slice fa3 fn3 fc3) (.slice ra3 rn3 rc3) (.slice oa3 on3 oc3) (.int .i64 V.ticks) (.int .i64 V.parse) (.int .i64 V.word) (.int .i64 V.drops) (.int .i64 V.vers)
           refine hK.out _ _ (⟨cells11 (kept_block kA vv), (cells5 (kept_block kV vv)).1⟩) (fun hHeld => ?_)
           clear hK K
           try simp only [Act.put, lA, lB, lC]
           refine wpAnyH_done (by kernel_rfl) ?_ _
           clear hHeld
           go_wp2_with fail
           go_meet
           exact ⟨_, a3, n3, c3, fa3, fn3, fc3, ra3, rn3, rc3, oa3, on3, oc3, rfl, gB, kB, t3, vv⟩
          exact AllReadyH.nil
         exact AllReadyH.nil
        exact AllReadyH.nil
       exact AllReadyH.nil
      exact AllReadyH.nil
     case rest =>
      obtain ⟨gH, a3, n3, c3, fa3, fn3, fc3, ra3, rn3, rc3, oa3, on3, oc3, rfl, -, kH, tH, hb⟩ := hcut
      obtain ⟨wH, hwH⟩ : ∃ x, x = wc := ⟨_, rfl⟩
      subst hwH
      have pS := gr_trans pS hb
      have tM := tM.below hb
      have kG := kept_block kG hb
      clear hb
      obtain ⟨s0, s1, s2, s3, s4, s5, s6, s7, s8, s9, s10⟩ := cells11 (kept_block kS pS)
      obtain ⟨h0, h1, h2, h3, h4, h5, h6, h7, h8, h9, h10⟩ := cells11 kH
      go_wp2_with fail
      refine (eqBridge_same _ _ _ _ _ _ _ _ _ _ _ _ _ _ _ _ _ _ _ _ _ _ _ _ V _ tH.row (tS.below pS).row).mono ?_
      rintro e w15 ⟨rfl, hb⟩
      have pS := gr_trans pS hb
      have tM := tM.below hb
      have kG := kept_block kG hb
      clear hb tH s0 s1 s2 s3 s4 s5 s6 s7 s8 s9 s10 h0 h1 h2 h3 h4 h5 h6 h7 h8 h9 h10 kH
      obtain ⟨z0, z1, z2, z3, z4, z5, z6, z7, z8, z9, z10⟩ := cells11 kG
      go_wp2_with fail
      refine (heldBridge_from 1 (by omega) (by omega) _ _ _ _ _ _ _ _ _ _ _ _ V _ tM.row NG.out.1 NG.out.2.1 NG.out.2.2.1 NG.out.2.2.2).mono ?_
      rintro e w16 ⟨rfl, hb⟩
      have HB := hide (gr_trans uS (gr_trans pS hb))
      clear hb z0 z1 z2 z3 z4 z5 z6 z7 z8 z9 z10
      go_wp2
      go_ret
      exact ⟨rfl, HB.out⟩
    exact AllReadyH.nil
   exact AllReadyH.nil

theorem fnExactHearVec_own : ownKnob Tryz.prog.godebug = none := by kernel_rfl
theorem fnExactHearVec_laid : laidOutB Tryz.prog = true := by kernel_rfl

open Go.ChangeShapes Go.WideShapes Go.ChangeAt in
open Go.ChangeMaps (open_string shut_string) in
set_option maxRecDepth 100000 in
theorem fnExactHearVec_lifted (os : Os) (started : os.Started) (H : Type) (enc : TypeId × Value → H) :
  ReturnsInHanded {} Tryz.checked os 5 .any (Rows.fnExactHearVecSpec.pre6 enc Tryz.prog Tryz.f5 Rows.fnExactHearVecRow.domain false) (Rows.fnExactHearVecSpec.post enc Tryz.prog Tryz.f5 false true false false) := by
 refine returnsInHanded_of_change (C := Tryz.checked) fnExactHearVec_own started (by kernel_rfl) Tryz.func5
  (ChangeSpec.witness6 (enc := enc) (C := Tryz.checked) false ⟨#[], #[.agg #[.int .i64 0, .string ByteArray.empty, .slice none 0 0, .slice none 0 0, .slice none 0 0, .slice none 0 0, .int .i64 0, .int .i64 0, .int .i64 0, .int .i64 0, .int .i64 0], .int .i64 0, .agg #[.int .i64 0, .int .i64 0, .int .i64 0, .int .i64 0, .int .i64 0]], []⟩ 8 (by kernel_rfl) (by kernel_rfl) (by kernel_rfl) (by kernel_rfl)) ?_
 intro W base args ds gs before hval0 hW hcnd _
 have hval : ∀ (j : Nat) t v, Tryz.f5.params[j]? = some t → args[j]? = some v → Value.okWide Tryz.prog W .any base t v := hval0
 have hW' := hW
 obtain ⟨p, q, hA0, hV, rfl, hfz, hnd⟩ := hW
 have hA : DataW.TrodAll enc Tryz.prog W 0 (fun _ => true) true Tryz.f5.params.toList args.toList ds p := hA0
 rw [Tryz.params5] at hA hval
 obtain ⟨v0, vs0, d0, ds0, p0, q0, hargs, rfl, rfl, h0, r0⟩ := trodAll_cons hA
 obtain ⟨v1, vs1, d1, ds1, p1, q1, rfl, rfl, rfl, h1, r1⟩ := trodAll_cons r0
 obtain ⟨v2, vs2, d2, ds2, p2, q2, rfl, rfl, rfl, h2, r2⟩ := trodAll_cons r1
 obtain ⟨rfl, rfl, rfl⟩ := trodAll_nil r2
 obtain rfl : args = #[v0, v1, v2] := by cases args; simp_all
 obtain ⟨rfl, rfl⟩ := trodVars_none hV
 have k0 := h0
 have lt0 : ∀ x ∈ p0, x.block < W.heap.size := by obtain ⟨m, hm⟩ := k0; exact DataW.trod_lt m _ _ _ hm
 have bt : BrTypes Tryz.prog 66 9 60 167 67 61 169 64 62 200 27 3 4 _ _ _ _ _ _ _ _ _ _ _ _ _ _ _ _ _ _ _ _ _ _ _ _ _ _ _ _ _ := ⟨Tryz.underlying66, Tryz.underlying9, Tryz.underlying60, Tryz.underlying167, Tryz.underlying67, Tryz.underlying61, Tryz.underlying169, Tryz.underlying64, Tryz.underlying62, Tryz.underlying200, Tryz.underlying27, Tryz.underlying3, Tryz.underlying4, ⟨rfl, rfl⟩, ⟨rfl, rfl⟩, ⟨rfl, rfl⟩, ⟨rfl, rfl⟩, ⟨rfl, rfl⟩, ⟨rfl, rfl⟩, ⟨rfl, rfl⟩, ⟨rfl, rfl⟩, ⟨rfl, rfl⟩, ⟨rfl, rfl⟩, ⟨rfl, rfl⟩, ⟨rfl, rfl⟩, ⟨rfl, rfl⟩, ⟨rfl, rfl⟩, ⟨rfl, rfl⟩, ⟨rfl, rfl⟩, ⟨rfl, rfl⟩, ⟨rfl, rfl⟩, ⟨rfl, rfl⟩, ⟨rfl, rfl⟩, ⟨rfl, rfl⟩, ⟨rfl, rfl⟩, ⟨rfl, rfl⟩, ⟨rfl, rfl⟩, ⟨rfl, rfl⟩, ⟨rfl, rfl⟩, ⟨rfl, rfl⟩, ⟨rfl, rfl⟩, ⟨rfl, rfl⟩, (by kernel_rfl), (by kernel_rfl), (by kernel_rfl), (by kernel_rfl), (by kernel_rfl), (by kernel_rfl), (by kernel_rfl), (by kernel_rfl), (by kernel_rfl), (by kernel_rfl), (by kernel_rfl), (by kernel_rfl), (by kernel_rfl)⟩
 obtain ⟨a0, n0, c0, fa0, fn0, fc0, ra0, rn0, rc0, oa0, on0, oc0, B0, rfl, w0, g0⟩ := open_bridge bt (hval 0 66 v0 rfl rfl) h0
 obtain ⟨a1, rfl, rfl, rfl, w1⟩ := open_int Tryz.underlying3 (hval 1 3 v1 rfl rfl) h1
 have k2 := h2
 have lt2 : ∀ x ∈ p2, x.block < W.heap.size := by obtain ⟨m, hm⟩ := k2; exact DataW.trod_lt m _ _ _ hm
 obtain ⟨R2, C2, H2, B2, P2, rfl⟩ := open_vec Tryz.underlying67 Tryz.underlying3 ⟨rfl, rfl⟩ ⟨rfl, rfl⟩ ⟨rfl, rfl⟩ ⟨rfl, rfl⟩ ⟨rfl, rfl⟩ (by kernel_rfl) (by kernel_rfl) (hval 2 67 v2 rfl rfl) h2
 clear hA0 hval0
 refine (exactHearVec_walk a0 n0 c0 fa0 fn0 fc0 ra0 rn0 rc0 oa0 on0 oc0 B0 a1 R2 C2 H2 B2 P2 W w0 g0 w1).mono fun e W' ⟨he, bel⟩ => ?_
 subst he
 exact ⟨_, rfl, _, _, _, [], _, [], hW', trodAll_mk1 (shut_bool Tryz.underlying4 _), (trodAll_cons_mk (Below.trod fnExactHearVec_laid (by kernel_rfl) (of_decide_eq_true (by kernel_rfl)) k0 bel lt0) (trodAll_cons_mk (shut_int Tryz.underlying3 w1) (trodAll_cons_mk (Below.trod fnExactHearVec_laid (by kernel_rfl) (of_decide_eq_true (by kernel_rfl)) k2 bel lt2) trodAll_mk0))), rfl, bel.frame _, fun h => by cases h⟩

theorem fnExactHearVec_holds : Rows.FnExactHearVecSaid :=
 OpenClaim.holds_of_wide 5 Tryz.f5 rfl rfl rfl rfl rfl rfl rfl ⟨rfl, rfl, rfl, rfl, rfl⟩ rfl rfl rfl rfl rfl (by kernel_rfl) Tryz.func5 (by kernel_rfl)
  (of_decide_eq_true (by kernel_rfl)) (by unfold Func.isWrapper; first | (rw [if_pos (by decide +kernel)]; kernel_rfl) | (rw [if_neg (by decide +kernel)]; exact ⟨rfl, rfl⟩))
  (fun os started H enc _ => fnExactHearVec_lifted os started H enc)

#print axioms fnExactHearVec_holds

end Go.Proofs.YtfefhilolhdonaaGreat
