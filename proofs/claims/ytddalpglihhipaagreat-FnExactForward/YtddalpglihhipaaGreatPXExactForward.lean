/-
  FnExactForward answers true at all arguments: Forward answers as the specification; it writes into no argument and keeps nothing of one; its answer owns its memory, behind another call too.
-/
import Derived.Test.YtddalpglihhipaaGreatPXKW
import Derived.Test.YtddalpglihhipaaGreatPXFwdI
import Derived.Test.YtddalpglihhipaaGreatPXK01
import Derived.Test.YtddalpglihhipaaGreatPXK08
import Derived.Test.YtddalpglihhipaaGreatPXK18
import Derived.Test.YtddalpglihhipaaGreatPXK21
import Derived.Deep.RegionHeld3
import Derived.Deep.CutRange
import Derived.WalkKit
import Derived.ProofKit
import Derived.OpenShut
import Derived.ShutString
import Derived.ChangeOld
import Derived.Below
import Derived.Lib.SmallJoins
namespace Go.Proofs.YtddalpglihhipaaGreat
open Go.RowKit

abbrev q307 : Oper := ⟨some 31, .call ⟨.value (.func 25), #[.tmp 30], #[60]⟩, 31, "exact.go:4171", #[⟨0, .data⟩], none⟩
abbrev q308 : Oper := ⟨some 34, .call ⟨.value (.func 26), #[.tmp 33], #[61]⟩, 33, "exact.go:4171", #[⟨3, .data⟩, ⟨1, .chain⟩], none⟩
abbrev q309 : Oper := ⟨some 35, .call ⟨.value (.func 9), #[.tmp 31, .tmp 32, .tmp 34], #[31, 3, 33]⟩, 37, "exact.go:4171", #[⟨1, .data⟩, ⟨2, .data⟩, ⟨4, .data⟩, ⟨4, .chain⟩], none⟩
abbrev q310 : Oper := ⟨some 29, .move (.tmp 35), 37, "exact.go:4171", #[⟨5, .data⟩], none⟩
abbrev q311 : Oper := ⟨some 36, .extract (.tmp 29) 0, 31, "exact.go:4171", #[⟨6, .data⟩], none⟩
abbrev q312 : Oper := ⟨some 37, .extract (.tmp 29) 1, 36, "exact.go:4171", #[⟨6, .data⟩, { on := 10, ground := Ground.gcOnly Departure.lateStores }], none⟩
abbrev q313 : Oper := ⟨some 8, .alloc 31, 0, "exact.go:4171", #[], none⟩
abbrev q314 : Oper := ⟨none, .store 31 (.tmp 8) (.tmp 36), 0, "exact.go:4171", #[⟨9, .data⟩, ⟨7, .data⟩, ⟨5, .chain⟩, ⟨0, .phase⟩, ⟨1, .phase⟩, ⟨2, .phase⟩, ⟨3, .phase⟩, ⟨4, .phase⟩, ⟨5, .phase⟩, ⟨6, .phase⟩, ⟨7, .phase⟩, { on := 8, ground := Ground.textOnly Departure.lateStores }, ⟨9, .phase⟩], none⟩
abbrev q315 : Oper := ⟨some 9, .assign (.tmp 37), 36, "exact.go:4171", #[⟨8, .data⟩, ⟨10, .chain⟩, ⟨0, .phase⟩, ⟨1, .phase⟩, ⟨2, .phase⟩, ⟨3, .phase⟩, ⟨4, .phase⟩, ⟨5, .phase⟩, ⟨6, .phase⟩, ⟨7, .phase⟩, ⟨8, .phase⟩, ⟨9, .phase⟩, ⟨10, .phase⟩], none⟩
abbrev q316 : Oper := ⟨some 110, .call ⟨.value (.func 25), #[.tmp 109], #[60]⟩, 31, "exact.go:4205", #[⟨0, .data⟩], none⟩
abbrev q317 : Oper := ⟨some 113, .call ⟨.value (.func 26), #[.tmp 112], #[61]⟩, 33, "exact.go:4205", #[⟨3, .data⟩, ⟨1, .chain⟩], none⟩
abbrev q318 : Oper := ⟨some 114, .call ⟨.value (.func 8), #[.tmp 110, .tmp 111, .tmp 113], #[31, 3, 33]⟩, 37, "exact.go:4205", #[⟨1, .data⟩, ⟨2, .data⟩, ⟨4, .data⟩, ⟨4, .chain⟩], none⟩
abbrev q319 : Oper := ⟨some 108, .move (.tmp 114), 37, "exact.go:4205", #[⟨5, .data⟩], none⟩
abbrev q320 : Oper := ⟨some 115, .extract (.tmp 108) 0, 31, "exact.go:4205", #[⟨6, .data⟩], none⟩
abbrev q321 : Oper := ⟨some 116, .extract (.tmp 108) 1, 36, "exact.go:4205", #[⟨6, .data⟩, { on := 10, ground := Ground.gcOnly Departure.lateStores }], none⟩
abbrev q322 : Oper := ⟨some 17, .alloc 31, 0, "exact.go:4205", #[], none⟩
abbrev q323 : Oper := ⟨none, .store 31 (.tmp 17) (.tmp 115), 0, "exact.go:4205", #[⟨9, .data⟩, ⟨7, .data⟩, ⟨5, .chain⟩, ⟨0, .phase⟩, ⟨1, .phase⟩, ⟨2, .phase⟩, ⟨3, .phase⟩, ⟨4, .phase⟩, ⟨5, .phase⟩, ⟨6, .phase⟩, ⟨7, .phase⟩, { on := 8, ground := Ground.textOnly Departure.lateStores }, ⟨9, .phase⟩], none⟩
abbrev q324 : Oper := ⟨some 18, .assign (.tmp 116), 36, "exact.go:4205", #[⟨8, .data⟩, ⟨10, .chain⟩, ⟨0, .phase⟩, ⟨1, .phase⟩, ⟨2, .phase⟩, ⟨3, .phase⟩, ⟨4, .phase⟩, ⟨5, .phase⟩, ⟨6, .phase⟩, ⟨7, .phase⟩, ⟨8, .phase⟩, ⟨9, .phase⟩, ⟨10, .phase⟩], none⟩

set_option maxRecDepth 100000 in
set_option maxHeartbeats 32000000 in
theorem exactForward_walk (a0 : Option Addr) (n0 c0 : Nat) (fa0 : Option Addr) (fn0 fc0 : Nat) (ra0 : Option Addr) (rn0 rc0 : Nat) (oa0 : Option Addr) (on0 oc0 : Nat) (B0 : BR) (port : Int) (fd fs ft : Int) (a1 : Option Addr) (l1 c1 : Nat) (z1 : List Int) (w : World) (h0 : BrRow w a0 n0 c0 fa0 fn0 fc0 ra0 rn0 rc0 oa0 on0 oc0 B0) (g0 : B0.Rng) (_wp : (Lit.int .i64 port).wf = true) (h1 : Row w a1 l1 c1 z1) :
  Calls Tryz.prog 5 #[.agg #[.int .i64 B0.id, .string B0.name, .slice a0 n0 c0, .slice fa0 fn0 fc0, .slice ra0 rn0 rc0, .slice oa0 on0 oc0, .int .i64 B0.ticks, .int .i64 B0.parse, .int .i64 B0.word, .int .i64 B0.drops, .int .i64 B0.vers], .int .i64 port, .agg #[.int .i64 fd, .int .i64 fs, .int .i64 ft, .slice a1 l1 c1]] w fun e w' => e = .returned (.bool true) ∧ Below w.heap.size w w' := by
 have hl1 := Nat.le_trans h1.le h1.top
 generalize hwA : w.alloc (Obj.cells #[.int .i64 B0.id, .string B0.name, .slice a0 n0 c0, .slice fa0 fn0 fc0, .slice ra0 rn0 rc0, .slice oa0 on0 oc0, .int .i64 B0.ticks, .int .i64 B0.parse, .int .i64 B0.word, .int .i64 B0.drops, .int .i64 B0.vers] 60) = wA
 generalize hwV : wA.alloc (Obj.cells #[.int .i64 fd, .int .i64 fs, .int .i64 ft, .slice a1 l1 c1] 61) = wV
 have uA : Below w.heap.size w wA := by subst hwA; exact below_one _ _
 have uAV : Below wA.heap.size wA wV := by subst hwV; exact below_one _ _
 have uV := gr_trans uA uAV
 have kA : wV.heap[w.heap.size]? = some (.cells #[.int .i64 B0.id, .string B0.name, .slice a0 n0 c0, .slice fa0 fn0 fc0, .slice ra0 rn0 rc0, .slice oa0 on0 oc0, .int .i64 B0.ticks, .int .i64 B0.parse, .int .i64 B0.word, .int .i64 B0.drops, .int .i64 B0.vers] 60) := kept_block (by rw [← hwA]; exact block_last _ _) uAV
 have kV : wV.heap[wA.heap.size]? = some (.cells #[.int .i64 fd, .int .i64 fs, .int .i64 ft, .slice a1 l1 c1] 61) := by rw [← hwV]; exact block_last _ _
 obtain ⟨x0, x1, x2, x3, x4, x5, x6, x7, x8, x9, x10⟩ := cells11 kA
 by_cases gb : ¬ sizeB B0 ≤ 1048576
 ·go_enter Tryz.func5, Tryz.ntmps5
  go_wp2_with fail
  refine (szBridge_from 1048576 (by omega) (by omega) a0 n0 c0 fa0 fn0 fc0 ra0 rn0 rc0 oa0 on0 oc0 B0 _ (h0.below uV) g0.name).mono ?_
  rintro e w1 ⟨rfl, hb1⟩
  rw [if_neg (show ¬ sizeB B0 ≤ 1048576 by omega)]
  have HB := hide (gr_trans uV hb1)
  clear x0 x1 x2 x3 x4 x5 x6 x7 x8 x9 x10
  go_wp2
  go_ret
  exact ⟨rfl, HB.out⟩
 have hsz : sizeB B0 = (B0.name.size : Int) + n0 + fn0 + (rn0 + on0) := by unfold sizeB; rw [h0.ports.size, h0.f.size, h0.v.rows.size, h0.v.own.size]
 have gb : sizeB B0 ≤ 1048576 := by omega
 have gn : n0 ≤ 1048576 := by omega
 have gf : fn0 ≤ 1048576 := by omega
 have gr : rn0 ≤ 1048576 := by omega
 have go : on0 ≤ 1048576 := by omega
 have gs0 : 0 ≤ sizeB B0 := by omega
 have gs : ¬ ((1048576 : Int) - sizeB B0 < 0) := by omega
 clear hsz
 have HLE := hide (fwdB_len B0 port fd fs ft l1)
 generalize hV : fwdB B0 port fd fs ft l1 = V at HLE
 generalize hOV : fwdO B0 port fd fs ft l1 z1 = OV
 have HV := hide hV
 have HOV := hide hOV
 clear hV hOV
 go_enter Tryz.func5, Tryz.ntmps5
 go_wp2_with fail
 refine (szBridge_from 1048576 (by omega) (by omega) a0 n0 c0 fa0 fn0 fc0 ra0 rn0 rc0 oa0 on0 oc0 B0 _ (h0.below uV) g0.name).mono ?_
 rintro e w0 ⟨rfl, hb1⟩
 rw [if_pos gb]
 have kA := kept_block kA hb1
 have kV := kept_block kV hb1
 have uB := gr_trans uV hb1
 clear hb1 x0 x1 x2 x3 x4 x5 x6 x7 x8 x9 x10 uV uA uAV hwA hwV
 generalize hSZ : sizeB B0 = SZ at *
 clear hSZ
 obtain ⟨⟨v0, v1, v2, v3⟩, -⟩ := cells4 kV
 by_cases gl : ¬ (l1 : Int) ≤ 1048576 - SZ
 ·go_wp2_with fail
  refine (szFrame_any fd fs ft a1 l1 c1 (1048576 - SZ) _ hl1 (by omega) (by omega)).mono ?_
  rintro e w1 ⟨rfl, hb1⟩
  rw [if_neg (show ¬ (l1 : Int) ≤ 1048576 - SZ by omega)]
  have HB := hide (gr_trans uB hb1)
  clear v0 v1 v2 v3
  go_wp2
  go_ret
  exact ⟨rfl, HB.out⟩
 have gl : (l1 : Int) ≤ 1048576 - SZ := by omega
 have gl2 : l1 ≤ 1048576 := by omega
 go_wp2_with fail
 refine (szFrame_any fd fs ft a1 l1 c1 (1048576 - SZ) _ hl1 (by omega) (by omega)).mono ?_
 rintro e w1 ⟨rfl, hb1⟩
 rw [if_pos gl]
 have gs2 : ¬ ((1048576 : Int) - SZ - (l1 : Int) < 0) := by omega
 have kA := kept_block kA hb1
 have kV := kept_block kV hb1
 have uB := gr_trans uB hb1
 clear hb1 v0 v1 v2 v3
 go_upto_region 8 with fail
 go_cut [8, 9] from 19 to 139 (fun s t wx => ∃ (g : Nat) (a3 : Option Addr) (n3 c3 : Nat) (fa3 : Option Addr) (fn3 fc3 : Nat) (ra3 : Option Addr) (rn3 rc3 : Nat) (oa3 : Option Addr) (on3 oc3 : Nat) (ao3 : Option Addr) (cp3 : Nat) (L3 : List OI), s = .pointer (some ⟨g, 0, none⟩) ∧ t = .slice ao3 L3.length cp3 ∧ w1.heap.size ≤ g ∧ wx.heap[g]? = some (.cells #[.int .i64 V.id, .string V.name, .slice a3 n3 c3, .slice fa3 fn3 fc3, .slice ra3 rn3 rc3, .slice oa3 on3 oc3, .int .i64 V.ticks, .int .i64 V.parse, .int .i64 V.word, .int .i64 V.drops, .int .i64 V.vers] 31) ∧ BrOwn wx w1.heap.size a3 n3 c3 fa3 fn3 fc3 ra3 rn3 rc3 oa3 on3 oc3 V ∧ OOwns wx w1.heap.size ao3 L3.length cp3 L3 ∧ L3.map OI.v = OV ∧ Below w1.heap.size w1 wx)
 case first =>
  have vv : Below w1.heap.size w1 w1.drew := gr_drew (Below.refl _ _)
  go_wp2_with fail
  refine wp_region_held_drew (S := (fun W => (W.cell? ⟨w.heap.size, 0, none⟩ = some (.int .i64 B0.id) ∧ W.cell? ⟨w.heap.size, 1, none⟩ = some (.string B0.name) ∧ W.cell? ⟨w.heap.size, 2, none⟩ = some (.slice a0 n0 c0) ∧ W.cell? ⟨w.heap.size, 3, none⟩ = some (.slice fa0 fn0 fc0) ∧ W.cell? ⟨w.heap.size, 4, none⟩ = some (.slice ra0 rn0 rc0) ∧ W.cell? ⟨w.heap.size, 5, none⟩ = some (.slice oa0 on0 oc0) ∧ W.cell? ⟨w.heap.size, 6, none⟩ = some (.int .i64 B0.ticks) ∧ W.cell? ⟨w.heap.size, 7, none⟩ = some (.int .i64 B0.parse) ∧ W.cell? ⟨w.heap.size, 8, none⟩ = some (.int .i64 B0.word) ∧ W.cell? ⟨w.heap.size, 9, none⟩ = some (.int .i64 B0.drops) ∧ W.cell? ⟨w.heap.size, 10, none⟩ = some (.int .i64 B0.vers)) ∧ (W.cell? ⟨wA.heap.size, 0, none⟩ = some (.int .i64 fd) ∧ W.cell? ⟨wA.heap.size, 1, none⟩ = some (.int .i64 fs) ∧ W.cell? ⟨wA.heap.size, 2, none⟩ = some (.int .i64 ft) ∧ W.cell? ⟨wA.heap.size, 3, none⟩ = some (.slice a1 l1 c1)))) (by kernel_rfl) (⟨cells11 (kept_block kA vv), (cells4 (kept_block kV vv)).1⟩) (fun hHeld => ?_)
  refine tK (v := ?_) 0 ⟨some 30, .load 60 (.tmp 3), 60, "exact.go:4171", #[], none⟩ ?_ ?_
  rotate_left
  ·(intro _ h; (try dsimp only at h); go_simp; try with_reducible rfl)
  simp only [Act.put, lA, lB, lC]
  refine tK (v := ?_) 2 ⟨some 32, .move (.tmp 1), 3, "exact.go:4171", #[], none⟩ ?_ ?_
  rotate_left
  ·(intro _ h; (try dsimp only at h); go_simp; try with_reducible rfl)
  simp only [Act.put, lA, lB, lC]
  refine tK (v := ?_) 3 ⟨some 33, .load 61 (.tmp 5), 61, "exact.go:4171", #[], none⟩ ?_ ?_
  rotate_left
  ·(intro _ h; (try dsimp only at h); go_simp; try with_reducible rfl)
  simp only [Act.put, lA, lB, lC]
  refine tR [1, 9] ?_
  refine AllReadyH.cons (o := q307) rfl (fun K hK => ?_) ?_
  ·go_simp
   refine (toBridge_made a0 n0 c0 fa0 fn0 fc0 ra0 rn0 rc0 oa0 on0 oc0 B0 _ (h0.below (gr_trans uB vv)) gn gf gr go).mono ?_
   rintro e wx ⟨a2, c2, fa2, fc2, ra2, rc2, oa2, oc2, rfl, t2, hbx⟩
   try have rF := rF.below hbx
   try have kB := kept_block kB hbx
   have vv := gr_trans vv hbx
   clear hbx
   go_wp2_with fail
   refine hK.out _ _ (⟨cells11 (kept_block kA vv), (cells4 (kept_block kV vv)).1⟩) (fun hHeld => ?_)
   clear hK K
   try simp only [Act.put, lA, lB, lC]
   refine tR [4, 9] ?_
   refine AllReadyH.cons (o := q308) rfl (fun K hK => ?_) ?_
   ·go_simp
    refine (toFrame_made fd fs ft a1 l1 c1 z1 _ (h1.below (gr_trans uB vv)) (by omega)).mono ?_
    rintro e wx ⟨ap, cq, rfl, -, rF, hbx⟩
    try have t2 := t2.below hbx
    try have kB := kept_block kB hbx
    have vv := gr_trans vv hbx
    clear hbx
    go_wp2_with fail
    refine hK.out _ _ (⟨cells11 (kept_block kA vv), (cells4 (kept_block kV vv)).1⟩) (fun hHeld => ?_)
    clear hK K
    try simp only [Act.put, lA, lB, lC]
    refine tR [5, 9] ?_
    refine AllReadyH.cons (o := q309) rfl (fun K hK => ?_) ?_
    ·go_simp
     refine (specForward_made _ _ _ _ _ _ _ _ _ _ _ _ B0 port fd fs ft _ _ _ z1 _ t2.row rF (by omega) (by omega) (by omega) (by omega) (by omega)).mono ?_
     rw [HV.out, HOV.out]
     rintro e wx ⟨a3, n3, c3, fa3, fn3, fc3, ra3, rn3, rc3, oa3, on3, oc3, ao3, cp3, L3, rfl, t3, oL, hM, hbx⟩
     have t3 := t3.lt (base' := w1.heap.size) vv.size
     have oL := oL.lt (base' := w1.heap.size) vv.size
     try have kB := kept_block kB hbx
     have vv := gr_trans vv hbx
     clear hbx
     go_wp2_with fail
     refine hK.out _ _ (⟨cells11 (kept_block kA vv), (cells4 (kept_block kV vv)).1⟩) (fun hHeld => ?_)
     clear hK K
     try simp only [Act.put, lA, lB, lC]
     refine tK (v := ?_) 6 q310 ?_ ?_
     rotate_left
     ·(intro _ h; (try dsimp only at h); go_simp; try with_reducible rfl)
     simp only [Act.put, lA, lB, lC]
     refine tK (v := ?_) 7 q311 ?_ ?_
     rotate_left
     ·(intro _ h; (try dsimp only at h); go_simp; try with_reducible rfl)
     simp only [Act.put, lA, lB, lC]
     refine tK (v := ?_) 8 q312 ?_ ?_
     rotate_left
     ·(intro _ h; (try dsimp only at h); go_simp; try with_reducible rfl)
     simp only [Act.put, lA, lB, lC]
     refine tR [9] ?_
     refine AllReadyH.cons (o := q313) rfl (fun K hK => ?_) ?_
     ·go_simp
      first
      | refine made_new (K := K _) (fun wx kB hbx => ?_)
      | refine made_drew (K := K _) (fun wx kB hbx => ?_)
      have gB := vv.size
      try have t2 := t2.below hbx
      try have rF := rF.below hbx
      try have t3 := t3.below hbx
      try have oL := oL.below hbx
      have vv := gr_trans vv hbx
      clear hbx
      refine hK.out _ _ (⟨cells11 (kept_block kA vv), (cells4 (kept_block kV vv)).1⟩) (fun hHeld => ?_)
      clear hK K
      try simp only [Act.put, lA, lB, lC]
      refine tR [10] ?_
      refine AllReadyH.cons (o := q314) rfl (fun K hK => ?_) ?_
      ·obtain ⟨b0, b1, b2, b3, b4, b5, b6, b7, b8, b9, b10⟩ := cells11 kB
       have fr := frozen8 kB
       have fr0 := fr 0
       have fr1 := fr 1
       have fr2 := fr 2
       have fr3 := fr 3
       have fr4 := fr 4
       have fr5 := fr 5
       have fr6 := fr 6
       have fr7 := fr 7
       have fr8 := fr 8
       have fr9 := fr 9
       have fr10 := fr 10
       go_simp
       clear b0 b1 b2 b3 b4 b5 b6 b7 b8 b9 b10 fr0 fr1 fr2 fr3 fr4 fr5 fr6 fr7 fr8 fr9 fr10 fr
       have vv := below_set11 vv gB (.int .i64 V.id) (.string V.name) (.slice a3 n3 c3) (.slice fa3 fn3 fc3) (.slice ra3 rn3 rc3) (.slice oa3 on3 oc3) (.int .i64 V.ticks) (.int .i64 V.parse) (.int .i64 V.word) (.int .i64 V.drops) (.int .i64 V.vers)
       have t3 := t3.boxed11 kB (.int .i64 V.id) (.string V.name) (.slice a3 n3 c3) (.slice fa3 fn3 fc3) (.slice ra3 rn3 rc3) (.slice oa3 on3 oc3) (.int .i64 V.ticks) (.int .i64 V.parse) (.int .i64 V.word) (.int .i64 V.drops) (.int .i64 V.vers)
       have oL := oL.put11 kB (by decide) (by decide) (.int .i64 V.id) (.string V.name) (.slice a3 n3 c3) (.slice fa3 fn3 fc3) (.slice ra3 rn3 rc3) (.slice oa3 on3 oc3) (.int .i64 V.ticks) (.int .i64 V.parse) (.int .i64 V.word) (.int .i64 V.drops) (.int .i64 V.vers)
       have kB := set_box11B kB (.int .i64 V.id) (.string V.name) (.slice a3 n3 c3) (.slice fa3 fn3 fc3) (.slice ra3 rn3 rc3) (.slice oa3 on3 oc3) (.int .i64 V.ticks) (.int .i64 V.parse) (.int .i64 V.word) (.int .i64 V.drops) (.int .i64 V.vers)
       refine hK.out _ _ (⟨cells11 (kept_block kA vv), (cells4 (kept_block kV vv)).1⟩) (fun hHeld => ?_)
       clear hK K
       try simp only [Act.put, lA, lB, lC]
       refine tK (v := ?_) 11 q315 ?_ ?_
       rotate_left
       ·(intro _ h; (try dsimp only at h); go_simp; try with_reducible rfl)
       simp only [Act.put, lA, lB, lC]
       refine wpAnyH_done (by kernel_rfl) ?_ _
       clear hHeld
       go_wp2_with fail
       go_meet
       exact ⟨_, a3, n3, c3, fa3, fn3, fc3, ra3, rn3, rc3, oa3, on3, oc3, ao3, cp3, L3, rfl, rfl, gB, kB, t3, oL, hM, vv⟩
      exact AllReadyH.nil
     exact AllReadyH.nil
    refine AllReadyH.cons (o := q313) rfl (fun K hK => ?_) ?_
    ·go_simp
     first
     | refine made_new (K := K _) (fun wx kB hbx => ?_)
     | refine made_drew (K := K _) (fun wx kB hbx => ?_)
     have gB := vv.size
     try have t2 := t2.below hbx
     try have rF := rF.below hbx
     try have t3 := t3.below hbx
     try have oL := oL.below hbx
     have vv := gr_trans vv hbx
     clear hbx
     refine hK.out _ _ (⟨cells11 (kept_block kA vv), (cells4 (kept_block kV vv)).1⟩) (fun hHeld => ?_)
     clear hK K
     try simp only [Act.put, lA, lB, lC]
     refine tR [5] ?_
     refine AllReadyH.cons (o := q309) rfl (fun K hK => ?_) ?_
     ·go_simp
      refine (specForward_made _ _ _ _ _ _ _ _ _ _ _ _ B0 port fd fs ft _ _ _ z1 _ t2.row rF (by omega) (by omega) (by omega) (by omega) (by omega)).mono ?_
      rw [HV.out, HOV.out]
      rintro e wx ⟨a3, n3, c3, fa3, fn3, fc3, ra3, rn3, rc3, oa3, on3, oc3, ao3, cp3, L3, rfl, t3, oL, hM, hbx⟩
      have t3 := t3.lt (base' := w1.heap.size) vv.size
      have oL := oL.lt (base' := w1.heap.size) vv.size
      try have kB := kept_block kB hbx
      have vv := gr_trans vv hbx
      clear hbx
      go_wp2_with fail
      refine hK.out _ _ (⟨cells11 (kept_block kA vv), (cells4 (kept_block kV vv)).1⟩) (fun hHeld => ?_)
      clear hK K
      try simp only [Act.put, lA, lB, lC]
      refine tK (v := ?_) 6 q310 ?_ ?_
      rotate_left
      ·(intro _ h; (try dsimp only at h); go_simp; try with_reducible rfl)
      simp only [Act.put, lA, lB, lC]
      refine tK (v := ?_) 7 q311 ?_ ?_
      rotate_left
      ·(intro _ h; (try dsimp only at h); go_simp; try with_reducible rfl)
      simp only [Act.put, lA, lB, lC]
      refine tK (v := ?_) 8 q312 ?_ ?_
      rotate_left
      ·(intro _ h; (try dsimp only at h); go_simp; try with_reducible rfl)
      simp only [Act.put, lA, lB, lC]
      refine tR [10] ?_
      refine AllReadyH.cons (o := q314) rfl (fun K hK => ?_) ?_
      ·obtain ⟨b0, b1, b2, b3, b4, b5, b6, b7, b8, b9, b10⟩ := cells11 kB
       have fr := frozen8 kB
       have fr0 := fr 0
       have fr1 := fr 1
       have fr2 := fr 2
       have fr3 := fr 3
       have fr4 := fr 4
       have fr5 := fr 5
       have fr6 := fr 6
       have fr7 := fr 7
       have fr8 := fr 8
       have fr9 := fr 9
       have fr10 := fr 10
       go_simp
       clear b0 b1 b2 b3 b4 b5 b6 b7 b8 b9 b10 fr0 fr1 fr2 fr3 fr4 fr5 fr6 fr7 fr8 fr9 fr10 fr
       have vv := below_set11 vv gB (.int .i64 V.id) (.string V.name) (.slice a3 n3 c3) (.slice fa3 fn3 fc3) (.slice ra3 rn3 rc3) (.slice oa3 on3 oc3) (.int .i64 V.ticks) (.int .i64 V.parse) (.int .i64 V.word) (.int .i64 V.drops) (.int .i64 V.vers)
       have t3 := t3.boxed11 kB (.int .i64 V.id) (.string V.name) (.slice a3 n3 c3) (.slice fa3 fn3 fc3) (.slice ra3 rn3 rc3) (.slice oa3 on3 oc3) (.int .i64 V.ticks) (.int .i64 V.parse) (.int .i64 V.word) (.int .i64 V.drops) (.int .i64 V.vers)
       have oL := oL.put11 kB (by decide) (by decide) (.int .i64 V.id) (.string V.name) (.slice a3 n3 c3) (.slice fa3 fn3 fc3) (.slice ra3 rn3 rc3) (.slice oa3 on3 oc3) (.int .i64 V.ticks) (.int .i64 V.parse) (.int .i64 V.word) (.int .i64 V.drops) (.int .i64 V.vers)
       have kB := set_box11B kB (.int .i64 V.id) (.string V.name) (.slice a3 n3 c3) (.slice fa3 fn3 fc3) (.slice ra3 rn3 rc3) (.slice oa3 on3 oc3) (.int .i64 V.ticks) (.int .i64 V.parse) (.int .i64 V.word) (.int .i64 V.drops) (.int .i64 V.vers)
       refine hK.out _ _ (⟨cells11 (kept_block kA vv), (cells4 (kept_block kV vv)).1⟩) (fun hHeld => ?_)
       clear hK K
       try simp only [Act.put, lA, lB, lC]
       refine tK (v := ?_) 11 q315 ?_ ?_
       rotate_left
       ·(intro _ h; (try dsimp only at h); go_simp; try with_reducible rfl)
       simp only [Act.put, lA, lB, lC]
       refine wpAnyH_done (by kernel_rfl) ?_ _
       clear hHeld
       go_wp2_with fail
       go_meet
       exact ⟨_, a3, n3, c3, fa3, fn3, fc3, ra3, rn3, rc3, oa3, on3, oc3, ao3, cp3, L3, rfl, rfl, gB, kB, t3, oL, hM, vv⟩
      exact AllReadyH.nil
     exact AllReadyH.nil
    exact AllReadyH.nil
   refine AllReadyH.cons (o := q313) rfl (fun K hK => ?_) ?_
   ·go_simp
    first
    | refine made_new (K := K _) (fun wx kB hbx => ?_)
    | refine made_drew (K := K _) (fun wx kB hbx => ?_)
    have gB := vv.size
    try have t2 := t2.below hbx
    try have rF := rF.below hbx
    try have t3 := t3.below hbx
    try have oL := oL.below hbx
    have vv := gr_trans vv hbx
    clear hbx
    refine hK.out _ _ (⟨cells11 (kept_block kA vv), (cells4 (kept_block kV vv)).1⟩) (fun hHeld => ?_)
    clear hK K
    try simp only [Act.put, lA, lB, lC]
    refine tR [4] ?_
    refine AllReadyH.cons (o := q308) rfl (fun K hK => ?_) ?_
    ·go_simp
     refine (toFrame_made fd fs ft a1 l1 c1 z1 _ (h1.below (gr_trans uB vv)) (by omega)).mono ?_
     rintro e wx ⟨ap, cq, rfl, -, rF, hbx⟩
     try have t2 := t2.below hbx
     try have kB := kept_block kB hbx
     have vv := gr_trans vv hbx
     clear hbx
     go_wp2_with fail
     refine hK.out _ _ (⟨cells11 (kept_block kA vv), (cells4 (kept_block kV vv)).1⟩) (fun hHeld => ?_)
     clear hK K
     try simp only [Act.put, lA, lB, lC]
     refine tR [5] ?_
     refine AllReadyH.cons (o := q309) rfl (fun K hK => ?_) ?_
     ·go_simp
      refine (specForward_made _ _ _ _ _ _ _ _ _ _ _ _ B0 port fd fs ft _ _ _ z1 _ t2.row rF (by omega) (by omega) (by omega) (by omega) (by omega)).mono ?_
      rw [HV.out, HOV.out]
      rintro e wx ⟨a3, n3, c3, fa3, fn3, fc3, ra3, rn3, rc3, oa3, on3, oc3, ao3, cp3, L3, rfl, t3, oL, hM, hbx⟩
      have t3 := t3.lt (base' := w1.heap.size) vv.size
      have oL := oL.lt (base' := w1.heap.size) vv.size
      try have kB := kept_block kB hbx
      have vv := gr_trans vv hbx
      clear hbx
      go_wp2_with fail
      refine hK.out _ _ (⟨cells11 (kept_block kA vv), (cells4 (kept_block kV vv)).1⟩) (fun hHeld => ?_)
      clear hK K
      try simp only [Act.put, lA, lB, lC]
      refine tK (v := ?_) 6 q310 ?_ ?_
      rotate_left
      ·(intro _ h; (try dsimp only at h); go_simp; try with_reducible rfl)
      simp only [Act.put, lA, lB, lC]
      refine tK (v := ?_) 7 q311 ?_ ?_
      rotate_left
      ·(intro _ h; (try dsimp only at h); go_simp; try with_reducible rfl)
      simp only [Act.put, lA, lB, lC]
      refine tK (v := ?_) 8 q312 ?_ ?_
      rotate_left
      ·(intro _ h; (try dsimp only at h); go_simp; try with_reducible rfl)
      simp only [Act.put, lA, lB, lC]
      refine tR [10] ?_
      refine AllReadyH.cons (o := q314) rfl (fun K hK => ?_) ?_
      ·obtain ⟨b0, b1, b2, b3, b4, b5, b6, b7, b8, b9, b10⟩ := cells11 kB
       have fr := frozen8 kB
       have fr0 := fr 0
       have fr1 := fr 1
       have fr2 := fr 2
       have fr3 := fr 3
       have fr4 := fr 4
       have fr5 := fr 5
       have fr6 := fr 6
       have fr7 := fr 7
       have fr8 := fr 8
       have fr9 := fr 9
       have fr10 := fr 10
       go_simp
       clear b0 b1 b2 b3 b4 b5 b6 b7 b8 b9 b10 fr0 fr1 fr2 fr3 fr4 fr5 fr6 fr7 fr8 fr9 fr10 fr
       have vv := below_set11 vv gB (.int .i64 V.id) (.string V.name) (.slice a3 n3 c3) (.slice fa3 fn3 fc3) (.slice ra3 rn3 rc3) (.slice oa3 on3 oc3) (.int .i64 V.ticks) (.int .i64 V.parse) (.int .i64 V.word) (.int .i64 V.drops) (.int .i64 V.vers)
       have t3 := t3.boxed11 kB (.int .i64 V.id) (.string V.name) (.slice a3 n3 c3) (.slice fa3 fn3 fc3) (.slice ra3 rn3 rc3) (.slice oa3 on3 oc3) (.int .i64 V.ticks) (.int .i64 V.parse) (.int .i64 V.word) (.int .i64 V.drops) (.int .i64 V.vers)
       have oL := oL.put11 kB (by decide) (by decide) (.int .i64 V.id) (.string V.name) (.slice a3 n3 c3) (.slice fa3 fn3 fc3) (.slice ra3 rn3 rc3) (.slice oa3 on3 oc3) (.int .i64 V.ticks) (.int .i64 V.parse) (.int .i64 V.word) (.int .i64 V.drops) (.int .i64 V.vers)
       have kB := set_box11B kB (.int .i64 V.id) (.string V.name) (.slice a3 n3 c3) (.slice fa3 fn3 fc3) (.slice ra3 rn3 rc3) (.slice oa3 on3 oc3) (.int .i64 V.ticks) (.int .i64 V.parse) (.int .i64 V.word) (.int .i64 V.drops) (.int .i64 V.vers)
       refine hK.out _ _ (⟨cells11 (kept_block kA vv), (cells4 (kept_block kV vv)).1⟩) (fun hHeld => ?_)
       clear hK K
       try simp only [Act.put, lA, lB, lC]
       refine tK (v := ?_) 11 q315 ?_ ?_
       rotate_left
       ·(intro _ h; (try dsimp only at h); go_simp; try with_reducible rfl)
       simp only [Act.put, lA, lB, lC]
       refine wpAnyH_done (by kernel_rfl) ?_ _
       clear hHeld
       go_wp2_with fail
       go_meet
       exact ⟨_, a3, n3, c3, fa3, fn3, fc3, ra3, rn3, rc3, oa3, on3, oc3, ao3, cp3, L3, rfl, rfl, gB, kB, t3, oL, hM, vv⟩
      exact AllReadyH.nil
     exact AllReadyH.nil
    exact AllReadyH.nil
   exact AllReadyH.nil
  refine AllReadyH.cons (o := q313) rfl (fun K hK => ?_) ?_
  ·go_simp
   first
   | refine made_new (K := K _) (fun wx kB hbx => ?_)
   | refine made_drew (K := K _) (fun wx kB hbx => ?_)
   have gB := vv.size
   try have t2 := t2.below hbx
   try have rF := rF.below hbx
   try have t3 := t3.below hbx
   try have oL := oL.below hbx
   have vv := gr_trans vv hbx
   clear hbx
   refine hK.out _ _ (⟨cells11 (kept_block kA vv), (cells4 (kept_block kV vv)).1⟩) (fun hHeld => ?_)
   clear hK K
   try simp only [Act.put, lA, lB, lC]
   refine tR [1] ?_
   refine AllReadyH.cons (o := q307) rfl (fun K hK => ?_) ?_
   ·go_simp
    refine (toBridge_made a0 n0 c0 fa0 fn0 fc0 ra0 rn0 rc0 oa0 on0 oc0 B0 _ (h0.below (gr_trans uB vv)) gn gf gr go).mono ?_
    rintro e wx ⟨a2, c2, fa2, fc2, ra2, rc2, oa2, oc2, rfl, t2, hbx⟩
    try have rF := rF.below hbx
    try have kB := kept_block kB hbx
    have vv := gr_trans vv hbx
    clear hbx
    go_wp2_with fail
    refine hK.out _ _ (⟨cells11 (kept_block kA vv), (cells4 (kept_block kV vv)).1⟩) (fun hHeld => ?_)
    clear hK K
    try simp only [Act.put, lA, lB, lC]
    refine tR [4] ?_
    refine AllReadyH.cons (o := q308) rfl (fun K hK => ?_) ?_
    ·go_simp
     refine (toFrame_made fd fs ft a1 l1 c1 z1 _ (h1.below (gr_trans uB vv)) (by omega)).mono ?_
     rintro e wx ⟨ap, cq, rfl, -, rF, hbx⟩
     try have t2 := t2.below hbx
     try have kB := kept_block kB hbx
     have vv := gr_trans vv hbx
     clear hbx
     go_wp2_with fail
     refine hK.out _ _ (⟨cells11 (kept_block kA vv), (cells4 (kept_block kV vv)).1⟩) (fun hHeld => ?_)
     clear hK K
     try simp only [Act.put, lA, lB, lC]
     refine tR [5] ?_
     refine AllReadyH.cons (o := q309) rfl (fun K hK => ?_) ?_
     ·go_simp
      refine (specForward_made _ _ _ _ _ _ _ _ _ _ _ _ B0 port fd fs ft _ _ _ z1 _ t2.row rF (by omega) (by omega) (by omega) (by omega) (by omega)).mono ?_
      rw [HV.out, HOV.out]
      rintro e wx ⟨a3, n3, c3, fa3, fn3, fc3, ra3, rn3, rc3, oa3, on3, oc3, ao3, cp3, L3, rfl, t3, oL, hM, hbx⟩
      have t3 := t3.lt (base' := w1.heap.size) vv.size
      have oL := oL.lt (base' := w1.heap.size) vv.size
      try have kB := kept_block kB hbx
      have vv := gr_trans vv hbx
      clear hbx
      go_wp2_with fail
      refine hK.out _ _ (⟨cells11 (kept_block kA vv), (cells4 (kept_block kV vv)).1⟩) (fun hHeld => ?_)
      clear hK K
      try simp only [Act.put, lA, lB, lC]
      refine tK (v := ?_) 6 q310 ?_ ?_
      rotate_left
      ·(intro _ h; (try dsimp only at h); go_simp; try with_reducible rfl)
      simp only [Act.put, lA, lB, lC]
      refine tK (v := ?_) 7 q311 ?_ ?_
      rotate_left
      ·(intro _ h; (try dsimp only at h); go_simp; try with_reducible rfl)
      simp only [Act.put, lA, lB, lC]
      refine tK (v := ?_) 8 q312 ?_ ?_
      rotate_left
      ·(intro _ h; (try dsimp only at h); go_simp; try with_reducible rfl)
      simp only [Act.put, lA, lB, lC]
      refine tR [10] ?_
      refine AllReadyH.cons (o := q314) rfl (fun K hK => ?_) ?_
      ·obtain ⟨b0, b1, b2, b3, b4, b5, b6, b7, b8, b9, b10⟩ := cells11 kB
       have fr := frozen8 kB
       have fr0 := fr 0
       have fr1 := fr 1
       have fr2 := fr 2
       have fr3 := fr 3
       have fr4 := fr 4
       have fr5 := fr 5
       have fr6 := fr 6
       have fr7 := fr 7
       have fr8 := fr 8
       have fr9 := fr 9
       have fr10 := fr 10
       go_simp
       clear b0 b1 b2 b3 b4 b5 b6 b7 b8 b9 b10 fr0 fr1 fr2 fr3 fr4 fr5 fr6 fr7 fr8 fr9 fr10 fr
       have vv := below_set11 vv gB (.int .i64 V.id) (.string V.name) (.slice a3 n3 c3) (.slice fa3 fn3 fc3) (.slice ra3 rn3 rc3) (.slice oa3 on3 oc3) (.int .i64 V.ticks) (.int .i64 V.parse) (.int .i64 V.word) (.int .i64 V.drops) (.int .i64 V.vers)
       have t3 := t3.boxed11 kB (.int .i64 V.id) (.string V.name) (.slice a3 n3 c3) (.slice fa3 fn3 fc3) (.slice ra3 rn3 rc3) (.slice oa3 on3 oc3) (.int .i64 V.ticks) (.int .i64 V.parse) (.int .i64 V.word) (.int .i64 V.drops) (.int .i64 V.vers)
       have oL := oL.put11 kB (by decide) (by decide) (.int .i64 V.id) (.string V.name) (.slice a3 n3 c3) (.slice fa3 fn3 fc3) (.slice ra3 rn3 rc3) (.slice oa3 on3 oc3) (.int .i64 V.ticks) (.int .i64 V.parse) (.int .i64 V.word) (.int .i64 V.drops) (.int .i64 V.vers)
       have kB := set_box11B kB (.int .i64 V.id) (.string V.name) (.slice a3 n3 c3) (.slice fa3 fn3 fc3) (.slice ra3 rn3 rc3) (.slice oa3 on3 oc3) (.int .i64 V.ticks) (.int .i64 V.parse) (.int .i64 V.word) (.int .i64 V.drops) (.int .i64 V.vers)
       refine hK.out _ _ (⟨cells11 (kept_block kA vv), (cells4 (kept_block kV vv)).1⟩) (fun hHeld => ?_)
       clear hK K
       try simp only [Act.put, lA, lB, lC]
       refine tK (v := ?_) 11 q315 ?_ ?_
       rotate_left
       ·(intro _ h; (try dsimp only at h); go_simp; try with_reducible rfl)
       simp only [Act.put, lA, lB, lC]
       refine wpAnyH_done (by kernel_rfl) ?_ _
       clear hHeld
       go_wp2_with fail
       go_meet
       exact ⟨_, a3, n3, c3, fa3, fn3, fc3, ra3, rn3, rc3, oa3, on3, oc3, ao3, cp3, L3, rfl, rfl, gB, kB, t3, oL, hM, vv⟩
      exact AllReadyH.nil
     exact AllReadyH.nil
    exact AllReadyH.nil
   exact AllReadyH.nil
  exact AllReadyH.nil
 case rest =>
  obtain ⟨gS, a3, n3, c3, fa3, fn3, fc3, ra3, rn3, rc3, oa3, on3, oc3, aoS, cpS, LS, rfl, rfl, -, kS, tS, oS, hMS, hb⟩ := hcut
  obtain ⟨wS, hwS⟩ : ∃ x, x = wc := ⟨_, rfl⟩
  subst hwS
  have kA := kept_block kA hb
  have kV := kept_block kV hb
  have uS := gr_trans uB hb
  have pS : Below wS.heap.size wS wS := Below.refl _ _
  clear hb uB
  obtain ⟨x0, x1, x2, x3, x4, x5, x6, x7, x8, x9, x10⟩ := cells11 kA
  go_wp2_with fail
  refine (toBridge_made a0 n0 c0 fa0 fn0 fc0 ra0 rn0 rc0 oa0 on0 oc0 B0 _ (h0.below uS) gn gf gr go).mono ?_
  rintro e w4 ⟨a4, c4, fa4, fc4, ra4, rc4, oa4, oc4, rfl, t4, hb4⟩
  have EX := hide t4.under
  generalize hwX : w4.alloc (Obj.cells #[.int .i64 B0.id, .string B0.name, .slice a4 n0 c4, .slice fa4 fn0 fc4, .slice ra4 rn0 rc4, .slice oa4 on0 oc4, .int .i64 B0.ticks, .int .i64 B0.parse, .int .i64 B0.word, .int .i64 B0.drops, .int .i64 B0.vers] 31) = wX
  have b4X : Below w4.heap.size w4 wX := by subst hwX; exact below_one _ _
  have kX : wX.heap[w4.heap.size]? = some (.cells #[.int .i64 B0.id, .string B0.name, .slice a4 n0 c4, .slice fa4 fn0 fc4, .slice ra4 rn0 rc4, .slice oa4 on0 oc4, .int .i64 B0.ticks, .int .i64 B0.parse, .int .i64 B0.word, .int .i64 B0.drops, .int .i64 B0.vers] 31) := by rw [← hwX]; exact block_last _ _
  have tX := t4.below b4X
  have pS : Below wS.heap.size wS wX := gr_trans hb4 b4X
  have SX : Hid (wS.heap.size ≤ wX.heap.size) := hide pS.size
  have GX0 : Hid (w4.heap.size ≤ wX.heap.size) := hide b4X.size
  clear x0 x1 x2 x3 x4 x5 x6 x7 x8 x9 x10 t4 hb4 b4X
  go_upto_region 10 with fail
  try rw [hwX]
  clear hwX
  obtain ⟨⟨v0, v1, v2, v3⟩, -⟩ := cells4 (kept_block kV pS)
  go_wp2_with fail
  refine (toFrame_made fd fs ft a1 l1 c1 z1 _ (h1.below (gr_trans uS pS)) (by omega)).mono ?_
  rintro e w5 ⟨a5, c5, rfl, oF, -, hb5⟩
  generalize hwF : w5.alloc (Obj.cells #[.int .i64 fd, .int .i64 fs, .int .i64 ft, .slice a5 l1 c5] 33) = wF
  have b5F : Below w5.heap.size w5 wF := by subst hwF; exact below_one _ _
  have kF : wF.heap[w5.heap.size]? = some (.cells #[.int .i64 fd, .int .i64 fs, .int .i64 ft, .slice a5 l1 c5] 33) := by rw [← hwF]; exact block_last _ _
  have hlt5 := oF.lt
  have dXF := gr_trans hb5 b5F
  have FB : Hid (∀ b, (Value.slice a5 l1 c5).ownBlock = some b → b < wF.heap.size) := hide (fun b hb => by have := (hlt5 b hb).2; have := b5F.size; omega)
  have GX5 : Hid (w4.heap.size ≤ w5.heap.size) := hide (Nat.le_trans GX0.out hb5.size)
  have GX : Hid (w4.heap.size ≤ wF.heap.size) := hide (Nat.le_trans GX0.out dXF.size)
  have SG : Hid (wS.heap.size ≤ wF.heap.size) := hide (Nat.le_trans SX.out dXF.size)
  have oF := own5_below oF b5F
  have tX := tX.below dXF
  have kX := kept_block kX dXF
  have pS := gr_trans pS dXF
  clear v0 v1 v2 v3 hb5 b5F hlt5 dXF
  go_upto_region 11 with fail
  try rw [hwF]
  clear hwF
  obtain ⟨y0, y1, y2, y3, y4, y5, y6, y7, y8, y9, y10⟩ := cells11 kX
  obtain ⟨⟨v0, v1, v2, v3⟩, -⟩ := cells4 kF
  go_wp2_with fail
  refine (implForward_made _ _ _ _ _ _ _ _ _ _ _ _ B0 port fd fs ft _ _ _ z1 _ tX.row (row_own oF h1.byte) (by omega) (by omega) (by omega) (by omega) (by omega) g0.f g0.v).mono ?_
  rw [HV.out, HOV.out]
  rintro e w6 ⟨a6, n6, c6, fa6, fn6, fc6, ra6, rn6, rc6, oa6, on6, oc6, aoG, cpG, LG, rfl, tG, oG, hMG, hb6⟩
  generalize hwG : w6.alloc (Obj.cells #[.int .i64 V.id, .string V.name, .slice a6 n6 c6, .slice fa6 fn6 fc6, .slice ra6 rn6 rc6, .slice oa6 on6 oc6, .int .i64 V.ticks, .int .i64 V.parse, .int .i64 V.word, .int .i64 V.drops, .int .i64 V.vers] 31) = wG
  have b6G : Below w6.heap.size w6 wG := by subst hwG; exact below_one _ _
  have kG : wG.heap[w6.heap.size]? = some (.cells #[.int .i64 V.id, .string V.name, .slice a6 n6 c6, .slice fa6 fn6 fc6, .slice ra6 rn6 rc6, .slice oa6 on6 oc6, .int .i64 V.ticks, .int .i64 V.parse, .int .i64 V.word, .int .i64 V.drops, .int .i64 V.vers] 31) := by rw [← hwG]; exact block_last _ _
  have GG : Hid (wF.heap.size ≤ w6.heap.size) := hide hb6.size
  have dFG := gr_trans hb6 b6G
  have tG := tG.below b6G
  have oG := oG.below b6G
  have tX := tX.below dFG
  have kX := kept_block kX dFG
  have oF := own5_below oF dFG
  have kF := kept_block kF dFG
  have pS := gr_trans pS dFG
  have xb : wF.heap.size ≤ wG.heap.size := dFG.size
  go_upto_region 12 with fail
  try rw [hwG]
  clear hwG b6G hb6 dFG y0 y1 y2 y3 y4 y5 y6 y7 y8 y9 y10 v0 v1 v2 v3
  generalize hgG : w6.heap.size = gG at *
  clear hgG
  have NG : Hid (n6 ≤ 16777216 ∧ fn6 ≤ 16777216 ∧ rn6 ≤ 16777216 ∧ on6 ≤ 16777216) := hide (by
   have e1 := tG.row.ports.size
   have e2 := tG.row.f.size
   have e3 := tG.row.v.rows.size
   have e4 := tG.row.v.own.size
   have d1 := h0.ports.size
   have d2 := h0.f.size
   have d3 := h0.v.rows.size
   have d4 := h0.v.own.size
   have l1' := HLE.out.1
   have l2 := HLE.out.2.2
   have l3 := HLE.out.2.1
   rw [l1'] at e1
   rw [l3] at e3 e4
   omega)
  obtain ⟨z0, z1, z2, z3, z4, z5, z6, z7, z8, z9, z10⟩ := cells11 kG
  obtain ⟨s0, s1, s2, s3, s4, s5, s6, s7, s8, s9, s10⟩ := cells11 (kept_block kS pS)
  go_wp2_with fail
  refine (eqBridge_same _ _ _ _ _ _ _ _ _ _ _ _ _ _ _ _ _ _ _ _ _ _ _ _ V _ tG.row (tS.below pS).row).mono ?_
  rintro e w8 ⟨rfl, hb⟩
  have pS := gr_trans pS hb
  have xb := Nat.le_trans xb hb.size
  have tX := tX.below hb
  have kX := kept_block kX hb
  have oF := own5_below oF hb
  have kF := kept_block kF hb
  have tG := tG.below hb
  have oG := oG.below hb
  have kG := kept_block kG hb
  clear hb z0 z1 z2 z3 z4 z5 z6 z7 z8 z9 z10 s0 s1 s2 s3 s4 s5 s6 s7 s8 s9 s10
  go_wp2_with fail
  refine (eqOuts_same _ _ _ _ _ _ _ _ _ (oG).grow (oG).rows (oS.below pS).grow (oS.below pS).rows (by rw [hMG, hMS])).mono ?_
  rintro e w8b ⟨rfl, hb⟩
  have pS := gr_trans pS hb
  have xb := Nat.le_trans xb hb.size
  have tX := tX.below hb
  have kX := kept_block kX hb
  have oF := own5_below oF hb
  have kF := kept_block kF hb
  have tG := tG.below hb
  have oG := oG.below hb
  have kG := kept_block kG hb
  clear hb
  have vv : Below w8b.heap.size w8b w8b.drew := gr_drew (Below.refl _ _)
  go_wp2_with fail
  refine wp_region_held_drew (S := (fun W => (W.cell? ⟨w.heap.size, 0, none⟩ = some (.int .i64 B0.id) ∧ W.cell? ⟨w.heap.size, 1, none⟩ = some (.string B0.name) ∧ W.cell? ⟨w.heap.size, 2, none⟩ = some (.slice a0 n0 c0) ∧ W.cell? ⟨w.heap.size, 3, none⟩ = some (.slice fa0 fn0 fc0) ∧ W.cell? ⟨w.heap.size, 4, none⟩ = some (.slice ra0 rn0 rc0) ∧ W.cell? ⟨w.heap.size, 5, none⟩ = some (.slice oa0 on0 oc0) ∧ W.cell? ⟨w.heap.size, 6, none⟩ = some (.int .i64 B0.ticks) ∧ W.cell? ⟨w.heap.size, 7, none⟩ = some (.int .i64 B0.parse) ∧ W.cell? ⟨w.heap.size, 8, none⟩ = some (.int .i64 B0.word) ∧ W.cell? ⟨w.heap.size, 9, none⟩ = some (.int .i64 B0.drops) ∧ W.cell? ⟨w.heap.size, 10, none⟩ = some (.int .i64 B0.vers)) ∧ (W.cell? ⟨w4.heap.size, 0, none⟩ = some (.int .i64 B0.id) ∧ W.cell? ⟨w4.heap.size, 1, none⟩ = some (.string B0.name) ∧ W.cell? ⟨w4.heap.size, 2, none⟩ = some (.slice a4 n0 c4) ∧ W.cell? ⟨w4.heap.size, 3, none⟩ = some (.slice fa4 fn0 fc4) ∧ W.cell? ⟨w4.heap.size, 4, none⟩ = some (.slice ra4 rn0 rc4) ∧ W.cell? ⟨w4.heap.size, 5, none⟩ = some (.slice oa4 on0 oc4) ∧ W.cell? ⟨w4.heap.size, 6, none⟩ = some (.int .i64 B0.ticks) ∧ W.cell? ⟨w4.heap.size, 7, none⟩ = some (.int .i64 B0.parse) ∧ W.cell? ⟨w4.heap.size, 8, none⟩ = some (.int .i64 B0.word) ∧ W.cell? ⟨w4.heap.size, 9, none⟩ = some (.int .i64 B0.drops) ∧ W.cell? ⟨w4.heap.size, 10, none⟩ = some (.int .i64 B0.vers)))) (by kernel_rfl) (⟨cells11 (kept_block kA (gr_trans pS vv)), cells11 (kept_block kX vv)⟩) (fun hHeld => ?_)
  refine tK (v := ?_) 0 ⟨some 59, .load 31 (.tmp 10), 31, "exact.go:4178", #[], none⟩ ?_ ?_
  rotate_left
  ·(intro _ h; (try dsimp only at h); go_simp; try with_reducible rfl)
  simp only [Act.put, lA, lB, lC]
  refine tK (v := ?_) 1 ⟨some 60, .load 60 (.tmp 3), 60, "exact.go:4178", #[], none⟩ ?_ ?_
  rotate_left
  ·(intro _ h; (try dsimp only at h); go_simp; try with_reducible rfl)
  simp only [Act.put, lA, lB, lC]
  refine tR [2] ?_
  refine AllReadyH.cons (o := ⟨some 61, .call ⟨.value (.func 25), #[.tmp 60], #[60]⟩, 31, "exact.go:4178", #[⟨1, .data⟩], none⟩) rfl (fun K hK => ?_) ?_
  ·go_simp
   refine (toBridge_made a0 n0 c0 fa0 fn0 fc0 ra0 rn0 rc0 oa0 on0 oc0 B0 _ (h0.below (gr_trans uS (gr_trans pS vv))) gn gf gr go).mono ?_
   rintro e wt ⟨a7, c7, fa7, fc7, ra7, rc7, oa7, oc7, rfl, t7, hb7⟩
   have vv := gr_trans vv hb7
   go_wp2_with fail
   refine hK.out _ _ (⟨cells11 (kept_block kA (gr_trans pS vv)), cells11 (kept_block kX vv)⟩) (fun hHeld => ?_)
   clear hK K
   try simp only [Act.put, lA, lB, lC]
   refine tR [3] ?_
   refine AllReadyH.cons (o := ⟨some 62, .call ⟨.value (.func 27), #[.tmp 59, .tmp 61], #[31, 31]⟩, 4, "exact.go:4178", #[⟨0, .data⟩, ⟨2, .data⟩, ⟨2, .chain⟩], none⟩) rfl (fun K hK => ?_) ?_
   ·go_simp
    refine (eqBridge_same _ _ _ _ _ _ _ _ _ _ _ _ _ _ _ _ _ _ _ _ _ _ _ _ B0 _ (tX.below vv).row t7.row).mono ?_
    rintro e wt ⟨rfl, hb8⟩
    have vv := gr_trans vv hb8
    clear t7
    go_wp2_with fail
    refine hK.out _ _ (⟨cells11 (kept_block kA (gr_trans pS vv)), cells11 (kept_block kX vv)⟩) (fun hHeld => ?_)
    clear hK K
    try simp only [Act.put, lA, lB, lC]
    refine tK (v := ?_) 4 ⟨some 63, .unOp .not 4 (.tmp 62), 4, "exact.go:4178", #[⟨3, .data⟩], none⟩ ?_ ?_
    rotate_left
    ·(intro _ h; (try dsimp only at h); go_simp; try with_reducible rfl)
    simp only [Act.put, lA, lB, lC]
    refine wpAnyH_done (by kernel_rfl) ?_ _
    have pS := gr_trans pS vv
    have xb := Nat.le_trans xb vv.size
    have tX := tX.below vv
    have kX := kept_block kX vv
    have oF := own5_below oF vv
    have kF := kept_block kF vv
    have tG := tG.below vv
    have oG := oG.below vv
    have kG := kept_block kG vv
    clear hHeld vv
    have vv := gr_drew (Below.refl _ wt)
    go_wp2_with fail
    refine wp_region_held_drew (S := (fun W => (W.cell? ⟨wA.heap.size, 0, none⟩ = some (.int .i64 fd) ∧ W.cell? ⟨wA.heap.size, 1, none⟩ = some (.int .i64 fs) ∧ W.cell? ⟨wA.heap.size, 2, none⟩ = some (.int .i64 ft) ∧ W.cell? ⟨wA.heap.size, 3, none⟩ = some (.slice a1 l1 c1)) ∧ (W.cell? ⟨w5.heap.size, 0, none⟩ = some (.int .i64 fd) ∧ W.cell? ⟨w5.heap.size, 1, none⟩ = some (.int .i64 fs) ∧ W.cell? ⟨w5.heap.size, 2, none⟩ = some (.int .i64 ft) ∧ W.cell? ⟨w5.heap.size, 3, none⟩ = some (.slice a5 l1 c5)))) (by kernel_rfl) (⟨(cells4 (kept_block kV (gr_trans pS vv))).1, (cells4 (kept_block kF vv)).1⟩) (fun hHeld => ?_)
    refine tK (v := ?_) 0 ⟨some 64, .load 33 (.tmp 11), 33, "exact.go:4181", #[], none⟩ ?_ ?_
    rotate_left
    ·(intro _ h; (try dsimp only at h); go_simp; try with_reducible rfl)
    simp only [Act.put, lA, lB, lC]
    refine tK (v := ?_) 1 ⟨some 65, .load 61 (.tmp 5), 61, "exact.go:4181", #[], none⟩ ?_ ?_
    rotate_left
    ·(intro _ h; (try dsimp only at h); go_simp; try with_reducible rfl)
    simp only [Act.put, lA, lB, lC]
    refine tR [2] ?_
    refine AllReadyH.cons (o := ⟨some 66, .call ⟨.value (.func 26), #[.tmp 65], #[61]⟩, 33, "exact.go:4181", #[⟨1, .data⟩], none⟩) rfl (fun K hK => ?_) ?_
    ·go_simp
     refine (toFrame_made fd fs ft a1 l1 c1 z1 _ (h1.below (gr_trans uS (gr_trans pS vv))) (by omega)).mono ?_
     rintro e wt ⟨a7, c7, rfl, -, r7, hb7⟩
     have vv := gr_trans vv hb7
     go_wp2_with fail
     refine hK.out _ _ (⟨(cells4 (kept_block kV (gr_trans pS vv))).1, (cells4 (kept_block kF vv)).1⟩) (fun hHeld => ?_)
     clear hK K
     try simp only [Act.put, lA, lB, lC]
     refine tR [3] ?_
     refine AllReadyH.cons (o := ⟨some 67, .call ⟨.value (.func 29), #[.tmp 64, .tmp 66], #[33, 33]⟩, 4, "exact.go:4181", #[⟨0, .data⟩, ⟨2, .data⟩, ⟨2, .chain⟩], none⟩) rfl (fun K hK => ?_) ?_
     ·go_simp
      refine (eqFrame_same fd fs ft a5 l1 c5 _ _ _ z1 _ (row_own (own5_below oF vv) h1.byte) r7).mono ?_
      rintro e wt ⟨rfl, hb8⟩
      have vv := gr_trans vv hb8
      clear r7
      go_wp2_with fail
      refine hK.out _ _ (⟨(cells4 (kept_block kV (gr_trans pS vv))).1, (cells4 (kept_block kF vv)).1⟩) (fun hHeld => ?_)
      clear hK K
      try simp only [Act.put, lA, lB, lC]
      refine tK (v := ?_) 4 ⟨some 68, .unOp .not 4 (.tmp 67), 4, "exact.go:4181", #[⟨3, .data⟩], none⟩ ?_ ?_
      rotate_left
      ·(intro _ h; (try dsimp only at h); go_simp; try with_reducible rfl)
      simp only [Act.put, lA, lB, lC]
      refine wpAnyH_done (by kernel_rfl) ?_ _
      have pS := gr_trans pS vv
      have xb := Nat.le_trans xb vv.size
      have tX := tX.below vv
      have kX := kept_block kX vv
      have oF := own5_below oF vv
      have kF := kept_block kF vv
      have tG := tG.below vv
      have oG := oG.below vv
      have kG := kept_block kG vv
      clear hHeld vv
      obtain ⟨y0, y1, y2, y3, y4, y5, y6, y7, y8, y9, y10⟩ := cells11 kX
      go_wp2_with fail
      refine (markBridge_from 1 (by omega) (by omega) _ w4.heap.size _ _ _ _ _ _ _ _ _ _ _ _ B0 _ tX pS.size EX.out (by omega) (by omega) (by omega) (by omega)).mono ?_
      rintro e w9 ⟨rfl, -, bt⟩
      have pS := pS.trans bt.below
      have xb := Nat.le_trans xb bt.below.size
      have tG := tG.between bt GX.out
      have oG := oG.between bt GX.out
      have oF := bt.own oF GX0.out
      have kF : w9.heap[w5.heap.size]? = _ := (bt.block _ (Array.getElem?_eq_some_iff.1 kF).1 GX5.out).trans kF
      have kG : w9.heap[gG]? = _ := (bt.block _ (Array.getElem?_eq_some_iff.1 kG).1 (Nat.le_trans GX.out GG.out)).trans kG
      clear tX bt y0 y1 y2 y3 y4 y5 y6 y7 y8 y9 y10 kX
      generalize hK1 : (1 : Int) + 8 * (n0 : Int) + 5 * (fn0 : Int) + 3 * (rn0 : Int) + (on0 : Int) = K1
      have hk1a : 0 ≤ K1 := by omega
      have hk1b : K1 ≤ 100000000 := by omega
      clear hK1
      obtain ⟨⟨v0, v1, v2, v3⟩, -⟩ := cells4 kF
      go_wp2_with fail
      refine (markFrame_grown fd fs ft _ a5 l1 c5 z1 K1 _ oF (by omega) hk1a (by omega)).mono ?_
      rintro e w9b ⟨rfl, -, hg⟩
      have hlt := oF.lt
      have pS := pS.trans ((Below.refl _ _).grown hg pS.size (fun k hk => Nat.le_trans SX.out (hlt k hk).1))
      have xb := Nat.le_trans xb hg.size
      have tG := tG.apart hg (fun b hb => FB.out b hb)
      have oG := oG.aged hg (fun b hb => FB.out b hb)
      have kG := kept_grown kG hg (fun i e => by have h1 := FB.out i e; have h2 := GG.out; omega)
      clear hg hlt oF kF v0 v1 v2 v3
      have hk2 : ¬ (K1 + (l1 : Int) < 0) := by omega
      obtain ⟨s0, s1, s2, s3, s4, s5, s6, s7, s8, s9, s10⟩ := cells11 (kept_block kS pS)
      obtain ⟨z0, z1, z2, z3, z4, z5, z6, z7, z8, z9, z10⟩ := cells11 kG
      go_wp2_with fail
      refine (eqBridge_same _ _ _ _ _ _ _ _ _ _ _ _ _ _ _ _ _ _ _ _ _ _ _ _ V _ tG.row (tS.below pS).row).mono ?_
      rintro e w10 ⟨rfl, hb⟩
      have pS := gr_trans pS hb
      have xb := Nat.le_trans xb hb.size
      have tG := tG.below hb
      have oG := oG.below hb
      have kG := kept_block kG hb
      clear hb s0 s1 s2 s3 s4 s5 s6 s7 s8 s9 s10 z0 z1 z2 z3 z4 z5 z6 z7 z8 z9 z10
      go_wp2_with fail
      refine (eqOuts_same _ _ _ _ _ _ _ _ _ (oG).grow (oG).rows (oS.below pS).grow (oS.below pS).rows (by rw [hMG, hMS])).mono ?_
      rintro e w10b ⟨rfl, hb⟩
      have pS := gr_trans pS hb
      have xb := Nat.le_trans xb hb.size
      have tG := tG.below hb
      have oG := oG.below hb
      have kG := kept_block kG hb
      clear hb
      obtain ⟨z0, z1, z2, z3, z4, z5, z6, z7, z8, z9, z10⟩ := cells11 kG
      go_wp2_with fail
      refine (markBridge_other 1 (by omega) (by omega) _ w10b.heap.size _ _ _ _ _ _ _ _ _ _ _ _ V _ tG xb tG.under NG.out.1 NG.out.2.1 NG.out.2.2.1 NG.out.2.2.2).mono ?_
      rintro e w11 ⟨rfl, tM, bt, hbox⟩
      have pS := pS.trans (bt.below.mono SG.out)
      have xb := Nat.le_trans xb bt.below.size
      have kG := hbox _ _ _ (by decide) (by decide) (by decide) (by decide) kG
      have oG := oG.other hbox
      clear tG bt z0 z1 z2 z3 z4 z5 z6 z7 z8 z9 z10 hbox
      obtain ⟨M1, hM1⟩ : ∃ M : Int, M = (1 : Int) + 8 * (n6 : Int) + 5 * (fn6 : Int) + 3 * (rn6 : Int) + (on6 : Int) := ⟨_, rfl⟩
      have hm1a : 0 < M1 := by omega
      have hm1b : M1 ≤ 1000000000 := by have := NG.out; omega
      rw [← hM1]
      have HM1 := hide hM1.symm
      clear hM1
      have OSZ := hide (outs_sizes oG (hMG.trans HOV.out.symm) (by have := h1.size; omega))
      have hend := (endOs_le LG M1).1
      go_wp2_with fail
      refine (markOuts_grown _ aoG LG.length cpG LG M1 _ oG OSZ.out.1 OSZ.out.2 hm1a (by omega)).mono ?_
      rintro e w12 ⟨rfl, oM, hon⟩
      have tM := tM.outs oG hon
      have kG := hon.kept kG (fun hc => oG.ne kG (by decide) (by decide) _ hc (by simp))
      have pS := pS.trans (hon.below pS.size (fun b hb => Nat.le_trans SG.out (oG.blk b hb).1))
      clear oG hon
      generalize hEO : endOs M1 LG = EO at *
      have HEO := hide hEO
      have heo0 : ¬ (EO < 0) := by omega
      have hm0 : ¬ (M1 < 0) := by omega
      clear hEO
      obtain ⟨z0, z1, z2, z3, z4, z5, z6, z7, z8, z9, z10⟩ := cells11 kG
      go_wp2_with fail
      refine (heldBridge_from 1 (by omega) (by omega) _ _ _ _ _ _ _ _ _ _ _ _ V _ tM.row NG.out.1 NG.out.2.1 NG.out.2.2.1 NG.out.2.2.2).mono ?_
      rintro e wh1 ⟨rfl, hb⟩
      have pS := gr_trans pS hb
      have tM := tM.below hb
      have oM := oM.below hb
      have kG := kept_block kG hb
      clear hb z0 z1 z2 z3 z4 z5 z6 z7 z8 z9 z10
      rw [HM1.out]
      go_wp2_with fail
      refine (heldOuts_any aoG LG.length cpG LG M1 _ oM.grow oM.rows OSZ.out.1 OSZ.out.2 (by omega) (by omega)).mono ?_
      rintro e wh2 ⟨rfl, hb⟩
      have pS := gr_trans pS hb
      have tM := tM.below hb
      have oM := oM.below hb
      have kG := kept_block kG hb
      clear hb
      rw [HEO.out]
      have uB : Below w.heap.size w wh2 := gr_trans uS pS
      have kA := kept_block kA pS
      have kV := kept_block kV pS
      go_upto_region 35 with fail
      go_cut [17, 18] from 19 to 139 (fun s t wx => ∃ (g : Nat) (a3 : Option Addr) (n3 c3 : Nat) (fa3 : Option Addr) (fn3 fc3 : Nat) (ra3 : Option Addr) (rn3 rc3 : Nat) (oa3 : Option Addr) (on3 oc3 : Nat) (ao3 : Option Addr) (cp3 : Nat) (L3 : List OI), s = .pointer (some ⟨g, 0, none⟩) ∧ t = .slice ao3 L3.length cp3 ∧ wh2.heap.size ≤ g ∧ wx.heap[g]? = some (.cells #[.int .i64 V.id, .string V.name, .slice a3 n3 c3, .slice fa3 fn3 fc3, .slice ra3 rn3 rc3, .slice oa3 on3 oc3, .int .i64 V.ticks, .int .i64 V.parse, .int .i64 V.word, .int .i64 V.drops, .int .i64 V.vers] 31) ∧ BrOwn wx wh2.heap.size a3 n3 c3 fa3 fn3 fc3 ra3 rn3 rc3 oa3 on3 oc3 V ∧ OOwns wx wh2.heap.size ao3 L3.length cp3 L3 ∧ L3.map OI.v = OV ∧ Below wh2.heap.size wh2 wx)
      case first =>
       have vv : Below wh2.heap.size wh2 wh2.drew := gr_drew (Below.refl _ _)
       go_wp2_with fail
       refine wp_region_held_drew (S := (fun W => (W.cell? ⟨w.heap.size, 0, none⟩ = some (.int .i64 B0.id) ∧ W.cell? ⟨w.heap.size, 1, none⟩ = some (.string B0.name) ∧ W.cell? ⟨w.heap.size, 2, none⟩ = some (.slice a0 n0 c0) ∧ W.cell? ⟨w.heap.size, 3, none⟩ = some (.slice fa0 fn0 fc0) ∧ W.cell? ⟨w.heap.size, 4, none⟩ = some (.slice ra0 rn0 rc0) ∧ W.cell? ⟨w.heap.size, 5, none⟩ = some (.slice oa0 on0 oc0) ∧ W.cell? ⟨w.heap.size, 6, none⟩ = some (.int .i64 B0.ticks) ∧ W.cell? ⟨w.heap.size, 7, none⟩ = some (.int .i64 B0.parse) ∧ W.cell? ⟨w.heap.size, 8, none⟩ = some (.int .i64 B0.word) ∧ W.cell? ⟨w.heap.size, 9, none⟩ = some (.int .i64 B0.drops) ∧ W.cell? ⟨w.heap.size, 10, none⟩ = some (.int .i64 B0.vers)) ∧ (W.cell? ⟨wA.heap.size, 0, none⟩ = some (.int .i64 fd) ∧ W.cell? ⟨wA.heap.size, 1, none⟩ = some (.int .i64 fs) ∧ W.cell? ⟨wA.heap.size, 2, none⟩ = some (.int .i64 ft) ∧ W.cell? ⟨wA.heap.size, 3, none⟩ = some (.slice a1 l1 c1)))) (by kernel_rfl) (⟨cells11 (kept_block kA vv), (cells4 (kept_block kV vv)).1⟩) (fun hHeld => ?_)
       refine tK (v := ?_) 0 ⟨some 109, .load 60 (.tmp 3), 60, "exact.go:4205", #[], none⟩ ?_ ?_
       rotate_left
       ·(intro _ h; (try dsimp only at h); go_simp; try with_reducible rfl)
       simp only [Act.put, lA, lB, lC]
       refine tK (v := ?_) 2 ⟨some 111, .move (.tmp 1), 3, "exact.go:4205", #[], none⟩ ?_ ?_
       rotate_left
       ·(intro _ h; (try dsimp only at h); go_simp; try with_reducible rfl)
       simp only [Act.put, lA, lB, lC]
       refine tK (v := ?_) 3 ⟨some 112, .load 61 (.tmp 5), 61, "exact.go:4205", #[], none⟩ ?_ ?_
       rotate_left
       ·(intro _ h; (try dsimp only at h); go_simp; try with_reducible rfl)
       simp only [Act.put, lA, lB, lC]
       refine tR [1, 9] ?_
       refine AllReadyH.cons (o := q316) rfl (fun K hK => ?_) ?_
       ·go_simp
        refine (toBridge_made a0 n0 c0 fa0 fn0 fc0 ra0 rn0 rc0 oa0 on0 oc0 B0 _ (h0.below (gr_trans uB vv)) gn gf gr go).mono ?_
        rintro e wx ⟨a2, c2, fa2, fc2, ra2, rc2, oa2, oc2, rfl, t2, hbx⟩
        try have rF := rF.below hbx
        try have kB := kept_block kB hbx
        have vv := gr_trans vv hbx
        clear hbx
        go_wp2_with fail
        refine hK.out _ _ (⟨cells11 (kept_block kA vv), (cells4 (kept_block kV vv)).1⟩) (fun hHeld => ?_)
        clear hK K
        try simp only [Act.put, lA, lB, lC]
        refine tR [4, 9] ?_
        refine AllReadyH.cons (o := q317) rfl (fun K hK => ?_) ?_
        ·go_simp
         refine (toFrame_made fd fs ft a1 l1 c1 z1 _ (h1.below (gr_trans uB vv)) (by omega)).mono ?_
         rintro e wx ⟨ap, cq, rfl, -, rF, hbx⟩
         try have t2 := t2.below hbx
         try have kB := kept_block kB hbx
         have vv := gr_trans vv hbx
         clear hbx
         go_wp2_with fail
         refine hK.out _ _ (⟨cells11 (kept_block kA vv), (cells4 (kept_block kV vv)).1⟩) (fun hHeld => ?_)
         clear hK K
         try simp only [Act.put, lA, lB, lC]
         refine tR [5, 9] ?_
         refine AllReadyH.cons (o := q318) rfl (fun K hK => ?_) ?_
         ·go_simp
          refine (implForward_made _ _ _ _ _ _ _ _ _ _ _ _ B0 port fd fs ft _ _ _ z1 _ t2.row rF (by omega) (by omega) (by omega) (by omega) (by omega) g0.f g0.v).mono ?_
          rw [HV.out, HOV.out]
          rintro e wx ⟨a3, n3, c3, fa3, fn3, fc3, ra3, rn3, rc3, oa3, on3, oc3, ao3, cp3, L3, rfl, t3, oL, hM, hbx⟩
          have t3 := t3.lt (base' := wh2.heap.size) vv.size
          have oL := oL.lt (base' := wh2.heap.size) vv.size
          try have kB := kept_block kB hbx
          have vv := gr_trans vv hbx
          clear hbx
          go_wp2_with fail
          refine hK.out _ _ (⟨cells11 (kept_block kA vv), (cells4 (kept_block kV vv)).1⟩) (fun hHeld => ?_)
          clear hK K
          try simp only [Act.put, lA, lB, lC]
          refine tK (v := ?_) 6 q319 ?_ ?_
          rotate_left
          ·(intro _ h; (try dsimp only at h); go_simp; try with_reducible rfl)
          simp only [Act.put, lA, lB, lC]
          refine tK (v := ?_) 7 q320 ?_ ?_
          rotate_left
          ·(intro _ h; (try dsimp only at h); go_simp; try with_reducible rfl)
          simp only [Act.put, lA, lB, lC]
          refine tK (v := ?_) 8 q321 ?_ ?_
          rotate_left
          ·(intro _ h; (try dsimp only at h); go_simp; try with_reducible rfl)
          simp only [Act.put, lA, lB, lC]
          refine tR [9] ?_
          refine AllReadyH.cons (o := q322) rfl (fun K hK => ?_) ?_
          ·go_simp
           first
           | refine made_new (K := K _) (fun wx kB hbx => ?_)
           | refine made_drew (K := K _) (fun wx kB hbx => ?_)
           have gB := vv.size
           try have t2 := t2.below hbx
           try have rF := rF.below hbx
           try have t3 := t3.below hbx
           try have oL := oL.below hbx
           have vv := gr_trans vv hbx
           clear hbx
           refine hK.out _ _ (⟨cells11 (kept_block kA vv), (cells4 (kept_block kV vv)).1⟩) (fun hHeld => ?_)
           clear hK K
           try simp only [Act.put, lA, lB, lC]
           refine tR [10] ?_
           refine AllReadyH.cons (o := q323) rfl (fun K hK => ?_) ?_
           ·obtain ⟨b0, b1, b2, b3, b4, b5, b6, b7, b8, b9, b10⟩ := cells11 kB
            have fr := frozen8 kB
            have fr0 := fr 0
            have fr1 := fr 1
            have fr2 := fr 2
            have fr3 := fr 3
            have fr4 := fr 4
            have fr5 := fr 5
            have fr6 := fr 6
            have fr7 := fr 7
            have fr8 := fr 8
            have fr9 := fr 9
            have fr10 := fr 10
            go_simp
            clear b0 b1 b2 b3 b4 b5 b6 b7 b8 b9 b10 fr0 fr1 fr2 fr3 fr4 fr5 fr6 fr7 fr8 fr9 fr10 fr
            have vv := below_set11 vv gB (.int .i64 V.id) (.string V.name) (.slice a3 n3 c3) (.slice fa3 fn3 fc3) (.slice ra3 rn3 rc3) (.slice oa3 on3 oc3) (.int .i64 V.ticks) (.int .i64 V.parse) (.int .i64 V.word) (.int .i64 V.drops) (.int .i64 V.vers)
            have t3 := t3.boxed11 kB (.int .i64 V.id) (.string V.name) (.slice a3 n3 c3) (.slice fa3 fn3 fc3) (.slice ra3 rn3 rc3) (.slice oa3 on3 oc3) (.int .i64 V.ticks) (.int .i64 V.parse) (.int .i64 V.word) (.int .i64 V.drops) (.int .i64 V.vers)
            have oL := oL.put11 kB (by decide) (by decide) (.int .i64 V.id) (.string V.name) (.slice a3 n3 c3) (.slice fa3 fn3 fc3) (.slice ra3 rn3 rc3) (.slice oa3 on3 oc3) (.int .i64 V.ticks) (.int .i64 V.parse) (.int .i64 V.word) (.int .i64 V.drops) (.int .i64 V.vers)
            have kB := set_box11B kB (.int .i64 V.id) (.string V.name) (.slice a3 n3 c3) (.slice fa3 fn3 fc3) (.slice ra3 rn3 rc3) (.slice oa3 on3 oc3) (.int .i64 V.ticks) (.int .i64 V.parse) (.int .i64 V.word) (.int .i64 V.drops) (.int .i64 V.vers)
            refine hK.out _ _ (⟨cells11 (kept_block kA vv), (cells4 (kept_block kV vv)).1⟩) (fun hHeld => ?_)
            clear hK K
            try simp only [Act.put, lA, lB, lC]
            refine tK (v := ?_) 11 q324 ?_ ?_
            rotate_left
            ·(intro _ h; (try dsimp only at h); go_simp; try with_reducible rfl)
            simp only [Act.put, lA, lB, lC]
            refine wpAnyH_done (by kernel_rfl) ?_ _
            clear hHeld
            go_wp2_with fail
            go_meet
            exact ⟨_, a3, n3, c3, fa3, fn3, fc3, ra3, rn3, rc3, oa3, on3, oc3, ao3, cp3, L3, rfl, rfl, gB, kB, t3, oL, hM, vv⟩
           exact AllReadyH.nil
          exact AllReadyH.nil
         refine AllReadyH.cons (o := q322) rfl (fun K hK => ?_) ?_
         ·go_simp
          first
          | refine made_new (K := K _) (fun wx kB hbx => ?_)
          | refine made_drew (K := K _) (fun wx kB hbx => ?_)
          have gB := vv.size
          try have t2 := t2.below hbx
          try have rF := rF.below hbx
          try have t3 := t3.below hbx
          try have oL := oL.below hbx
          have vv := gr_trans vv hbx
          clear hbx
          refine hK.out _ _ (⟨cells11 (kept_block kA vv), (cells4 (kept_block kV vv)).1⟩) (fun hHeld => ?_)
          clear hK K
          try simp only [Act.put, lA, lB, lC]
          refine tR [5] ?_
          refine AllReadyH.cons (o := q318) rfl (fun K hK => ?_) ?_
          ·go_simp
           refine (implForward_made _ _ _ _ _ _ _ _ _ _ _ _ B0 port fd fs ft _ _ _ z1 _ t2.row rF (by omega) (by omega) (by omega) (by omega) (by omega) g0.f g0.v).mono ?_
           rw [HV.out, HOV.out]
           rintro e wx ⟨a3, n3, c3, fa3, fn3, fc3, ra3, rn3, rc3, oa3, on3, oc3, ao3, cp3, L3, rfl, t3, oL, hM, hbx⟩
           have t3 := t3.lt (base' := wh2.heap.size) vv.size
           have oL := oL.lt (base' := wh2.heap.size) vv.size
           try have kB := kept_block kB hbx
           have vv := gr_trans vv hbx
           clear hbx
           go_wp2_with fail
           refine hK.out _ _ (⟨cells11 (kept_block kA vv), (cells4 (kept_block kV vv)).1⟩) (fun hHeld => ?_)
           clear hK K
           try simp only [Act.put, lA, lB, lC]
           refine tK (v := ?_) 6 q319 ?_ ?_
           rotate_left
           ·(intro _ h; (try dsimp only at h); go_simp; try with_reducible rfl)
           simp only [Act.put, lA, lB, lC]
           refine tK (v := ?_) 7 q320 ?_ ?_
           rotate_left
           ·(intro _ h; (try dsimp only at h); go_simp; try with_reducible rfl)
           simp only [Act.put, lA, lB, lC]
           refine tK (v := ?_) 8 q321 ?_ ?_
           rotate_left
           ·(intro _ h; (try dsimp only at h); go_simp; try with_reducible rfl)
           simp only [Act.put, lA, lB, lC]
           refine tR [10] ?_
           refine AllReadyH.cons (o := q323) rfl (fun K hK => ?_) ?_
           ·obtain ⟨b0, b1, b2, b3, b4, b5, b6, b7, b8, b9, b10⟩ := cells11 kB
            have fr := frozen8 kB
            have fr0 := fr 0
            have fr1 := fr 1
            have fr2 := fr 2
            have fr3 := fr 3
            have fr4 := fr 4
            have fr5 := fr 5
            have fr6 := fr 6
            have fr7 := fr 7
            have fr8 := fr 8
            have fr9 := fr 9
            have fr10 := fr 10
            go_simp
            clear b0 b1 b2 b3 b4 b5 b6 b7 b8 b9 b10 fr0 fr1 fr2 fr3 fr4 fr5 fr6 fr7 fr8 fr9 fr10 fr
            have vv := below_set11 vv gB (.int .i64 V.id) (.string V.name) (.slice a3 n3 c3) (.slice fa3 fn3 fc3) (.slice ra3 rn3 rc3) (.slice oa3 on3 oc3) (.int .i64 V.ticks) (.int .i64 V.parse) (.int .i64 V.word) (.int .i64 V.drops) (.int .i64 V.vers)
            have t3 := t3.boxed11 kB (.int .i64 V.id) (.string V.name) (.slice a3 n3 c3) (.slice fa3 fn3 fc3) (.slice ra3 rn3 rc3) (.slice oa3 on3 oc3) (.int .i64 V.ticks) (.int .i64 V.parse) (.int .i64 V.word) (.int .i64 V.drops) (.int .i64 V.vers)
            have oL := oL.put11 kB (by decide) (by decide) (.int .i64 V.id) (.string V.name) (.slice a3 n3 c3) (.slice fa3 fn3 fc3) (.slice ra3 rn3 rc3) (.slice oa3 on3 oc3) (.int .i64 V.ticks) (.int .i64 V.parse) (.int .i64 V.word) (.int .i64 V.drops) (.int .i64 V.vers)
            have kB := set_box11B kB (.int .i64 V.id) (.string V.name) (.slice a3 n3 c3) (.slice fa3 fn3 fc3) (.slice ra3 rn3 rc3) (.slice oa3 on3 oc3) (.int .i64 V.ticks) (.int .i64 V.parse) (.int .i64 V.word) (.int .i64 V.drops) (.int .i64 V.vers)
            refine hK.out _ _ (⟨cells11 (kept_block kA vv), (cells4 (kept_block kV vv)).1⟩) (fun hHeld => ?_)
            clear hK K
            try simp only [Act.put, lA, lB, lC]
            refine tK (v := ?_) 11 q324 ?_ ?_
            rotate_left
            ·(intro _ h; (try dsimp only at h); go_simp; try with_reducible rfl)
            simp only [Act.put, lA, lB, lC]
            refine wpAnyH_done (by kernel_rfl) ?_ _
            clear hHeld
            go_wp2_with fail
            go_meet
            exact ⟨_, a3, n3, c3, fa3, fn3, fc3, ra3, rn3, rc3, oa3, on3, oc3, ao3, cp3, L3, rfl, rfl, gB, kB, t3, oL, hM, vv⟩
           exact AllReadyH.nil
          exact AllReadyH.nil
         exact AllReadyH.nil
        refine AllReadyH.cons (o := q322) rfl (fun K hK => ?_) ?_
        ·go_simp
         first
         | refine made_new (K := K _) (fun wx kB hbx => ?_)
         | refine made_drew (K := K _) (fun wx kB hbx => ?_)
         have gB := vv.size
         try have t2 := t2.below hbx
         try have rF := rF.below hbx
         try have t3 := t3.below hbx
         try have oL := oL.below hbx
         have vv := gr_trans vv hbx
         clear hbx
         refine hK.out _ _ (⟨cells11 (kept_block kA vv), (cells4 (kept_block kV vv)).1⟩) (fun hHeld => ?_)
         clear hK K
         try simp only [Act.put, lA, lB, lC]
         refine tR [4] ?_
         refine AllReadyH.cons (o := q317) rfl (fun K hK => ?_) ?_
         ·go_simp
          refine (toFrame_made fd fs ft a1 l1 c1 z1 _ (h1.below (gr_trans uB vv)) (by omega)).mono ?_
          rintro e wx ⟨ap, cq, rfl, -, rF, hbx⟩
          try have t2 := t2.below hbx
          try have kB := kept_block kB hbx
          have vv := gr_trans vv hbx
          clear hbx
          go_wp2_with fail
          refine hK.out _ _ (⟨cells11 (kept_block kA vv), (cells4 (kept_block kV vv)).1⟩) (fun hHeld => ?_)
          clear hK K
          try simp only [Act.put, lA, lB, lC]
          refine tR [5] ?_
          refine AllReadyH.cons (o := q318) rfl (fun K hK => ?_) ?_
          ·go_simp
           refine (implForward_made _ _ _ _ _ _ _ _ _ _ _ _ B0 port fd fs ft _ _ _ z1 _ t2.row rF (by omega) (by omega) (by omega) (by omega) (by omega) g0.f g0.v).mono ?_
           rw [HV.out, HOV.out]
           rintro e wx ⟨a3, n3, c3, fa3, fn3, fc3, ra3, rn3, rc3, oa3, on3, oc3, ao3, cp3, L3, rfl, t3, oL, hM, hbx⟩
           have t3 := t3.lt (base' := wh2.heap.size) vv.size
           have oL := oL.lt (base' := wh2.heap.size) vv.size
           try have kB := kept_block kB hbx
           have vv := gr_trans vv hbx
           clear hbx
           go_wp2_with fail
           refine hK.out _ _ (⟨cells11 (kept_block kA vv), (cells4 (kept_block kV vv)).1⟩) (fun hHeld => ?_)
           clear hK K
           try simp only [Act.put, lA, lB, lC]
           refine tK (v := ?_) 6 q319 ?_ ?_
           rotate_left
           ·(intro _ h; (try dsimp only at h); go_simp; try with_reducible rfl)
           simp only [Act.put, lA, lB, lC]
           refine tK (v := ?_) 7 q320 ?_ ?_
           rotate_left
           ·(intro _ h; (try dsimp only at h); go_simp; try with_reducible rfl)
           simp only [Act.put, lA, lB, lC]
           refine tK (v := ?_) 8 q321 ?_ ?_
           rotate_left
           ·(intro _ h; (try dsimp only at h); go_simp; try with_reducible rfl)
           simp only [Act.put, lA, lB, lC]
           refine tR [10] ?_
           refine AllReadyH.cons (o := q323) rfl (fun K hK => ?_) ?_
           ·obtain ⟨b0, b1, b2, b3, b4, b5, b6, b7, b8, b9, b10⟩ := cells11 kB
            have fr := frozen8 kB
            have fr0 := fr 0
            have fr1 := fr 1
            have fr2 := fr 2
            have fr3 := fr 3
            have fr4 := fr 4
            have fr5 := fr 5
            have fr6 := fr 6
            have fr7 := fr 7
            have fr8 := fr 8
            have fr9 := fr 9
            have fr10 := fr 10
            go_simp
            clear b0 b1 b2 b3 b4 b5 b6 b7 b8 b9 b10 fr0 fr1 fr2 fr3 fr4 fr5 fr6 fr7 fr8 fr9 fr10 fr
            have vv := below_set11 vv gB (.int .i64 V.id) (.string V.name) (.slice a3 n3 c3) (.slice fa3 fn3 fc3) (.slice ra3 rn3 rc3) (.slice oa3 on3 oc3) (.int .i64 V.ticks) (.int .i64 V.parse) (.int .i64 V.word) (.int .i64 V.drops) (.int .i64 V.vers)
            have t3 := t3.boxed11 kB (.int .i64 V.id) (.string V.name) (.slice a3 n3 c3) (.slice fa3 fn3 fc3) (.slice ra3 rn3 rc3) (.slice oa3 on3 oc3) (.int .i64 V.ticks) (.int .i64 V.parse) (.int .i64 V.word) (.int .i64 V.drops) (.int .i64 V.vers)
            have oL := oL.put11 kB (by decide) (by decide) (.int .i64 V.id) (.string V.name) (.slice a3 n3 c3) (.slice fa3 fn3 fc3) (.slice ra3 rn3 rc3) (.slice oa3 on3 oc3) (.int .i64 V.ticks) (.int .i64 V.parse) (.int .i64 V.word) (.int .i64 V.drops) (.int .i64 V.vers)
            have kB := set_box11B kB (.int .i64 V.id) (.string V.name) (.slice a3 n3 c3) (.slice fa3 fn3 fc3) (.slice ra3 rn3 rc3) (.slice oa3 on3 oc3) (.int .i64 V.ticks) (.int .i64 V.parse) (.int .i64 V.word) (.int .i64 V.drops) (.int .i64 V.vers)
            refine hK.out _ _ (⟨cells11 (kept_block kA vv), (cells4 (kept_block kV vv)).1⟩) (fun hHeld => ?_)
            clear hK K
            try simp only [Act.put, lA, lB, lC]
            refine tK (v := ?_) 11 q324 ?_ ?_
            rotate_left
            ·(intro _ h; (try dsimp only at h); go_simp; try with_reducible rfl)
            simp only [Act.put, lA, lB, lC]
            refine wpAnyH_done (by kernel_rfl) ?_ _
            clear hHeld
            go_wp2_with fail
            go_meet
            exact ⟨_, a3, n3, c3, fa3, fn3, fc3, ra3, rn3, rc3, oa3, on3, oc3, ao3, cp3, L3, rfl, rfl, gB, kB, t3, oL, hM, vv⟩
           exact AllReadyH.nil
          exact AllReadyH.nil
         exact AllReadyH.nil
        exact AllReadyH.nil
       refine AllReadyH.cons (o := q322) rfl (fun K hK => ?_) ?_
       ·go_simp
        first
        | refine made_new (K := K _) (fun wx kB hbx => ?_)
        | refine made_drew (K := K _) (fun wx kB hbx => ?_)
        have gB := vv.size
        try have t2 := t2.below hbx
        try have rF := rF.below hbx
        try have t3 := t3.below hbx
        try have oL := oL.below hbx
        have vv := gr_trans vv hbx
        clear hbx
        refine hK.out _ _ (⟨cells11 (kept_block kA vv), (cells4 (kept_block kV vv)).1⟩) (fun hHeld => ?_)
        clear hK K
        try simp only [Act.put, lA, lB, lC]
        refine tR [1] ?_
        refine AllReadyH.cons (o := q316) rfl (fun K hK => ?_) ?_
        ·go_simp
         refine (toBridge_made a0 n0 c0 fa0 fn0 fc0 ra0 rn0 rc0 oa0 on0 oc0 B0 _ (h0.below (gr_trans uB vv)) gn gf gr go).mono ?_
         rintro e wx ⟨a2, c2, fa2, fc2, ra2, rc2, oa2, oc2, rfl, t2, hbx⟩
         try have rF := rF.below hbx
         try have kB := kept_block kB hbx
         have vv := gr_trans vv hbx
         clear hbx
         go_wp2_with fail
         refine hK.out _ _ (⟨cells11 (kept_block kA vv), (cells4 (kept_block kV vv)).1⟩) (fun hHeld => ?_)
         clear hK K
         try simp only [Act.put, lA, lB, lC]
         refine tR [4] ?_
         refine AllReadyH.cons (o := q317) rfl (fun K hK => ?_) ?_
         ·go_simp
          refine (toFrame_made fd fs ft a1 l1 c1 z1 _ (h1.below (gr_trans uB vv)) (by omega)).mono ?_
          rintro e wx ⟨ap, cq, rfl, -, rF, hbx⟩
          try have t2 := t2.below hbx
          try have kB := kept_block kB hbx
          have vv := gr_trans vv hbx
          clear hbx
          go_wp2_with fail
          refine hK.out _ _ (⟨cells11 (kept_block kA vv), (cells4 (kept_block kV vv)).1⟩) (fun hHeld => ?_)
          clear hK K
          try simp only [Act.put, lA, lB, lC]
          refine tR [5] ?_
          refine AllReadyH.cons (o := q318) rfl (fun K hK => ?_) ?_
          ·go_simp
           refine (implForward_made _ _ _ _ _ _ _ _ _ _ _ _ B0 port fd fs ft _ _ _ z1 _ t2.row rF (by omega) (by omega) (by omega) (by omega) (by omega) g0.f g0.v).mono ?_
           rw [HV.out, HOV.out]
           rintro e wx ⟨a3, n3, c3, fa3, fn3, fc3, ra3, rn3, rc3, oa3, on3, oc3, ao3, cp3, L3, rfl, t3, oL, hM, hbx⟩
           have t3 := t3.lt (base' := wh2.heap.size) vv.size
           have oL := oL.lt (base' := wh2.heap.size) vv.size
           try have kB := kept_block kB hbx
           have vv := gr_trans vv hbx
           clear hbx
           go_wp2_with fail
           refine hK.out _ _ (⟨cells11 (kept_block kA vv), (cells4 (kept_block kV vv)).1⟩) (fun hHeld => ?_)
           clear hK K
           try simp only [Act.put, lA, lB, lC]
           refine tK (v := ?_) 6 q319 ?_ ?_
           rotate_left
           ·(intro _ h; (try dsimp only at h); go_simp; try with_reducible rfl)
           simp only [Act.put, lA, lB, lC]
           refine tK (v := ?_) 7 q320 ?_ ?_
           rotate_left
           ·(intro _ h; (try dsimp only at h); go_simp; try with_reducible rfl)
           simp only [Act.put, lA, lB, lC]
           refine tK (v := ?_) 8 q321 ?_ ?_
           rotate_left
           ·(intro _ h; (try dsimp only at h); go_simp; try with_reducible rfl)
           simp only [Act.put, lA, lB, lC]
           refine tR [10] ?_
           refine AllReadyH.cons (o := q323) rfl (fun K hK => ?_) ?_
           ·obtain ⟨b0, b1, b2, b3, b4, b5, b6, b7, b8, b9, b10⟩ := cells11 kB
            have fr := frozen8 kB
            have fr0 := fr 0
            have fr1 := fr 1
            have fr2 := fr 2
            have fr3 := fr 3
            have fr4 := fr 4
            have fr5 := fr 5
            have fr6 := fr 6
            have fr7 := fr 7
            have fr8 := fr 8
            have fr9 := fr 9
            have fr10 := fr 10
            go_simp
            clear b0 b1 b2 b3 b4 b5 b6 b7 b8 b9 b10 fr0 fr1 fr2 fr3 fr4 fr5 fr6 fr7 fr8 fr9 fr10 fr
            have vv := below_set11 vv gB (.int .i64 V.id) (.string V.name) (.slice a3 n3 c3) (.slice fa3 fn3 fc3) (.slice ra3 rn3 rc3) (.slice oa3 on3 oc3) (.int .i64 V.ticks) (.int .i64 V.parse) (.int .i64 V.word) (.int .i64 V.drops) (.int .i64 V.vers)
            have t3 := t3.boxed11 kB (.int .i64 V.id) (.string V.name) (.slice a3 n3 c3) (.slice fa3 fn3 fc3) (.slice ra3 rn3 rc3) (.slice oa3 on3 oc3) (.int .i64 V.ticks) (.int .i64 V.parse) (.int .i64 V.word) (.int .i64 V.drops) (.int .i64 V.vers)
            have oL := oL.put11 kB (by decide) (by decide) (.int .i64 V.id) (.string V.name) (.slice a3 n3 c3) (.slice fa3 fn3 fc3) (.slice ra3 rn3 rc3) (.slice oa3 on3 oc3) (.int .i64 V.ticks) (.int .i64 V.parse) (.int .i64 V.word) (.int .i64 V.drops) (.int .i64 V.vers)
            have kB := set_box11B kB (.int .i64 V.id) (.string V.name) (.slice a3 n3 c3) (.slice fa3 fn3 fc3) (.slice ra3 rn3 rc3) (.slice oa3 on3 oc3) (.int .i64 V.ticks) (.int .i64 V.parse) (.int .i64 V.word) (.int .i64 V.drops) (.int .i64 V.vers)
            refine hK.out _ _ (⟨cells11 (kept_block kA vv), (cells4 (kept_block kV vv)).1⟩) (fun hHeld => ?_)
            clear hK K
            try simp only [Act.put, lA, lB, lC]
            refine tK (v := ?_) 11 q324 ?_ ?_
            rotate_left
            ·(intro _ h; (try dsimp only at h); go_simp; try with_reducible rfl)
            simp only [Act.put, lA, lB, lC]
            refine wpAnyH_done (by kernel_rfl) ?_ _
            clear hHeld
            go_wp2_with fail
            go_meet
            exact ⟨_, a3, n3, c3, fa3, fn3, fc3, ra3, rn3, rc3, oa3, on3, oc3, ao3, cp3, L3, rfl, rfl, gB, kB, t3, oL, hM, vv⟩
           exact AllReadyH.nil
          exact AllReadyH.nil
         exact AllReadyH.nil
        exact AllReadyH.nil
       exact AllReadyH.nil
      case rest =>
       obtain ⟨gH, a3, n3, c3, fa3, fn3, fc3, ra3, rn3, rc3, oa3, on3, oc3, ao3, cp3, L3, rfl, rfl, -, kH, tH, oH, hMH, hb⟩ := hcut
       obtain ⟨wH, hwH⟩ : ∃ x, x = wc := ⟨_, rfl⟩
       subst hwH
       have pS := gr_trans pS hb
       have tM := tM.below hb
       have oM := oM.below hb
       have kG := kept_block kG hb
       clear hb
       obtain ⟨s0, s1, s2, s3, s4, s5, s6, s7, s8, s9, s10⟩ := cells11 (kept_block kS pS)
       obtain ⟨h0, h1, h2, h3, h4, h5, h6, h7, h8, h9, h10⟩ := cells11 kH
       go_wp2_with fail
       refine (eqBridge_same _ _ _ _ _ _ _ _ _ _ _ _ _ _ _ _ _ _ _ _ _ _ _ _ V _ tH.row (tS.below pS).row).mono ?_
       rintro e wh3 ⟨rfl, hb⟩
       have pS := gr_trans pS hb
       have tM := tM.below hb
       have oM := oM.below hb
       have kG := kept_block kG hb
       have oH := oH.below hb
       clear hb tH s0 s1 s2 s3 s4 s5 s6 s7 s8 s9 s10 h0 h1 h2 h3 h4 h5 h6 h7 h8 h9 h10 kH
       go_wp2_with fail
       refine (eqOuts_same _ _ _ _ _ _ _ _ _ (oH).grow (oH).rows (oS.below pS).grow (oS.below pS).rows (by rw [hMH, hMS])).mono ?_
       rintro e wh4 ⟨rfl, hb⟩
       have pS := gr_trans pS hb
       have tM := tM.below hb
       have oM := oM.below hb
       have kG := kept_block kG hb
       clear hb oH
       obtain ⟨z0, z1, z2, z3, z4, z5, z6, z7, z8, z9, z10⟩ := cells11 kG
       go_wp2_with fail
       refine (heldBridge_from 1 (by omega) (by omega) _ _ _ _ _ _ _ _ _ _ _ _ V _ tM.row NG.out.1 NG.out.2.1 NG.out.2.2.1 NG.out.2.2.2).mono ?_
       rintro e wh1 ⟨rfl, hb⟩
       have pS := gr_trans pS hb
       have tM := tM.below hb
       have oM := oM.below hb
       have kG := kept_block kG hb
       clear hb z0 z1 z2 z3 z4 z5 z6 z7 z8 z9 z10
       rw [HM1.out]
       go_wp2_with fail
       refine (heldOuts_any aoG LG.length cpG LG M1 _ oM.grow oM.rows OSZ.out.1 OSZ.out.2 (by omega) (by omega)).mono ?_
       rintro e wh2 ⟨rfl, hb⟩
       have pS := gr_trans pS hb
       have tM := tM.below hb
       have oM := oM.below hb
       have kG := kept_block kG hb
       clear hb
       rw [HEO.out]
       have HB := hide (gr_trans uS pS)
       clear pS tM oM kG
       go_wp2
       go_ret
       exact ⟨rfl, HB.out⟩
     exact AllReadyH.nil
    exact AllReadyH.nil
   exact AllReadyH.nil
  exact AllReadyH.nil

theorem fnExactForward_own : ownKnob Tryz.prog.godebug = none := by kernel_rfl
theorem fnExactForward_laid : laidOutB Tryz.prog = true := by kernel_rfl

open Go.ChangeShapes Go.WideShapes Go.ChangeAt in
set_option maxRecDepth 100000 in
theorem fnExactForward_open {H : Type} {enc : TypeId × Value → H} {W : World} {r : Reach} {b0 : Nat} {v : Value} {d : DataW H} {p : List MemPlace} (hv : Value.okWide Tryz.prog W r b0 61 v) (h : DataW.Trod enc Tryz.prog W 0 (fun _ => true) true 61 v d p) :
  ∃ K N S a l c z, v = .agg #[.int .i64 K, .int .i64 N, .int .i64 S, .slice a l c] ∧ Row W a l c z := by
 obtain ⟨c0, c1, c2, c3, y0, y1, y2, y3, m, rfl, -, -, hy0, hy1, hy2, hy3⟩ := Go.Joins.open_agg4 Tryz.underlying61 (by kernel_rfl) (show Tryz.prog.cellsOf 61 = 4 by kernel_rfl) hv h
 obtain ⟨K, e0, -, -⟩ := DataW.trod_int Tryz.underlying3 hy0
 obtain ⟨N, e1, -, -⟩ := DataW.trod_int Tryz.underlying3 hy1
 obtain ⟨S, e2, -, -⟩ := DataW.trod_int Tryz.underlying3 hy2
 simp only [List.cons.injEq, and_true] at e0 e1 e2
 subst e0 e1 e2
 rcases open_ints Tryz.underlying22 Tryz.underlying5 (by kernel_rfl) hy3 with ⟨hcs, _⟩ | ⟨x, l, c, zs, hcs, _, hl, hm, hz, _, hcell, hwz⟩
 ·simp only [List.cons.injEq, and_true] at hcs
  subst hcs
  exact ⟨K, N, S, none, 0, 0, [], rfl, row_nil W⟩
 ·simp only [List.cons.injEq, and_true] at hcs
  subst hcs
  exact ⟨K, N, S, some x, l, c, zs.take l, rfl, row_open hl hm (by simpa using hz) hcell hwz⟩

open Go.ChangeShapes Go.WideShapes Go.ChangeAt in
open Go.ChangeMaps (open_string shut_string) in
set_option maxRecDepth 100000 in
theorem fnExactForward_lifted (os : Os) (started : os.Started) (H : Type) (enc : TypeId × Value → H) :
  ReturnsInHanded {} Tryz.checked os 5 .any (Rows.fnExactForwardSpec.pre6 enc Tryz.prog Tryz.f5 Rows.fnExactForwardRow.domain false) (Rows.fnExactForwardSpec.post enc Tryz.prog Tryz.f5 false true false false) := by
 refine returnsInHanded_of_change (C := Tryz.checked) fnExactForward_own started (by kernel_rfl) Tryz.func5
  (ChangeSpec.witness6 (enc := enc) (C := Tryz.checked) false ⟨#[], #[.agg #[.int .i64 0, .string ByteArray.empty, .slice none 0 0, .slice none 0 0, .slice none 0 0, .slice none 0 0, .int .i64 0, .int .i64 0, .int .i64 0, .int .i64 0, .int .i64 0], .int .i64 0, .agg #[.int .i64 0, .int .i64 0, .int .i64 0, .slice none 0 0]], []⟩ 8 (by kernel_rfl) (by kernel_rfl) (by kernel_rfl) (by kernel_rfl)) ?_
 intro W base args ds gs before hval0 hW hcnd _
 have hval : ∀ (j : Nat) t v, Tryz.f5.params[j]? = some t → args[j]? = some v → Value.okWide Tryz.prog W .any base t v := hval0
 have hW' := hW
 obtain ⟨p, q, hA0, hV, rfl, hfz, hnd⟩ := hW
 have hA : DataW.TrodAll enc Tryz.prog W 0 (fun _ => true) true Tryz.f5.params.toList args.toList ds p := hA0
 rw [Tryz.params5] at hA hval
 obtain ⟨v0, vs0, d0, ds0, p0, q0, hargs, rfl, rfl, h0, r0⟩ := trodAll_cons hA
 obtain ⟨v1, vs1, d1, ds1, p1, q1, rfl, rfl, rfl, h1, r1⟩ := trodAll_cons r0
 obtain ⟨v2, vs2, d2, ds2, p2, q2, rfl, rfl, rfl, h2, r2⟩ := trodAll_cons r1
 obtain ⟨rfl, rfl, rfl⟩ := trodAll_nil r2
 obtain rfl : args = #[v0, v1, v2] := by cases args; simp_all
 obtain ⟨rfl, rfl⟩ := trodVars_none hV
 have k0 := h0
 have lt0 : ∀ x ∈ p0, x.block < W.heap.size := by obtain ⟨m, hm⟩ := k0; exact DataW.trod_lt m _ _ _ hm
 have bt : BrTypes Tryz.prog 60 9 54 167 165 55 169 58 56 201 27 3 4 _ _ _ _ _ _ _ _ _ _ _ _ _ _ _ _ _ _ _ _ _ _ _ _ _ _ _ _ _ := ⟨Tryz.underlying60, Tryz.underlying9, Tryz.underlying54, Tryz.underlying167, Tryz.underlying165, Tryz.underlying55, Tryz.underlying169, Tryz.underlying58, Tryz.underlying56, Tryz.underlying201, Tryz.underlying27, Tryz.underlying3, Tryz.underlying4, ⟨rfl, rfl⟩, ⟨rfl, rfl⟩, ⟨rfl, rfl⟩, ⟨rfl, rfl⟩, ⟨rfl, rfl⟩, ⟨rfl, rfl⟩, ⟨rfl, rfl⟩, ⟨rfl, rfl⟩, ⟨rfl, rfl⟩, ⟨rfl, rfl⟩, ⟨rfl, rfl⟩, ⟨rfl, rfl⟩, ⟨rfl, rfl⟩, ⟨rfl, rfl⟩, ⟨rfl, rfl⟩, ⟨rfl, rfl⟩, ⟨rfl, rfl⟩, ⟨rfl, rfl⟩, ⟨rfl, rfl⟩, ⟨rfl, rfl⟩, ⟨rfl, rfl⟩, ⟨rfl, rfl⟩, ⟨rfl, rfl⟩, ⟨rfl, rfl⟩, ⟨rfl, rfl⟩, ⟨rfl, rfl⟩, ⟨rfl, rfl⟩, ⟨rfl, rfl⟩, ⟨rfl, rfl⟩, (by kernel_rfl), (by kernel_rfl), (by kernel_rfl), (by kernel_rfl), (by kernel_rfl), (by kernel_rfl), (by kernel_rfl), (by kernel_rfl), (by kernel_rfl), (by kernel_rfl), (by kernel_rfl), (by kernel_rfl), (by kernel_rfl)⟩
 obtain ⟨a0, n0, c0, fa0, fn0, fc0, ra0, rn0, rc0, oa0, on0, oc0, B0, rfl, w0, g0⟩ := open_bridge bt (hval 0 60 v0 rfl rfl) h0
 obtain ⟨a1, rfl, rfl, rfl, w1⟩ := open_int Tryz.underlying3 (hval 1 3 v1 rfl rfl) h1
 have k2 := h2
 have lt2 : ∀ x ∈ p2, x.block < W.heap.size := by obtain ⟨m, hm⟩ := k2; exact DataW.trod_lt m _ _ _ hm
 obtain ⟨K2, N2, S2, a2, len2, cap2, z2, rfl, w2⟩ := fnExactForward_open (hval 2 61 v2 rfl rfl) h2
 clear hA0 hval0
 refine (exactForward_walk a0 n0 c0 fa0 fn0 fc0 ra0 rn0 rc0 oa0 on0 oc0 B0 a1 K2 N2 S2 a2 len2 cap2 z2 W w0 g0 w1 w2).mono fun e W' ⟨he, bel⟩ => ?_
 subst he
 exact ⟨_, rfl, _, _, _, [], _, [], hW', trodAll_mk1 (shut_bool Tryz.underlying4 _), (trodAll_cons_mk (Below.trod fnExactForward_laid (by kernel_rfl) (of_decide_eq_true (by kernel_rfl)) k0 bel lt0) (trodAll_cons_mk (shut_int Tryz.underlying3 w1) (trodAll_cons_mk (Below.trod fnExactForward_laid (by kernel_rfl) (of_decide_eq_true (by kernel_rfl)) k2 bel lt2) trodAll_mk0))), rfl, bel.frame _, fun h => by cases h⟩

theorem fnExactForward_holds : Rows.FnExactForwardSaid :=
 OpenClaim.holds_of_wide 5 Tryz.f5 rfl rfl rfl rfl rfl rfl rfl ⟨rfl, rfl, rfl, rfl, rfl⟩ rfl rfl rfl rfl rfl (by kernel_rfl) Tryz.func5 (by kernel_rfl)
  (of_decide_eq_true (by kernel_rfl)) (by unfold Func.isWrapper; first | (rw [if_pos (by decide +kernel)]; kernel_rfl) | (rw [if_neg (by decide +kernel)]; exact ⟨rfl, rfl⟩))
  (fun os started H enc _ => fnExactForward_lifted os started H enc)

#print axioms fnExactForward_holds

end Go.Proofs.YtddalpglihhipaaGreat
