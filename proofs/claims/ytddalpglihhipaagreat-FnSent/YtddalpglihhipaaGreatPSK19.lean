/-
  Packed: FwdOutI VlanCopy FwdOwn LawBit FwdPorts.
-/
import Derived.Test.YtddalpglihhipaaGreatPSKW
import Derived.Test.YtddalpglihhipaaGreatPSFentHelp
import Derived.Test.YtddalpglihhipaaGreatPSK01
import Derived.Test.YtddalpglihhipaaGreatPSK02
import Derived.Test.YtddalpglihhipaaGreatPSK04
import Derived.Test.YtddalpglihhipaaGreatPSK07
import Derived.Test.YtddalpglihhipaaGreatPSK11
import Derived.Test.YtddalpglihhipaaGreatPSK17
import Derived.Test.YtddalpglihhipaaGreatPSK18
import Derived.Deep.RegionHeld3
namespace Go.Proofs.YtddalpglihhipaaGreat
open Go.RowKit

set_option maxRecDepth 100000 in
set_option maxHeartbeats 8000000 in
theorem implOuts_made (a : Option Addr) (n c : Nat) (fa : Option Addr) (fn fc : Nat) (ra : Option Addr) (rn rc : Nat) (oa : Option Addr) (on oc : Nat) (B : BR) (id m : Int) (fd fs ft : Int) (a1 : Option Addr) (l1 c1 : Nat) (z1 : List Int) (w : World) (h : BrRow w a n c fa fn fc ra rn rc oa on oc B) (h1 : Row w a1 l1 c1 z1) (hs : l1 ≤ 16000000) (hm : I64 m) (hRb : ∀ r ∈ B.v.rows, r.Rng ∧ 0 ≤ r.b ∧ r.b ≤ 63) :
    Calls Tryz.prog 46 #[.agg #[.int .i64 B.id, .string B.name, .slice a n c, .slice fa fn fc, .slice ra rn rc, .slice oa on oc, .int .i64 B.ticks, .int .i64 B.parse, .int .i64 B.word, .int .i64 B.drops, .int .i64 B.vers], .int .i64 m, .int .i64 id, .agg #[.int .i64 fd, .int .i64 fs, .int .i64 ft, .slice a1 l1 c1]] w fun e w' => ∃ (ao : Option Addr) (cp : Nat) (L : List OI), e = .returned (.slice ao L.length cp) ∧ OOwns w' w.heap.size ao L.length cp L ∧ L.map OI.v = outTo B.v id m fd fs z1 6 ∧ Below w.heap.size w w' := by
  generalize hw1 : w.alloc (Obj.cells #[.int .i64 B.id, .string B.name, .slice a n c, .slice fa fn fc, .slice ra rn rc, .slice oa on oc, .int .i64 B.ticks, .int .i64 B.parse, .int .i64 B.word, .int .i64 B.drops, .int .i64 B.vers] 31) = w1
  generalize hw2 : w1.alloc (Obj.cells #[.int .i64 fd, .int .i64 fs, .int .i64 ft, .slice a1 l1 c1] 33) = w2
  have b01 : Below w.heap.size w w1 := by rw [← hw1]; exact below_one _ _
  have b12 : Below w1.heap.size w1 w2 := by rw [← hw2]; exact below_one _ _
  have b02 := gr_trans b01 b12
  have kB : w2.heap[w.heap.size]? = some (.cells #[.int .i64 B.id, .string B.name, .slice a n c, .slice fa fn fc, .slice ra rn rc, .slice oa on oc, .int .i64 B.ticks, .int .i64 B.parse, .int .i64 B.word, .int .i64 B.drops, .int .i64 B.vers] 31) := kept_block (by rw [← hw1]; exact block_last _ _) b12
  have kF : w2.heap[w1.heap.size]? = some (.cells #[.int .i64 fd, .int .i64 fs, .int .i64 ft, .slice a1 l1 c1] 33) := by rw [← hw2]; exact block_last _ _
  have HS : Hid (∀ W, Below w2.heap.size w2 W → (fun W => (W.cell? ⟨w.heap.size, 0, none⟩ = some (.int .i64 B.id) ∧ W.cell? ⟨w.heap.size, 1, none⟩ = some (.string B.name) ∧ W.cell? ⟨w.heap.size, 2, none⟩ = some (.slice a n c) ∧ W.cell? ⟨w.heap.size, 3, none⟩ = some (.slice fa fn fc) ∧ W.cell? ⟨w.heap.size, 4, none⟩ = some (.slice ra rn rc) ∧ W.cell? ⟨w.heap.size, 5, none⟩ = some (.slice oa on oc) ∧ W.cell? ⟨w.heap.size, 6, none⟩ = some (.int .i64 B.ticks) ∧ W.cell? ⟨w.heap.size, 7, none⟩ = some (.int .i64 B.parse) ∧ W.cell? ⟨w.heap.size, 8, none⟩ = some (.int .i64 B.word) ∧ W.cell? ⟨w.heap.size, 9, none⟩ = some (.int .i64 B.drops) ∧ W.cell? ⟨w.heap.size, 10, none⟩ = some (.int .i64 B.vers)) ∧ (W.cell? ⟨w1.heap.size, 0, none⟩ = some (.int .i64 fd) ∧ W.cell? ⟨w1.heap.size, 1, none⟩ = some (.int .i64 fs) ∧ W.cell? ⟨w1.heap.size, 2, none⟩ = some (.int .i64 ft) ∧ W.cell? ⟨w1.heap.size, 3, none⟩ = some (.slice a1 l1 c1))) W) := hide (fun W hW => ⟨cells11 (kept_block kB hW), (cells4 (kept_block kF hW)).1⟩)
  have hpl := h.ports.size
  have hle := Nat.le_trans h.ports.le h.ports.top
  unfold maxLen at hle
  go_enter Tryz.func46, Tryz.ntmps46
  go_upto_region 3 with fail
  try rw [hw1]
  try rw [hw2]
  clear hw1 hw2 kB kF
  go_loopw [9, 11] (fun s ix wr => ∃ (i q : Nat) (ao : Option Addr) (cp : Nat) (L : List OI), i ≤ 6 ∧ ix = .int .i64 i ∧ s = .slice ao q cp ∧ OOwns wr w2.heap.size ao q cp L ∧ L.map OI.v = outTo B.v id m fd fs z1 i ∧ Below w2.heap.size w2 wr) (fun _ ix _ => 6 - (intOf ix).toNat)
  case atStart => exact ⟨0, 0, none, 0, [], by omega, rfl, rfl, oowns_nil _ _, rfl, Below.refl _ _⟩
  case round =>
    obtain ⟨i, q, ao, cp, L, hi, rfl, rfl, hO, hM, hb⟩ := hrel
    have hql := hO.size
    have hq6 : q ≤ i := by have := outTo_len B.v id m fd fs z1 i; rw [← hM, List.length_map] at this; omega
    have i1 : (0 : Int) ≤ (i : Int) := by omega
    obtain ⟨⟨x0, x1, x2, x3, x4, x5, x6, x7, x8, x9, x10⟩, v0, v1, v2, v3⟩ := HS.out _ hb
    by_cases hlt : i < 6
    · have i2 : (i : Int) < (6 : Int) := by omega
      have HHB := hide hb
      go_wp2_with fail
      refine (implHasPort_any m (i : Int) (by omega) _).mono ?_
      rintro e wb ⟨rfl, eb⟩
      obtain rfl := eb.symm
      rw [hasP_same hm (.inl (by omega))]
      cases hbt : bitOf m (i : Int)
      · have HBT := hide hbt
        clear hbt
        go_wp2
        go_roundw
        case rel => exact ⟨i + 1, q, ao, cp, L, by omega, by go_num, rfl, hO, by rw [hM, outTo, HBT.out]; simp, hb⟩
        case measure => simp [intOf]; omega
      · have HBT := hide hbt
        clear hbt x0 x1 x2 x3 x4 x5 x6 x7 x8 x9 x10 v0 v1 v2 v3
        have vv : Below wr.heap.size wr wr.drew := gr_drew (Below.refl _ _)
        go_wp2_with fail
        refine wp_region_held_drew (S := (fun W => (W.cell? ⟨w.heap.size, 0, none⟩ = some (.int .i64 B.id) ∧ W.cell? ⟨w.heap.size, 1, none⟩ = some (.string B.name) ∧ W.cell? ⟨w.heap.size, 2, none⟩ = some (.slice a n c) ∧ W.cell? ⟨w.heap.size, 3, none⟩ = some (.slice fa fn fc) ∧ W.cell? ⟨w.heap.size, 4, none⟩ = some (.slice ra rn rc) ∧ W.cell? ⟨w.heap.size, 5, none⟩ = some (.slice oa on oc) ∧ W.cell? ⟨w.heap.size, 6, none⟩ = some (.int .i64 B.ticks) ∧ W.cell? ⟨w.heap.size, 7, none⟩ = some (.int .i64 B.parse) ∧ W.cell? ⟨w.heap.size, 8, none⟩ = some (.int .i64 B.word) ∧ W.cell? ⟨w.heap.size, 9, none⟩ = some (.int .i64 B.drops) ∧ W.cell? ⟨w.heap.size, 10, none⟩ = some (.int .i64 B.vers)) ∧ (W.cell? ⟨w1.heap.size, 0, none⟩ = some (.int .i64 fd) ∧ W.cell? ⟨w1.heap.size, 1, none⟩ = some (.int .i64 fs) ∧ W.cell? ⟨w1.heap.size, 2, none⟩ = some (.int .i64 ft) ∧ W.cell? ⟨w1.heap.size, 3, none⟩ = some (.slice a1 l1 c1)))) (by kernel_rfl) (HS.out _ (gr_trans hb vv)) (fun hHeld => ?_)
        refine kK 0 ⟨some 17, .move (.tmp 9), 36, "l12_forward.go:60", #[], none⟩ ?_
        refine kK 1 ⟨some 18, .move (.tmp 10), 3, "l12_forward.go:60", #[], none⟩ ?_
        refine kK 2 ⟨some 19, .load 33 (.tmp 7), 33, "l12_forward.go:60", #[], none⟩ ?_
        refine kK 3 ⟨some 20, .fieldAddr 31 (.tmp 4) 4, 0, "l12_forward.go:60", #[], none⟩ ?_
        refine kK 4 ⟨some 21, .load 29 (.tmp 20), 29, "l12_forward.go:60", #[⟨3, .data⟩], none⟩ ?_
        refine kK 5 ⟨some 22, .move (.tmp 2), 3, "l12_forward.go:60", #[], none⟩ ?_
        refine kK 6 ⟨some 23, .move (.tmp 10), 3, "l12_forward.go:60", #[], none⟩ ?_
        refine tR [7] ?_
        refine AllReadyH.cons (o := ⟨some 24, .call ⟨.value (.func 18), #[.tmp 21, .tmp 22, .tmp 23], #[29, 3, 3]⟩, 3, "l12_forward.go:60", #[⟨4, .data⟩, ⟨5, .data⟩, ⟨6, .data⟩], none⟩) rfl (fun K hK => ?_) ?_
        · go_simp
          refine (implShown_any ra rn rc oa on oc B.v id (i : Int) _ ((h.v.rows.below (gr_trans b02 hb)).below vv) hRb (by omega)).mono ?_
          rintro e wt ⟨rfl, hbt⟩
          have vv := gr_trans vv hbt
          clear hbt
          go_wp2_with fail
          refine hK.out _ _ (HS.out _ (gr_trans hb vv)) (fun hHeld => ?_)
          clear hK K
          try simp only [Act.put, lA, lB, lC]
          refine tR [8] ?_
          refine AllReadyH.cons (o := ⟨some 25, .call ⟨.value (.func 114), #[.tmp 19, .tmp 24], #[33, 3]⟩, 33, "l12_forward.go:60", #[⟨2, .data⟩, ⟨7, .data⟩, ⟨7, .chain⟩], none⟩) rfl (fun K hK => ?_) ?_
          · go_simp
            refine (implTagged_made fd fs ft a1 l1 c1 z1 (shownTag B.v id (i : Int)) _ ((h1.below (gr_trans b02 hb)).below vv) (by omega)).mono ?_
            rintro e wt2 ⟨da, dc, rfl, od, -, hbt⟩
            have od := own5_lt od (base' := wr.heap.size) vv.size
            have vv := gr_trans vv hbt
            clear hbt
            go_wp2_with fail
            refine hK.out _ _ (HS.out _ (gr_trans hb vv)) (fun hHeld => ?_)
            clear hK K
            try simp only [Act.put, lA, lB, lC]
            refine kK 9 ⟨some 26, .build 48 #[(0, .tmp 18), (1, .tmp 25)], 48, "l12_forward.go:60", #[⟨1, .data⟩, ⟨8, .data⟩], none⟩ ?_
            refine tR [10] ?_
            refine AllReadyH.cons (o := ⟨some 27, .buildSlice 36 1 #[(0, .tmp 26)], 36, "l12_forward.go:60", #[⟨9, .data⟩], none⟩) rfl (fun K hK => ?_) ?_
            · go_simp
              first
              | refine made_new (K := K _) (fun wx kN hbx => ?_)
              | refine made_drew (K := K _) (fun wx kN hbx => ?_)
              have gN := vv.size
              have od := own5_below od hbx
              have vv := gr_trans vv hbx
              clear hbx
              refine hK.out _ _ (HS.out _ (gr_trans hb vv)) (fun hHeld => ?_)
              clear hK K
              try simp only [Act.put, lA, lB, lC]
              refine tR [11] ?_
              refine AllReadyH.cons (o := ⟨some 28, .call ⟨.builtin .append, #[.tmp 17, .tmp 27], #[36, 36]⟩, 36, "l12_forward.go:60", #[⟨0, .data⟩, ⟨10, .data⟩, ⟨8, .chain⟩], none⟩) rfl (fun K hK => ?_) ?_
              · have gn1 : GRow outF wx (some ⟨_, 0, none⟩) 1 1 [(⟨(i : Int), fd, fs, shownTag B.v id (i : Int), da, l1, dc, z1⟩ : OI)] := grow_own (F := outF) (own_lit outF (l := [(⟨(i : Int), fd, fs, shownTag B.v id (i : Int), da, l1, dc, z1⟩ : OI)]) (base := 0) kN rfl (Nat.zero_le _) (by simp))
                have hoN := hO.below vv
                refine step_append_flat (F := outF) rfl _ _ 36 48 rfl w2.heap.size Tryz.underlying36 outInfo rfl (by decide) _ q L rfl hoN.row _ 1 1 _ rfl gn1 (by omega) (Nat.le_trans hb.size vv.size) ?_
                intro aL cL wL how _ hgr hbL
                have hpush := hoN.push (x := (⟨(i : Int), fd, fs, shownTag B.v id (i : Int), da, l1, dc, z1⟩ : OI)) ⟨own5_lt od hb.size, h1.byte⟩ (fun y hy b hb1 hb2 => by
                 have e1 := ((hO.item y hy).blk b hb1).2
                 have e2 := (od.lt b (mem_blkL.2 hb2)).1
                 omega) hgr how
                have vL : Below w2.heap.size w2 wL := (gr_trans hb vv).trans hbL
                refine hK.out _ _ (HS.out _ vL) (fun hHeld => ?_)
                clear hK K
                try simp only [Act.put, lA, lB, lC]
                refine kK 12 ⟨some 9, .assign (.tmp 28), 36, "l12_forward.go:60", #[⟨11, .data⟩, ⟨11, .chain⟩, ⟨0, .phase⟩, ⟨1, .phase⟩, ⟨2, .phase⟩, ⟨3, .phase⟩, ⟨4, .phase⟩, ⟨5, .phase⟩, ⟨6, .phase⟩, ⟨7, .phase⟩, ⟨8, .phase⟩, ⟨9, .phase⟩, ⟨10, .phase⟩, ⟨11, .phase⟩], none⟩ ?_
                refine wpAnyH_done (by kernel_rfl) ?_ _
                have HP := hide hpush
                have HV := hide vL
                clear hHeld how hgr hbL hoN hpush vL kN gn1 od vv
                go_wp2
                go_roundw
                case rel => exact ⟨i + 1, q + 1, aL, cL, _, by omega, by go_num, rfl, HP.out, by rw [List.map_append, hM, outTo, HBT.out]; rfl, HV.out⟩
                case measure => simp [intOf]; omega
              exact AllReadyH.nil
            exact AllReadyH.nil
          exact AllReadyH.nil
        exact AllReadyH.nil
    · have hin : i = 6 := by omega
      have i2 : ¬ (i : Int) < (6 : Int) := by omega
      subst hin
      go_wp2
      go_ret
      exact ⟨ao, cp, L, (by rw [hql]; rfl), (by rw [hql]; exact hO.lt b02.size), hM, gr_trans b02 hb⟩

set_option maxRecDepth 100000 in
set_option maxHeartbeats 1000000 in
theorem cloneI_any (ao : Option Addr) (n cap : Nat) (l : List Int) (w : World) (h : GRow intF w ao n cap l) (hn : n ≤ 16777216) :
  Calls Tryz.prog 159 #[.slice ao n cap] w fun r w' => ∃ ao' cap', r = .returned (.slice ao' n cap') ∧ w'.ownsRow w.heap.size 3 1 (.slice ao' n cap') n (intF.all l) ∧ Below w.heap.size w w' := by
 cases ao with
 | none =>
  have hc0 := h.nil rfl
  have hn0 : n = 0 := by have := h.le; omega
  subst hc0 hn0
  have hl : l = [] := List.eq_nil_of_length_eq_zero h.size
  subst hl
  have heq : ∀ W, (binOp .eql 27 (.slice none 0 0) (.slice none 0 0)).run Tryz.prog W = .ok (.bool true) W := fun _ => by kernel_rfl
  go_enter Tryz.func159, Tryz.ntmps159
  go_wp2
  go_ret
  exact ⟨none, 0, rfl, World.ownsRow_nil _ _ _ _, Below.refl _ _⟩
 | some a =>
  have heq : ∀ W, (binOp .eql 27 (.slice (some a) n cap) (.slice none 0 0)).run Tryz.prog W = .ok (.bool false) W := fun _ => by kernel_rfl
  go_enter Tryz.func159, Tryz.ntmps159
  go_wp2_with (at_builtin; refine wpList_append_flat (F := intF) _ rfl _ _ 27 3 rfl w.heap.size Tryz.underlying27 Tryz.infoI64 rfl (by decide) _ 0 [] rfl (flat_nil intF w _ 3 w.heap.size (block_last w _) (Nat.le_refl _)) (some a) n cap l rfl (h.below (below_one _ _)) (by omega) (by simp) ?_)
  intro ao' cap' w' how hr hgr hb
  have how : w'.ownsRow w.heap.size 3 1 (.slice ao' n cap') n (intF.all l) := by
   try simp only [Nat.zero_add, List.nil_append] at how
   exact how
  have HO := hide how
  have HB := hide ((below_one w _).trans hb)
  clear how hgr hb hr
  go_wp2
  go_ret
  exact ⟨ao', cap', (by simp), HO.out, HB.out⟩

set_option maxRecDepth 100000 in
set_option maxHeartbeats 1000000 in
theorem cloneV_any (ao : Option Addr) (n cap : Nat) (l : List VR) (w : World) (h : GRow vrowF w ao n cap l) (hn : n ≤ 16777216) :
  Calls Tryz.prog 158 #[.slice ao n cap] w fun r w' => ∃ ao' cap', r = .returned (.slice ao' n cap') ∧ w'.ownsRow w.heap.size 100 3 (.slice ao' n cap') n (vrowF.all l) ∧ Below w.heap.size w w' := by
 cases ao with
 | none =>
  have hc0 := h.nil rfl
  have hn0 : n = 0 := by have := h.le; omega
  subst hc0 hn0
  have hl : l = [] := List.eq_nil_of_length_eq_zero h.size
  subst hl
  have heq : ∀ W, (binOp .eql 26 (.slice none 0 0) (.slice none 0 0)).run Tryz.prog W = .ok (.bool true) W := fun _ => by kernel_rfl
  go_enter Tryz.func158, Tryz.ntmps158
  go_wp2
  go_ret
  exact ⟨none, 0, rfl, World.ownsRow_nil _ _ _ _, Below.refl _ _⟩
 | some a =>
  have heq : ∀ W, (binOp .eql 26 (.slice (some a) n cap) (.slice none 0 0)).run Tryz.prog W = .ok (.bool false) W := fun _ => by kernel_rfl
  go_enter Tryz.func158, Tryz.ntmps158
  go_wp2_with (at_builtin; refine wpList_append_flat (F := vrowF) _ rfl _ _ 26 100 rfl w.heap.size Tryz.underlying26 vrowInfo rfl (by decide) _ 0 [] rfl (flat_nil vrowF w _ 100 w.heap.size (block_last w _) (Nat.le_refl _)) (some a) n cap l rfl (h.below (below_one _ _)) (by omega) (by simp) ?_)
  intro ao' cap' w' how hr hgr hb
  have how : w'.ownsRow w.heap.size 100 3 (.slice ao' n cap') n (vrowF.all l) := by
   try simp only [Nat.zero_add, List.nil_append] at how
   exact how
  have HO := hide how
  have HB := hide ((below_one w _).trans hb)
  clear how hgr hb hr
  go_wp2
  go_ret
  exact ⟨ao', cap', (by simp), HO.out, HB.out⟩

set_option maxRecDepth 100000 in
set_option maxHeartbeats 4000000 in
theorem implCopyV_made (a : Option Addr) (n c : Nat) (o : Option Addr) (p q : Nat) (v : VT) (w : World) (h : VTab w a n c o p q v) (hn : n ≤ 16777216) (hp : p ≤ 16777216) :
  Calls Tryz.prog 108 #[.agg #[.slice a n c, .slice o p q]] w fun r w' => ∃ a' c' o' q', r = .returned (.agg #[.slice a' n c', .slice o' p q']) ∧ VOwn w' w.heap.size a' n c' o' p q' v ∧ Below w.heap.size w w' := by
 generalize hw1 : w.alloc (Obj.cells #[Value.slice a n c, Value.slice o p q] 29) = w1
 generalize hw2 : w1.alloc (Obj.cells #[Value.slice none 0 0, Value.slice none 0 0] 29) = w2
 have s1 : w1.heap.size = w.heap.size + 1 := by subst hw1; simp
 have s2 : w2.heap.size = w.heap.size + 1 + 1 := by subst hw2; simp [s1]
 have hk1 : w2.heap[w1.heap.size]? = some (.cells #[.slice none 0 0, .slice none 0 0] 29) := by rw [← hw2]; exact block_last _ _
 have b01 : Below w.heap.size w w1 := by subst hw1; exact below_one _ _
 have vb : Below w1.heap.size w1 w2.drew := by subst hw2; exact gr_drew (below_one _ _)
 have bw : Below w.heap.size w w2 := by subst hw2; exact gr_trans b01 (below_one _ _)
 have vv : Below w2.heap.size w2 w2.drew := gr_drew (Below.refl _ _)
 have HL : Hid (∀ b, some w1.heap.size = some b → b < w2.heap.size) := hide (by intro b hb; cases hb; omega)
 clear s1 s2
 go_enter Tryz.func108, Tryz.ntmps108
 go_wp2_with fail
 refine wp_region_held_drew (S := (fun W => W.cell? ⟨w.heap.size, 0, none⟩ = some (.slice a n c) ∧ W.cell? ⟨w.heap.size, 1, none⟩ = some (.slice o p q))) (by kernel_rfl) (box_two hw1 vb) (fun hHeld => ?_)
 refine kK 0 ⟨some 3, .fieldAddr 29 (.tmp 1) 0, 0, "l09_vlan.go:115", #[], none⟩ ?_
 refine kK 1 ⟨some 4, .load 26 (.tmp 3), 26, "l09_vlan.go:115", #[⟨0, .data⟩], none⟩ ?_
 refine kK 3 ⟨some 6, .fieldAddr 29 (.tmp 1) 1, 0, "l09_vlan.go:115", #[], none⟩ ?_
 refine kK 4 ⟨some 7, .load 27 (.tmp 6), 27, "l09_vlan.go:115", #[⟨3, .data⟩], none⟩ ?_
 refine tR [2] ?_
 refine AllReadyH.cons (o := ⟨some 5, .call ⟨.value (.func 158), #[.tmp 4], #[26]⟩, 26, "l09_vlan.go:115", #[⟨1, .data⟩], none⟩) rfl (fun K hK => ?_) ?_
 ·go_simp
  refine (cloneV_any a n c v.rows _ (h.rows.below (gr_trans bw vv)) hn).mono ?_
  rintro e wx ⟨aR, cR, rfl, how, hbx⟩
  have hR := gown_lt how (base' := w2.heap.size) vv.size
  try have hI := gown_below hI hbx
  have vv := gr_trans vv hbx
  have vb := gr_trans vb hbx
  clear how hbx
  go_wp2_with fail
  refine hK.out _ _ (box_two hw1 vb) (fun hHeld => ?_)
  clear hK K
  try simp only [Act.put, lA, lB, lC]
  refine tR [5] ?_
  refine AllReadyH.cons (o := ⟨some 8, .call ⟨.value (.func 159), #[.tmp 7], #[27]⟩, 27, "l09_vlan.go:115", #[⟨4, .data⟩, ⟨2, .chain⟩], none⟩) rfl (fun K hK => ?_) ?_
  ·go_simp
   refine (cloneI_any o p q v.own _ ((h.own.below (gr_trans bw vv)).flat) hp).mono ?_
   rintro e wx ⟨aI, cI', rfl, how, hbx⟩
   have hI := gown_lt how (base' := w2.heap.size) vv.size
   try have hR := gown_below hR hbx
   have vv := gr_trans vv hbx
   have vb := gr_trans vb hbx
   clear how hbx
   go_wp2_with fail
   refine hK.out _ _ (box_two hw1 vb) (fun hHeld => ?_)
   clear hK K
   try simp only [Act.put, lA, lB, lC]
   refine kK 6 ⟨some 9, .build 29 #[(0, .tmp 5), (1, .tmp 8)], 29, "l09_vlan.go:115", #[⟨2, .data⟩, ⟨5, .data⟩], none⟩ ?_
   refine tR [7] ?_
   refine AllReadyH.cons (o := ⟨none, .store 29 (.tmp 2) (.tmp 9), 0, "l09_vlan.go:115", #[⟨6, .data⟩, ⟨5, .chain⟩, ⟨0, .phase⟩, ⟨1, .phase⟩, ⟨2, .phase⟩, ⟨3, .phase⟩, ⟨4, .phase⟩, ⟨5, .phase⟩, ⟨6, .phase⟩], none⟩) rfl (fun K hK => ?_) ?_
   ·obtain ⟨⟨g0, g1⟩, f0, f1⟩ := cells2 (kept_block hk1 vv)
    go_simp
    have hR := gown_apart (gown_apart hR (grown_set (rb := w1.heap.size) 0 (.slice aR n cR)) HL.out) (grown_set (rb := w1.heap.size) 1 (.slice aI p cI')) HL.out
    have hI := gown_apart (gown_apart hI (grown_set (rb := w1.heap.size) 0 (.slice aR n cR)) HL.out) (grown_set (rb := w1.heap.size) 1 (.slice aI p cI')) HL.out
    have vb := below_set (below_set vb (Nat.le_refl _) 0 (.slice aR n cR)) (Nat.le_refl _) 1 (.slice aI p cI')
    refine hK.out _ _ (box_two hw1 vb) (fun hHeld => ?_)
    clear hK K
    try simp only [Act.put, lA, lB, lC]
    refine wpAnyH_done (by kernel_rfl) ?_ _
    have HR := hide hR
    have HI := hide hI
    clear hR hI
    go_wp2
    refine bodyPost_ret (v := .agg #[.slice aR n cR, .slice aI p cI']) (by simp [results, Tryz.results108, go_sem, *]) rfl ⟨_, _, _, _, rfl, ⟨gown_lt HR.out bw.size, gown_lt (by rw [← intF_all]; exact HI.out) bw.size, h.own.byte⟩, gr_trans b01 vb⟩
   exact AllReadyH.nil
  exact AllReadyH.nil
 exact AllReadyH.nil

theorem own_cells {w w' : World} {base k : Nat} {e : TypeId} {v : Value} {n : Nat} {xs : List Value} (h : w.ownsRow base e k v n xs) (hk : ∀ (Y : Nat) (cs : Array Value), w.heap[Y]? = some (.cells cs e) → w'.heap[Y]? = some (.cells cs e)) : w'.ownsRow base e k v n xs := by
 obtain ⟨hl, h0 | ⟨g, cap, cur, rfl, hg, hh, r⟩⟩ := h
 ·exact ⟨hl, .inl h0⟩
 ·exact ⟨hl, .inr ⟨g, cap, cur, rfl, hg, hk g cur hh, r⟩⟩

theorem OOwns.other {w w' : World} {base : Nat} {ao : Option Addr} {n cap : Nat} {l : List OI} (h : OOwns w base ao n cap l)
  (hk : ∀ (Y : Nat) (cs : Array Value) (T : TypeId), (95 : Nat) ≠ T → (97 : Nat) ≠ T → (100 : Nat) ≠ T → (3 : Nat) ≠ T → w.heap[Y]? = some (.cells cs T) → w'.heap[Y]? = some (.cells cs T)) : OOwns w' base ao n cap l :=
 ⟨own_cells h.row (fun Y cs hY => hk Y cs _ (by decide) (by decide) (by decide) (by decide) hY), fun x hx => ⟨own_cells (h.item x hx).z (fun Y cs hY => hk Y cs _ (by decide) (by decide) (by decide) (by decide) hY), (h.item x hx).zb⟩, h.apart⟩

theorem OOwns.rows {w : World} {base : Nat} {ao : Option Addr} {n cap : Nat} {l : List OI} (h : OOwns w base ao n cap l) : ∀ x ∈ l, Row w x.a x.n x.c x.z := fun x hx => (h.item x hx).row

theorem retB {x y : Bool} (h : x = y) : Ending.returned (.bool x) = .returned (.bool y) := by rw [h]

set_option maxRecDepth 100000 in
set_option maxHeartbeats 2000000 in
theorem lawBit_any (n : Int) (k : Nat) (hk : k ≤ 7) (B : Bool) (w : World) (h : bitOf n (k : Int) = B) :
  Calls Tryz.prog 15 #[.int .i64 n, .int .i64 k] w fun e w' => e = .returned (.bool B) ∧ w' = w := by
 have h : (bits .and .i64 (n / 2 ^ k) 1 == 1) = B := by
  rw [← h]
  unfold bitOf in3
  rw [decide_eq_true (show (0 : Int) ≤ (k : Int) by omega), decide_eq_true (show (k : Int) ≤ 7 by omega), Int.toNat_natCast]
  rfl
 have i1 : (0 : Int) ≤ (k : Int) := by omega
 have i2 : (k : Int) < 8 := by omega
 have hwk : IntKind.u64.wrap (k : Int) = (k : Int) := by rw [IntKind.wrap_u64]; omega
 go_enter Tryz.func15, Tryz.ntmps15
 go_wp2
 go_ret
 exact ⟨retB (by first | rfl | simp [h]), rfl⟩

def portsTo (l : List OI) : Nat → Int
 | 0 => 0
 | k + 1 => match l[k]? with
  | some x => bits .or .i64 (portsTo l k) (2 ^ x.p.toNat)
  | none => portsTo l k

theorem portsTo_next {l : List OI} {k j : Nat} {x : OI} (hx : l[k]? = some x) (hp : x.p = (j : Int)) : portsTo l (k + 1) = bits .or .i64 (portsTo l k) (2 ^ j) := by
 rw [portsTo, hx]
 simp only [hp, Int.toNat_natCast]

set_option maxRecDepth 100000 in
set_option maxHeartbeats 4000000 in
theorem implPorts_any (a : Option Addr) (n c : Nat) (l : List OI) (w : World) (h : GRow outF w a n c l) (hp : ∀ (i : Nat) (x : OI), l[i]? = some x → ∃ j : Nat, j ≤ 7 ∧ x.p = (j : Int)) (hn : n ≤ 1000) :
  Calls Tryz.prog 21 #[.slice a n c] w fun e w' => e = .returned (.int .i64 (portsTo l n)) ∧ Below w.heap.size w w' := by
 go_enter Tryz.func21, Tryz.ntmps21
 go_wp2
 go_loopw [3, 8] (fun s i wr => ∃ k : Nat, k ≤ n ∧ i = .int .i64 k ∧ s = .int .i64 (portsTo l k) ∧ Below w.heap.size w wr) (fun _ i _ => n - (intOf i).toNat)
 case atStart => exact ⟨0, Nat.zero_le _, rfl, rfl, Below.refl _ _⟩
 case round =>
  obtain ⟨k, hk, rfl, rfl, hb⟩ := hrel
  by_cases hlt : k < n
  ·obtain ⟨x, xb, xo, hx, rfl, c0, c1, c2, c3, c4⟩ := out_at (h.below hb) k hlt
   obtain ⟨j, hj, e1⟩ := hp k x hx
   have HN := hide (portsTo_next hx e1)
   have HW := hide (wrap_pow j hj)
   rw [e1] at c0
   generalize portsTo l k = P at *
   have i1 : (0 : Int) ≤ (k : Int) := by omega
   have i2 : (k : Int) < (n : Int) := by omega
   have j1 : (0 : Int) ≤ (j : Int) := by omega
   have HB := hide (gr_trans hb (below_one wr (.cells #[.int .i64 (j : Int), .int .i64 x.d, .int .i64 x.s, .int .i64 x.t, .slice x.a x.n x.c] 48)))
   clear hx e1 hb
   go_wp2
   try rw [HW.out]
   go_roundw
   case rel => exact ⟨k + 1, by omega, by go_num, by rw [HN.out], HB.out⟩
   case measure => simp [intOf]; omega
  ·have hkn : k = n := by omega
   subst hkn
   go_wp2
   go_ret
   exact ⟨rfl, hb⟩

set_option maxRecDepth 100000 in
set_option maxHeartbeats 4000000 in
theorem specPorts_any (a : Option Addr) (n c : Nat) (l : List OI) (w : World) (h : GRow outF w a n c l) (hp : ∀ (i : Nat) (x : OI), l[i]? = some x → ∃ j : Nat, j ≤ 7 ∧ x.p = (j : Int)) (hn : n ≤ 1000) :
  Calls Tryz.prog 22 #[.slice a n c] w fun e w' => e = .returned (.int .i64 (portsTo l n)) ∧ Below w.heap.size w w' := by
 go_enter Tryz.func22, Tryz.ntmps22
 go_wp2
 go_loopw [3, 4] (fun s i wr => ∃ k : Nat, k ≤ n ∧ i = .int .i64 k ∧ s = .int .i64 (portsTo l k) ∧ Below w.heap.size w wr) (fun _ i _ => n - (intOf i).toNat)
 case atStart => exact ⟨0, Nat.zero_le _, rfl, rfl, Below.refl _ _⟩
 case round =>
  obtain ⟨k, hk, rfl, rfl, hb⟩ := hrel
  by_cases hlt : k < n
  ·obtain ⟨x, xb, xo, hx, rfl, c0, c1, c2, c3, c4⟩ := out_at (h.below hb) k hlt
   obtain ⟨j, hj, e1⟩ := hp k x hx
   have HN := hide (portsTo_next hx e1)
   have HW := hide (wrap_pow j hj)
   have HD : Hid ((decide ((0 : Int) ≤ (j : Int)) && decide ((j : Int) ≤ 7)) = true) := hide (by rw [decide_eq_true (show (0 : Int) ≤ (j : Int) by omega), decide_eq_true (show (j : Int) ≤ 7 by omega)]; rfl)
   rw [e1] at c0
   generalize portsTo l k = P at *
   have i1 : (0 : Int) ≤ (k : Int) := by omega
   have i2 : (k : Int) < (n : Int) := by omega
   have j1 : (0 : Int) ≤ (j : Int) := by omega
   have HB := hide hb
   clear hx e1 hb
   go_wp2_with fail
   refine (within_any (j : Int) 0 7 _).mono ?_
   rw [HD.out]
   rintro e w1 ⟨rfl, e2⟩
   obtain rfl := e2.symm
   go_wp2
   try rw [HW.out]
   go_roundw
   case rel => exact ⟨k + 1, by omega, by go_num, by rw [HN.out], HB.out⟩
   case measure => simp [intOf]; omega
  ·have hkn : k = n := by omega
   subst hkn
   go_wp2
   go_ret
   exact ⟨rfl, hb⟩

end Go.Proofs.YtddalpglihhipaaGreat
