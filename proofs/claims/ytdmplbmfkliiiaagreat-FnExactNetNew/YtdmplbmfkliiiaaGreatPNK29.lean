/-
  Packed: NetNewU NetNewI.
-/
import Derived.Test.YtdmplbmfkliiiaaGreatPNKW
import Derived.Test.YtdmplbmfkliiiaaGreatPNBrStepI
import Derived.Test.YtdmplbmfkliiiaaGreatPNK01
import Derived.Test.YtdmplbmfkliiiaaGreatPNK24
import Derived.Test.YtdmplbmfkliiiaaGreatPNK26
namespace Go.Proofs.YtdmplbmfkliiiaaGreat
open Go.RowKit

set_option maxRecDepth 100000 in
set_option maxHeartbeats 1000000 in
theorem cloneL_any (ao : Option Addr) (n cap : Nat) (l : List LK) (w : World) (h : GRow linkF w ao n cap l) (hn : n ≤ 16777216) :
  Calls Tryz.prog 35 #[.slice ao n cap] w fun r w' => ∃ ao' cap', r = .returned (.slice ao' n cap') ∧ w'.ownsRow w.heap.size 44 4 (.slice ao' n cap') n (linkF.all l) ∧ Below w.heap.size w w' := by
 cases ao with
 | none =>
  have hc0 := h.nil rfl
  have hn0 : n = 0 := by have := h.le; omega
  subst hc0 hn0
  have hl : l = [] := List.eq_nil_of_length_eq_zero h.size
  subst hl
  have heq : ∀ W, (binOp .eql 25 (.slice none 0 0) (.slice none 0 0)).run Tryz.prog W = .ok (.bool true) W := fun _ => by kernel_rfl
  go_enter Tryz.func35, Tryz.ntmps35
  go_wp2
  go_ret
  exact ⟨none, 0, rfl, World.ownsRow_nil _ _ _ _, Below.refl _ _⟩
 | some a =>
  have heq : ∀ W, (binOp .eql 25 (.slice (some a) n cap) (.slice none 0 0)).run Tryz.prog W = .ok (.bool false) W := fun _ => by kernel_rfl
  go_enter Tryz.func35, Tryz.ntmps35
  go_wp2_with (at_builtin; refine wpList_append_flat (F := linkF) _ rfl _ _ 25 44 rfl w.heap.size Tryz.underlying25 linkInfo rfl (by decide) _ 0 [] rfl (flat_nil linkF w _ 44 w.heap.size (block_last w _) (Nat.le_refl _)) (some a) n cap l rfl (h.below (below_one _ _)) (by omega) (by simp) ?_)
  intro ao' cap' w' how hr hgr hb
  have how : w'.ownsRow w.heap.size 44 4 (.slice ao' n cap') n (linkF.all l) := how
  have HO := hide how
  have HB := hide ((below_one w _).trans hb)
  clear how hgr hb hr
  go_wp2
  go_ret
  exact ⟨ao', cap', (by simp), HO.out, HB.out⟩

theorem step_make_full {P : Program} {ops : Array Oper} {o : Oper} {a : Act} {w : World} {K : Act → World → Prop} {Q : Exit → Act → World → Prop} {E : Prop} (hgd : o.guard = none) (l c : Operand) (t : TypeId) (hop : o.op = Op.makeSlice t l c)
  (base : Nat) (e : TypeId) (i : TypeInfo) (z : Value) (size : Nat) (h1 : P.underlying t = some (.slice e)) (h2 : P.info? e = some i) (h3 : i.zero = some z) (h4 : i.size = size)
  (kl kc : IntKind) (L C : Int) (n : Nat) (hl : a.eval l = .int kl L) (hc : a.eval c = .int kc C) (hL : L = (n : Int)) (hC : C = (n : Int)) (b2 : i.bytes * n ≤ 281474976710656) (b3 : n ≤ maxLen) (b4 : base ≤ w.heap.size)
  (hK : ∀ w', w'.ownsRow base e size (.slice (some ⟨w.heap.size, 0, none⟩) n n) n (madeCells z.cells (n * size)).toList → w.grownBy w' none → K (a.put o.dst (.slice (some ⟨w.heap.size, 0, none⟩) n n)) w') :
  if Region.wanted o (yielded ops a.tmps) = true then Oper.wp P o a w K Q else E := by
 have hw : Region.wanted o (yielded ops a.tmps) = true := by simp [Region.wanted, hgd]
 rw [if_pos hw]
 obtain ⟨w', hrun, r1, r2⟩ := run_make_full (P := P) w base t e i z size h1 h2 h3 h4 kl kc n b2 b3 b4
 subst hL
 subst hC
 unfold Oper.wp
 simp [execOp, hop, hl, hc, hrun, Result.andThen]
 exact hK w' r1 r2

theorem made_set3 {W : World} {X : Nat} {c0 c1 c2 : Value} {T : TypeId} {K : World → Prop} (hk : W.heap[X]? = some (.cells #[c0, c1, c2] T)) (v0 v1 v2 : Value) (h : ∀ wq, wq.heap[X]? = some (.cells #[v0, v1, v2] T) → W.grownBy wq (some X) → K wq) : K (((W.setCell ⟨X, 0, none⟩ v0).setCell ⟨X, 1, none⟩ v1).setCell ⟨X, 2, none⟩ v2) := by
 refine h _ ?_ (grownTr (grownTr (grown_set 0 _) (grown_set 1 _)) (grown_set 2 _))
 have h0 := set_block5 (j := 0) hk v0
 have h1 := set_block5 (j := 1) h0 v1
 have h2 := set_block5 (j := 2) h1 v2
 simpa using h2

theorem zeros_own (w : World) (base g n : Nat) (h : w.ownsRow base 71 11 (.slice (some ⟨g, 0, none⟩) n n) n (brF.all (List.replicate n BV.zero))) : BOs w base (some ⟨g, 0, none⟩) n n (List.replicate n BV.zero) := by
 refine ⟨h, fun x hx => ?_, ?_⟩
 ·rw [List.eq_of_mem_replicate hx]; exact zero_reads _ _
 ·have : (List.replicate n BV.zero).flatMap BV.blks = [] := by
   rw [List.flatMap_eq_nil_iff]
   intro x hx
   rw [List.eq_of_mem_replicate hx]
   rfl
  rw [this]
  exact List.nodup_nil

set_option maxRecDepth 100000 in
set_option maxHeartbeats 4000000 in
theorem raise_made {w wr : World} {X : Nat} {la : Option Addr} {ln lc : Nat} {l : List LK} {g bn bc j : Nat} {pre post : List BV} {x : BV} (st : NnSt w wr X la ln lc l (some ⟨g, 0, none⟩) bn bc (pre ++ x :: post)) (hj : pre.length = j) (hf : x.B.f = []) (hsm : x.B.ports.length ≤ 6 ∧ x.B.v.rows.length ≤ 6 ∧ x.B.v.own.length ≤ 6) (hR : ∀ r ∈ x.B.v.rows, r.Rng) :
  Calls Tryz.prog 38 #[.pointer (some ⟨g, j * 11, none⟩)] wr fun e w' => ∃ y : BV, e = .returned (.tuple #[]) ∧ y.B = raised x.B ∧ NnSt w w' X la ln lc l (some ⟨g, 0, none⟩) bn bc (pre ++ y :: post) := by
 have HAT0 : Hid (∀ z : BV, (pre ++ z :: post)[j]? = some z) := hide (fun z => by rw [List.getElem?_append_right (by omega), hj, Nat.sub_self]; rfl)
 have hx := st.b.item x (by simp)
 have hn : x.n = x.B.ports.length := hx.row.ports.size.symm
 obtain ⟨⟨ca0, ca1, ca2, ca3, ca4, ca5, ca6, ca7, ca8, ca9, ca10⟩, -⟩ := bridge_cells st.b.row (HAT0.out x)
 have hx6 : x.n ≤ 6 := by omega
 have HN := hide hn
 have HF := hide hf
 have HSM := hide hsm
 have HRR := hide hR
 have HJ := hide hj
 clear hn hf hsm hR hj hx
 go_enter Tryz.func38, Tryz.ntmps38
 go_wp2_with fail
 clear ca0 ca1 ca2 ca3 ca4 ca5 ca6 ca7 ca8 ca9 ca10
 go_loopw [8] (fun i wq => ∃ (p : Nat) (y : BV), p ≤ x.n ∧ i = .int .i64 p ∧ y.B = raiseTo x.B p ∧ NnSt w wq X la ln lc l (some ⟨g, 0, none⟩) bn bc (pre ++ y :: post)) (fun i _ => x.n - (intOf i).toNat)
 case atStart => exact ⟨0, x, Nat.zero_le _, rfl, rfl, st⟩
 case round =>
  clear st
  obtain ⟨p, y, hp, rfl, hy, st⟩ := hrel
  by_cases hlt : p < x.n
  ·have hyo := st.b.item y (by simp)
   have HLS : Hid (y.n ≤ 1048576 ∧ y.fn ≤ 1048576 ∧ y.rn ≤ 1048576 ∧ y.on ≤ 1048576) := hide (by
    have e1 := hyo.row.ports.size
    have e2 := hyo.row.f.size
    have e3 := hyo.row.v.rows.size
    have e4 := hyo.row.v.own.size
    obtain ⟨l3, l4, l5⟩ := raiseTo_less x.B p
    rw [hy] at e1 e2 e3 e4
    rw [l5] at e3 e4
    have := HF.out
    have := HSM.out
    rw [HF.out] at l4
    simp at l4
    simp [l4] at e2
    omega)
   have hRf : ∀ z ∈ y.B.f, z.Rng := fun z hz => by
    have l4 := (raiseTo_less x.B p).2.1
    rw [HF.out] at l4
    simp at l4
    rw [hy, l4] at hz
    cases hz
   have hRv : ∀ r ∈ y.B.v.rows, r.Rng := fun r hr => by
    rw [hy, (raiseTo_less x.B p).2.2] at hr
    exact HRR.out r hr
   have HYB : Hid (linkB y.B (p : Int) true = raiseTo x.B (p + 1)) := hide (by rw [hy]; rfl)
   have hrow0 := hyo.row
   obtain ⟨⟨ca0, ca1, ca2, ca3, ca4, ca5, ca6, ca7, ca8, ca9, ca10⟩, -⟩ := bridge_cells st.b.row (HAT0.out y)
   have i3 : (p : Int) < (x.n : Int) := by omega
   clear hy
   go_wp2_with fail
   refine (implLink_made y.a y.n y.c y.fa y.fn y.fc y.ra y.rn y.rc y.oa y.on y.oc y.B (p : Int) true _ hrow0 HLS.out.1 HLS.out.2.1 HLS.out.2.2.1 HLS.out.2.2.2 hRf hRv).mono ?_
   rintro e wz ⟨a2, n2, c2, fa2, fn2, fc2, ra2, rn2, rc2, oa2, on2, oc2, rfl, ow2, hbz⟩
   have hrow := (st.b.below hbz).row
   obtain ⟨⟨t0, t1, t2, t3, t4, t5, t6, t7, t8, t9, t10⟩, f0, f1, f2, f3, f4, f5, f6, f7, f8, f9, f10⟩ := bridge_cells hrow (HAT0.out y)
   have stN : Hid (∀ wq, wz.grownBy wq (some g) → wq.ownsRow (w.heap.size + 1) 71 11 (.slice (some ⟨g, 0, none⟩) bn bc) bn (brF.all (pre ++ (⟨a2, n2, c2, fa2, fn2, fc2, ra2, rn2, rc2, oa2, on2, oc2, (linkB y.B (p : Int) true)⟩ : BV) :: post)) → NnSt w wq X la ln lc l (some ⟨g, 0, none⟩) bn bc (pre ++ (⟨a2, n2, c2, fa2, fn2, fc2, ra2, rn2, rc2, oa2, on2, oc2, (linkB y.B (p : Int) true)⟩ : BV) :: post)) := hide (fun wq hg hr => st.put hbz ow2 hg hr)
   have HPUT := hide (bridge_over (K := fun W => NnSt w W X la ln lc l (some ⟨g, 0, none⟩) bn bc (pre ++ (⟨a2, n2, c2, fa2, fn2, fc2, ra2, rn2, rc2, oa2, on2, oc2, (linkB y.B (p : Int) true)⟩ : BV) :: post)) (⟨a2, n2, c2, fa2, fn2, fc2, ra2, rn2, rc2, oa2, on2, oc2, (linkB y.B (p : Int) true)⟩ : BV) HJ.out hrow (fun wq hq hgq => stN.out wq hgq hq))
   clear ca0 ca1 ca2 ca3 ca4 ca5 ca6 ca7 ca8 ca9 ca10 hrow ow2 hbz stN hrow0 hRf hRv hyo st
   go_wp2
   go_roundw
   case rel => exact ⟨p + 1, _, by omega, by go_num, HYB.out, HPUT.out⟩
   case measure => simp [intOf]; omega
  ·have hpx : p = x.n := by omega
   have HY : Hid (y.B = raised x.B) := hide (by rw [hy, hpx, HN.out]; rfl)
   have HST := hide st
   clear hy st
   go_wp2
   go_end0
   exact ⟨y, rfl, HY.out, HST.out⟩

abbrev q343 : Oper := ⟨some 23, .makeSlice 28 (.tmp 22) (.tmp 22), 28, "l13_net.go:37", #[⟨1, .data⟩, ⟨1, .data⟩], none⟩
abbrev q344 : Oper := ⟨some 25, .call ⟨.value (.func 35), #[.tmp 24], #[25]⟩, 25, "l13_net.go:37", #[⟨3, .data⟩], none⟩
abbrev q345 : Oper := ⟨some 26, .build 31 #[(0, .tmp 23), (1, .tmp 25)], 31, "l13_net.go:37", #[⟨2, .data⟩, ⟨4, .data⟩], none⟩
abbrev q346 : Oper := ⟨some 7, .alloc 31, 0, "l13_net.go:37", #[], none⟩
abbrev q347 : Oper := ⟨none, .store 31 (.tmp 7) (.tmp 26), 0, "l13_net.go:37", #[⟨6, .data⟩, ⟨5, .data⟩, ⟨4, .chain⟩, ⟨0, .phase⟩, ⟨1, .phase⟩, ⟨2, .phase⟩, ⟨3, .phase⟩, ⟨4, .phase⟩, ⟨5, .phase⟩, ⟨6, .phase⟩], none⟩

theorem zero_rows {w : World} {base n : Nat} {v : Value} (h : w.ownsRow base 71 11 v n (madeCells (Value.cells (.agg #[.int .i64 0, .string ⟨#[]⟩, .slice none 0 0, .slice none 0 0, .slice none 0 0, .slice none 0 0, .int .i64 0, .int .i64 0, .int .i64 0, .int .i64 0, .int .i64 0])) (n * 11)).toList) : w.ownsRow base 71 11 v n (brF.all (List.replicate n BV.zero)) := by rw [← flat_made]; exact h

theorem below_none {w w' : World} (h : w.grownBy w' none) : Below w.heap.size w w' := ⟨h.os, h.tape, h.output, h.size, fun k hk => h.block k hk (by intro e; cases e)⟩

theorem new_rows : ∀ m ∈ ([1, 2, 3, 4, 5, 6] : List Nat), ((vtabNew (m : Int)).rows.all fun r => decide (0 ≤ r.i ∧ r.i ≤ 1000 ∧ 0 ≤ r.m ∧ r.m ≤ 1000 ∧ 0 ≤ r.b ∧ r.b ≤ 1000)) = true := by decide

theorem new_rng (id ports : Int) : (∀ r ∈ (bridgeNewAt id ports).v.rows, r.Rng) ∧ (bridgeNewAt id ports).f = [] := by
 unfold bridgeNewAt
 split
 ·next h =>
  simp only [Bool.and_eq_true, decide_eq_true_eq] at h
  obtain ⟨m, rfl⟩ : ∃ m : Nat, ports = (m : Int) := ⟨ports.toNat, by omega⟩
  rw [Int.toNat_natCast]
  refine ⟨fun r hr => ?_, rfl⟩
  have := new_rows m (by
   have : m = 1 ∨ m = 2 ∨ m = 3 ∨ m = 4 ∨ m = 5 ∨ m = 6 := by omega
   simpa using this)
  have := List.all_eq_true.1 this r hr
  simp only [decide_eq_true_eq] at this
  unfold VR.Rng I64
  omega
 ·exact ⟨(by intro r hr; cases hr), rfl⟩

theorem upBs_next2 {ids : List Int} {ports : Int} {k : Nat} {id : Int} (h : ids[k]? = some id) : upBs (ids.take (k + 1)) ports = upBs (ids.take k) ports ++ [raised (bridgeNewAt id ports)] := by
 unfold upBs
 rw [List.take_add_one, h, List.map_append]
 rfl

set_option maxRecDepth 100000 in
set_option maxHeartbeats 16000000 in
theorem implNetNew_made (ia : Option Addr) (im ic : Nat) (ids : List Int) (ports : Int) (la0 : Option Addr) (ln lc0 : Nat) (l : List LK) (w : World) (hI : IRow w ia im ic ids) (hL : GRow linkF w la0 ln lc0 l) (hs : ln ≤ 1048576) (hm : im ≤ 1048576) :
  Calls Tryz.prog 7 #[.slice ia im ic, .int .i64 ports, .slice la0 ln lc0] w fun e w' => NewAns ids ports l w e w' := by
 have hIs := hI.size
 have hLs := hL.size
 obtain ⟨i0, hi, hz0, hz1, hz2⟩ := finfo_parts brInfo
 have HB2 : Hid (i0.bytes * im ≤ 281474976710656) := hide (by rw [hz2]; omega)
 have HB3 : Hid (im ≤ maxLen) := hide (by unfold maxLen; omega)
 have HLN : Hid (ln ≤ 16777216) := hide (by omega)
 generalize hw1 : w.alloc (Obj.cells #[.slice none 0 0, .slice none 0 0, .slice none 0 0] 31) = w1
 have b01 : Below w.heap.size w w1 := by rw [← hw1]; exact below_one _ _
 have kJ : w1.heap[w.heap.size]? = some (.cells #[.slice none 0 0, .slice none 0 0, .slice none 0 0] 31) := by rw [← hw1]; exact block_last _ _
 have HZ : Hid (w.heap.size + 1 ≤ w1.heap.size) := hide (blk_lt kJ)
 have HLS := hide hLs
 have HIS := hide hIs
 clear hLs hIs hz2
 cases hA : (decide (1 ≤ (im : Int)) && decide ((im : Int) ≤ 6))
 ·have HNO : Hid (¬ NetOk (newBs ids ports) l []) := hide (fun hp => by have h1 := hp.1.2.2.1; have h2 := hp.1.2.2.2; have := HIS.out; simp [newBs] at h1 h2; simp at hA; omega)
  obtain ⟨r0, r1, r2⟩ := cells3m kJ
  have f0 := frozen8 kJ 0
  have f1 := frozen8 kJ 1
  have f2 := frozen8 kJ 2
  have HB := hide (below_set (below_set (below_set b01 (Nat.le_refl _) 0 (.slice none 0 0)) (Nat.le_refl _) 1 (.slice none 0 0)) (Nat.le_refl _) 2 (.slice none 0 0))
  go_enter Tryz.func7, Tryz.ntmps7
  go_wp2_with fail
  refine (implWithin_any (im : Int) 1 6 _).mono ?_
  rintro e w2 ⟨rfl, ew⟩
  obtain rfl := ew.symm
  rw [hA]
  clear hA
  go_wp2
  all_goals first | (exfalso; rename_i hf; first | (rw [f0] at hf; cases hf) | (rw [f1] at hf; cases hf) | (rw [f2] at hf; cases hf)) | skip
  exact bodyPost_ret (v := .agg #[.slice none 0 0, .slice none 0 0, .slice none 0 0]) (by simp [results, Tryz.results7, go_sem, *]) rfl (new_none HNO.out HB.out)
 by_cases l9 : (ln : Int) > 9
 ·have HNO : Hid (¬ NetOk (newBs ids ports) l []) := hide (fun hp => by have h1 := hp.2.1.1; have := HLS.out; omega)
  obtain ⟨r0, r1, r2⟩ := cells3m kJ
  have f0 := frozen8 kJ 0
  have f1 := frozen8 kJ 1
  have f2 := frozen8 kJ 2
  have HB := hide (below_set (below_set (below_set b01 (Nat.le_refl _) 0 (.slice none 0 0)) (Nat.le_refl _) 1 (.slice none 0 0)) (Nat.le_refl _) 2 (.slice none 0 0))
  go_enter Tryz.func7, Tryz.ntmps7
  go_wp2_with fail
  refine (implWithin_any (im : Int) 1 6 _).mono ?_
  rintro e w2 ⟨rfl, ew⟩
  obtain rfl := ew.symm
  rw [hA]
  clear hA
  go_wp2
  all_goals first | (exfalso; rename_i hf; first | (rw [f0] at hf; cases hf) | (rw [f1] at hf; cases hf) | (rw [f2] at hf; cases hf)) | skip
  exact bodyPost_ret (v := .agg #[.slice none 0 0, .slice none 0 0, .slice none 0 0]) (by simp [results, Tryz.results7, go_sem, *]) rfl (new_none HNO.out HB.out)
 have him : 1 ≤ im ∧ im ≤ 6 := by simp at hA; omega
 go_enter Tryz.func7, Tryz.ntmps7
 go_wp2_with fail
 refine (implWithin_any (im : Int) 1 6 _).mono ?_
 rintro e w2 ⟨rfl, ew⟩
 obtain rfl := ew.symm
 rw [hA]
 clear hA
 go_upto_region 3 with fail
 go_cut [7] from 21 to 26 (fun s wx => ∃ (X g : Nat) (la : Option Addr) (lc : Nat), s = .pointer (some ⟨X, 0, none⟩) ∧ NnSt w wx X la ln lc l (some ⟨g, 0, none⟩) im im (List.replicate im BV.zero))
 case first =>
  have vv : Below w1.heap.size w1 w1.drew := gr_drew (Below.refl _ _)
  have kJ := kept_block kJ vv
  refine wp_region_held_drew (S := (fun _ => True)) (by kernel_rfl) (trivial) (fun hHeld => ?_)
  refine kK 0 ⟨some 21, .move (.tmp 0), 24, "l13_net.go:37", #[], none⟩ ?_
  refine kK 1 ⟨some 22, .call ⟨.builtin .len, #[.tmp 21], #[24]⟩, 3, "l13_net.go:37", #[⟨0, .data⟩], none⟩ ?_
  refine kK 3 ⟨some 24, .move (.tmp 2), 25, "l13_net.go:37", #[], none⟩ ?_
  refine tR [2, 4, 6] ?_
  refine AllReadyH.cons (o := q343) rfl (fun K hK => ?_) ?_
  ·refine step_make_full rfl _ _ 28 rfl (w.heap.size + 1) 71 i0 (.agg #[.int .i64 0, .string ⟨#[]⟩, .slice none 0 0, .slice none 0 0, .slice none 0 0, .slice none 0 0, .int .i64 0, .int .i64 0, .int .i64 0, .int .i64 0, .int .i64 0]) 11 Tryz.underlying28 hi hz0 hz1 .i64 .i64 _ _ im rfl rfl rfl rfl HB2.out HB3.out (Nat.le_trans HZ.out vv.size) ?_
   intro wm oB hgm
   have hbm := below_none hgm
   have oB := zero_rows oB
   try have oL := gown_below oL hbm
   try have kX := kept_block kX hbm
   have kJ := kept_block kJ hbm
   have vv := gr_trans vv hbm
   refine hK.out _ _ (trivial) (fun hHeld => ?_)
   clear hK K
   try simp only [Act.put, lA, lB, lC]
   refine tR [4, 6] ?_
   refine AllReadyH.cons (o := q344) rfl (fun K hK => ?_) ?_
   ·go_simp
    refine (cloneL_any la0 ln lc0 l _ (hL.below (gr_trans b01 vv)) HLN.out).mono ?_
    rintro e wz ⟨la, lc, rfl, oL, hbz⟩
    have oL := gown_lt oL (Nat.le_trans HZ.out vv.size)
    try have oB := gown_below oB hbz
    try have kX := kept_block kX hbz
    have kJ := kept_block kJ hbz
    have vv := gr_trans vv hbz
    go_wp2_with fail
    refine hK.out _ _ (trivial) (fun hHeld => ?_)
    clear hK K
    try simp only [Act.put, lA, lB, lC]
    refine kK 5 q345 ?_
    refine kR 6 q346 (fun K hK => ?_)
    go_simp
    first
    | refine made_new (K := K _) (fun wx kX hbx => ?_)
    | refine made_drew (K := K _) (fun wx kX hbx => ?_)
    have gX := vv.size
    try have oB := gown_below oB hbx
    try have oL := gown_below oL hbx
    have kJ := kept_block kJ hbx
    have vv := gr_trans vv hbx
    refine hK.out _ _ (trivial) (fun hHeld => ?_)
    clear hK K
    try simp only [Act.put, lA, lB, lC]
    refine kR 7 q347 (fun K hK => ?_)
    obtain ⟨xx0, xx1, xx2⟩ := cells3m kX
    have ff0 := frozen8 kX 0
    have ff1 := frozen8 kX 1
    have ff2 := frozen8 kX 2
    go_simp
    refine made_set3 (K := K _) kX _ _ _ (fun wq kQ hgq => ?_)
    have oB2 := gown_other oB hgq (box_ne oB kX (by decide))
    have oL2 := gown_other oL hgq (box_ne oL kX (by decide))
    have kR2 := kept_grown kJ hgq (by intro i e; cases e; have := HZ.out; omega)
    have bv := gr_trans b01 vv
    have bq := bv.grown hgq bv.size (by intro i e; cases e; have := HZ.out; omega)
    have stN : NnSt w wq _ la ln lc l _ im im (List.replicate im BV.zero) := ⟨kQ, kR2, zeros_own _ _ _ _ oB2, oL2, bq, by have := HZ.out; omega⟩
    refine hK.out _ _ (trivial) (fun hHeld => ?_)
    clear hK K
    try simp only [Act.put, lA, lB, lC]
    refine wpAnyH_done (by kernel_rfl) ?_ _
    clear hHeld
    go_wp2_with fail
    go_meet
    exact ⟨_, _, _, _, rfl, stN⟩
   refine AllReadyH.cons (o := q346) rfl (fun K hK => ?_) ?_
   ·go_simp
    first
    | refine made_new (K := K _) (fun wx kX hbx => ?_)
    | refine made_drew (K := K _) (fun wx kX hbx => ?_)
    have gX := vv.size
    try have oB := gown_below oB hbx
    try have oL := gown_below oL hbx
    have kJ := kept_block kJ hbx
    have vv := gr_trans vv hbx
    refine hK.out _ _ (trivial) (fun hHeld => ?_)
    clear hK K
    try simp only [Act.put, lA, lB, lC]
    refine kR 4 q344 (fun K hK => ?_)
    go_simp
    refine (cloneL_any la0 ln lc0 l _ (hL.below (gr_trans b01 vv)) HLN.out).mono ?_
    rintro e wz ⟨la, lc, rfl, oL, hbz⟩
    have oL := gown_lt oL (Nat.le_trans HZ.out vv.size)
    try have oB := gown_below oB hbz
    try have kX := kept_block kX hbz
    have kJ := kept_block kJ hbz
    have vv := gr_trans vv hbz
    go_wp2_with fail
    refine hK.out _ _ (trivial) (fun hHeld => ?_)
    clear hK K
    try simp only [Act.put, lA, lB, lC]
    refine kK 5 q345 ?_
    refine kR 7 q347 (fun K hK => ?_)
    obtain ⟨xx0, xx1, xx2⟩ := cells3m kX
    have ff0 := frozen8 kX 0
    have ff1 := frozen8 kX 1
    have ff2 := frozen8 kX 2
    go_simp
    refine made_set3 (K := K _) kX _ _ _ (fun wq kQ hgq => ?_)
    have oB2 := gown_other oB hgq (box_ne oB kX (by decide))
    have oL2 := gown_other oL hgq (box_ne oL kX (by decide))
    have kR2 := kept_grown kJ hgq (by intro i e; cases e; have := HZ.out; omega)
    have bv := gr_trans b01 vv
    have bq := bv.grown hgq bv.size (by intro i e; cases e; have := HZ.out; omega)
    have stN : NnSt w wq _ la ln lc l _ im im (List.replicate im BV.zero) := ⟨kQ, kR2, zeros_own _ _ _ _ oB2, oL2, bq, by have := HZ.out; omega⟩
    refine hK.out _ _ (trivial) (fun hHeld => ?_)
    clear hK K
    try simp only [Act.put, lA, lB, lC]
    refine wpAnyH_done (by kernel_rfl) ?_ _
    clear hHeld
    go_wp2_with fail
    go_meet
    exact ⟨_, _, _, _, rfl, stN⟩
   exact AllReadyH.nil
  refine AllReadyH.cons (o := q344) rfl (fun K hK => ?_) ?_
  ·go_simp
   refine (cloneL_any la0 ln lc0 l _ (hL.below (gr_trans b01 vv)) HLN.out).mono ?_
   rintro e wz ⟨la, lc, rfl, oL, hbz⟩
   have oL := gown_lt oL (Nat.le_trans HZ.out vv.size)
   try have oB := gown_below oB hbz
   try have kX := kept_block kX hbz
   have kJ := kept_block kJ hbz
   have vv := gr_trans vv hbz
   go_wp2_with fail
   refine hK.out _ _ (trivial) (fun hHeld => ?_)
   clear hK K
   try simp only [Act.put, lA, lB, lC]
   refine tR [2, 6] ?_
   refine AllReadyH.cons (o := q343) rfl (fun K hK => ?_) ?_
   ·refine step_make_full rfl _ _ 28 rfl (w.heap.size + 1) 71 i0 (.agg #[.int .i64 0, .string ⟨#[]⟩, .slice none 0 0, .slice none 0 0, .slice none 0 0, .slice none 0 0, .int .i64 0, .int .i64 0, .int .i64 0, .int .i64 0, .int .i64 0]) 11 Tryz.underlying28 hi hz0 hz1 .i64 .i64 _ _ im rfl rfl rfl rfl HB2.out HB3.out (Nat.le_trans HZ.out vv.size) ?_
    intro wm oB hgm
    have hbm := below_none hgm
    have oB := zero_rows oB
    try have oL := gown_below oL hbm
    try have kX := kept_block kX hbm
    have kJ := kept_block kJ hbm
    have vv := gr_trans vv hbm
    refine hK.out _ _ (trivial) (fun hHeld => ?_)
    clear hK K
    try simp only [Act.put, lA, lB, lC]
    refine kK 5 q345 ?_
    refine kR 6 q346 (fun K hK => ?_)
    go_simp
    first
    | refine made_new (K := K _) (fun wx kX hbx => ?_)
    | refine made_drew (K := K _) (fun wx kX hbx => ?_)
    have gX := vv.size
    try have oB := gown_below oB hbx
    try have oL := gown_below oL hbx
    have kJ := kept_block kJ hbx
    have vv := gr_trans vv hbx
    refine hK.out _ _ (trivial) (fun hHeld => ?_)
    clear hK K
    try simp only [Act.put, lA, lB, lC]
    refine kR 7 q347 (fun K hK => ?_)
    obtain ⟨xx0, xx1, xx2⟩ := cells3m kX
    have ff0 := frozen8 kX 0
    have ff1 := frozen8 kX 1
    have ff2 := frozen8 kX 2
    go_simp
    refine made_set3 (K := K _) kX _ _ _ (fun wq kQ hgq => ?_)
    have oB2 := gown_other oB hgq (box_ne oB kX (by decide))
    have oL2 := gown_other oL hgq (box_ne oL kX (by decide))
    have kR2 := kept_grown kJ hgq (by intro i e; cases e; have := HZ.out; omega)
    have bv := gr_trans b01 vv
    have bq := bv.grown hgq bv.size (by intro i e; cases e; have := HZ.out; omega)
    have stN : NnSt w wq _ la ln lc l _ im im (List.replicate im BV.zero) := ⟨kQ, kR2, zeros_own _ _ _ _ oB2, oL2, bq, by have := HZ.out; omega⟩
    refine hK.out _ _ (trivial) (fun hHeld => ?_)
    clear hK K
    try simp only [Act.put, lA, lB, lC]
    refine wpAnyH_done (by kernel_rfl) ?_ _
    clear hHeld
    go_wp2_with fail
    go_meet
    exact ⟨_, _, _, _, rfl, stN⟩
   refine AllReadyH.cons (o := q346) rfl (fun K hK => ?_) ?_
   ·go_simp
    first
    | refine made_new (K := K _) (fun wx kX hbx => ?_)
    | refine made_drew (K := K _) (fun wx kX hbx => ?_)
    have gX := vv.size
    try have oB := gown_below oB hbx
    try have oL := gown_below oL hbx
    have kJ := kept_block kJ hbx
    have vv := gr_trans vv hbx
    refine hK.out _ _ (trivial) (fun hHeld => ?_)
    clear hK K
    try simp only [Act.put, lA, lB, lC]
    refine kR 2 q343 (fun K hK => ?_)
    refine step_make_full rfl _ _ 28 rfl (w.heap.size + 1) 71 i0 (.agg #[.int .i64 0, .string ⟨#[]⟩, .slice none 0 0, .slice none 0 0, .slice none 0 0, .slice none 0 0, .int .i64 0, .int .i64 0, .int .i64 0, .int .i64 0, .int .i64 0]) 11 Tryz.underlying28 hi hz0 hz1 .i64 .i64 _ _ im rfl rfl rfl rfl HB2.out HB3.out (Nat.le_trans HZ.out vv.size) ?_
    intro wm oB hgm
    have hbm := below_none hgm
    have oB := zero_rows oB
    try have oL := gown_below oL hbm
    try have kX := kept_block kX hbm
    have kJ := kept_block kJ hbm
    have vv := gr_trans vv hbm
    refine hK.out _ _ (trivial) (fun hHeld => ?_)
    clear hK K
    try simp only [Act.put, lA, lB, lC]
    refine kK 5 q345 ?_
    refine kR 7 q347 (fun K hK => ?_)
    obtain ⟨xx0, xx1, xx2⟩ := cells3m kX
    have ff0 := frozen8 kX 0
    have ff1 := frozen8 kX 1
    have ff2 := frozen8 kX 2
    go_simp
    refine made_set3 (K := K _) kX _ _ _ (fun wq kQ hgq => ?_)
    have oB2 := gown_other oB hgq (box_ne oB kX (by decide))
    have oL2 := gown_other oL hgq (box_ne oL kX (by decide))
    have kR2 := kept_grown kJ hgq (by intro i e; cases e; have := HZ.out; omega)
    have bv := gr_trans b01 vv
    have bq := bv.grown hgq bv.size (by intro i e; cases e; have := HZ.out; omega)
    have stN : NnSt w wq _ la ln lc l _ im im (List.replicate im BV.zero) := ⟨kQ, kR2, zeros_own _ _ _ _ oB2, oL2, bq, by have := HZ.out; omega⟩
    refine hK.out _ _ (trivial) (fun hHeld => ?_)
    clear hK K
    try simp only [Act.put, lA, lB, lC]
    refine wpAnyH_done (by kernel_rfl) ?_ _
    clear hHeld
    go_wp2_with fail
    go_meet
    exact ⟨_, _, _, _, rfl, stN⟩
   exact AllReadyH.nil
  refine AllReadyH.cons (o := q346) rfl (fun K hK => ?_) ?_
  ·go_simp
   first
   | refine made_new (K := K _) (fun wx kX hbx => ?_)
   | refine made_drew (K := K _) (fun wx kX hbx => ?_)
   have gX := vv.size
   try have oB := gown_below oB hbx
   try have oL := gown_below oL hbx
   have kJ := kept_block kJ hbx
   have vv := gr_trans vv hbx
   refine hK.out _ _ (trivial) (fun hHeld => ?_)
   clear hK K
   try simp only [Act.put, lA, lB, lC]
   refine tR [2, 4] ?_
   refine AllReadyH.cons (o := q343) rfl (fun K hK => ?_) ?_
   ·refine step_make_full rfl _ _ 28 rfl (w.heap.size + 1) 71 i0 (.agg #[.int .i64 0, .string ⟨#[]⟩, .slice none 0 0, .slice none 0 0, .slice none 0 0, .slice none 0 0, .int .i64 0, .int .i64 0, .int .i64 0, .int .i64 0, .int .i64 0]) 11 Tryz.underlying28 hi hz0 hz1 .i64 .i64 _ _ im rfl rfl rfl rfl HB2.out HB3.out (Nat.le_trans HZ.out vv.size) ?_
    intro wm oB hgm
    have hbm := below_none hgm
    have oB := zero_rows oB
    try have oL := gown_below oL hbm
    try have kX := kept_block kX hbm
    have kJ := kept_block kJ hbm
    have vv := gr_trans vv hbm
    refine hK.out _ _ (trivial) (fun hHeld => ?_)
    clear hK K
    try simp only [Act.put, lA, lB, lC]
    refine kR 4 q344 (fun K hK => ?_)
    go_simp
    refine (cloneL_any la0 ln lc0 l _ (hL.below (gr_trans b01 vv)) HLN.out).mono ?_
    rintro e wz ⟨la, lc, rfl, oL, hbz⟩
    have oL := gown_lt oL (Nat.le_trans HZ.out vv.size)
    try have oB := gown_below oB hbz
    try have kX := kept_block kX hbz
    have kJ := kept_block kJ hbz
    have vv := gr_trans vv hbz
    go_wp2_with fail
    refine hK.out _ _ (trivial) (fun hHeld => ?_)
    clear hK K
    try simp only [Act.put, lA, lB, lC]
    refine kK 5 q345 ?_
    refine kR 7 q347 (fun K hK => ?_)
    obtain ⟨xx0, xx1, xx2⟩ := cells3m kX
    have ff0 := frozen8 kX 0
    have ff1 := frozen8 kX 1
    have ff2 := frozen8 kX 2
    go_simp
    refine made_set3 (K := K _) kX _ _ _ (fun wq kQ hgq => ?_)
    have oB2 := gown_other oB hgq (box_ne oB kX (by decide))
    have oL2 := gown_other oL hgq (box_ne oL kX (by decide))
    have kR2 := kept_grown kJ hgq (by intro i e; cases e; have := HZ.out; omega)
    have bv := gr_trans b01 vv
    have bq := bv.grown hgq bv.size (by intro i e; cases e; have := HZ.out; omega)
    have stN : NnSt w wq _ la ln lc l _ im im (List.replicate im BV.zero) := ⟨kQ, kR2, zeros_own _ _ _ _ oB2, oL2, bq, by have := HZ.out; omega⟩
    refine hK.out _ _ (trivial) (fun hHeld => ?_)
    clear hK K
    try simp only [Act.put, lA, lB, lC]
    refine wpAnyH_done (by kernel_rfl) ?_ _
    clear hHeld
    go_wp2_with fail
    go_meet
    exact ⟨_, _, _, _, rfl, stN⟩
   refine AllReadyH.cons (o := q344) rfl (fun K hK => ?_) ?_
   ·go_simp
    refine (cloneL_any la0 ln lc0 l _ (hL.below (gr_trans b01 vv)) HLN.out).mono ?_
    rintro e wz ⟨la, lc, rfl, oL, hbz⟩
    have oL := gown_lt oL (Nat.le_trans HZ.out vv.size)
    try have oB := gown_below oB hbz
    try have kX := kept_block kX hbz
    have kJ := kept_block kJ hbz
    have vv := gr_trans vv hbz
    go_wp2_with fail
    refine hK.out _ _ (trivial) (fun hHeld => ?_)
    clear hK K
    try simp only [Act.put, lA, lB, lC]
    refine kR 2 q343 (fun K hK => ?_)
    refine step_make_full rfl _ _ 28 rfl (w.heap.size + 1) 71 i0 (.agg #[.int .i64 0, .string ⟨#[]⟩, .slice none 0 0, .slice none 0 0, .slice none 0 0, .slice none 0 0, .int .i64 0, .int .i64 0, .int .i64 0, .int .i64 0, .int .i64 0]) 11 Tryz.underlying28 hi hz0 hz1 .i64 .i64 _ _ im rfl rfl rfl rfl HB2.out HB3.out (Nat.le_trans HZ.out vv.size) ?_
    intro wm oB hgm
    have hbm := below_none hgm
    have oB := zero_rows oB
    try have oL := gown_below oL hbm
    try have kX := kept_block kX hbm
    have kJ := kept_block kJ hbm
    have vv := gr_trans vv hbm
    refine hK.out _ _ (trivial) (fun hHeld => ?_)
    clear hK K
    try simp only [Act.put, lA, lB, lC]
    refine kK 5 q345 ?_
    refine kR 7 q347 (fun K hK => ?_)
    obtain ⟨xx0, xx1, xx2⟩ := cells3m kX
    have ff0 := frozen8 kX 0
    have ff1 := frozen8 kX 1
    have ff2 := frozen8 kX 2
    go_simp
    refine made_set3 (K := K _) kX _ _ _ (fun wq kQ hgq => ?_)
    have oB2 := gown_other oB hgq (box_ne oB kX (by decide))
    have oL2 := gown_other oL hgq (box_ne oL kX (by decide))
    have kR2 := kept_grown kJ hgq (by intro i e; cases e; have := HZ.out; omega)
    have bv := gr_trans b01 vv
    have bq := bv.grown hgq bv.size (by intro i e; cases e; have := HZ.out; omega)
    have stN : NnSt w wq _ la ln lc l _ im im (List.replicate im BV.zero) := ⟨kQ, kR2, zeros_own _ _ _ _ oB2, oL2, bq, by have := HZ.out; omega⟩
    refine hK.out _ _ (trivial) (fun hHeld => ?_)
    clear hK K
    try simp only [Act.put, lA, lB, lC]
    refine wpAnyH_done (by kernel_rfl) ?_ _
    clear hHeld
    go_wp2_with fail
    go_meet
    exact ⟨_, _, _, _, rfl, stN⟩
   exact AllReadyH.nil
  exact AllReadyH.nil
 case rest =>
  obtain ⟨X, g, la, lc, rfl, st0⟩ := hcut
  obtain ⟨w4, hw4⟩ : ∃ y, y = wc := ⟨_, rfl⟩
  subst hw4
  clear hw1 b01 kJ hi hz0 hz1
  go_wp2_with fail
  go_loopw [29] (fun i wr => ∃ (k : Nat) (cs : List BV), k ≤ im ∧ i = .int .i64 k ∧ NnSt w wr X la ln lc l (some ⟨g, 0, none⟩) im im cs ∧ (cs.take k).map BV.B = upBs (ids.take k) ports) (fun i _ => im - (intOf i).toNat)
  case atStart => exact ⟨0, _, Nat.zero_le _, rfl, st0, by simp [upBs]⟩
  case round =>
   clear st0
   obtain ⟨k, cs, hk, rfl, st, hC⟩ := hrel
   have hcl : cs.length = im := st.b.grow.size
   obtain ⟨x0, x1, x2⟩ := cells3m st.box
   by_cases hlt : k < im
   ·obtain ⟨id, ib, io, hid, rfl, ci⟩ := irow_at (hI.below st.below) k hlt
    obtain ⟨x, hx⟩ : ∃ x, cs[k]? = some x := ⟨_, List.getElem?_eq_getElem (by omega)⟩
    have hsp : cs = cs.take k ++ x :: cs.drop (k + 1) := by
     obtain ⟨h, rfl⟩ := List.getElem?_eq_some_iff.1 hx
     rw [← List.drop_eq_getElem_cons h, List.take_append_drop]
    have HJ : Hid ((cs.take k).length = k) := hide (by rw [List.length_take]; omega)
    have HC := hide hC
    have HID := hide hid
    rw [hsp] at st
    generalize hpr : cs.take k = pre at *
    generalize hpo : cs.drop (k + 1) = post at *
    have HAT : Hid (∀ z : BV, (pre ++ z :: post)[k]? = some z) := hide (fun z => by rw [List.getElem?_append_right (by have := HJ.out; omega), HJ.out, Nat.sub_self]; rfl)
    have i1 : (0 : Int) ≤ (k : Int) := by omega
    have i2 : (k : Int) < (im : Int) := by omega
    have hle : im ≤ 9223372036854775807 := by omega
    clear hid hC hx hsp hcl hpr hpo
    go_wp2_with fail
    refine (bridgeAt_yes ⟨some ⟨g, 0, none⟩, im, im, pre ++ x :: post, la, ln, lc, l, none, 0, 0, []⟩ k g 0 _ hle hlt rfl).mono ?_
    rintro e w5 ⟨rfl, hb5⟩
    have st := st.later hb5
    rw [Nat.zero_add]
    clear hb5 x0 x1 x2 ci
    go_wp2_with fail
    refine (implNew_any id ports _).mono ?_
    rintro e wz ⟨a2, n2, c2, fa2, fn2, fc2, ra2, rn2, rc2, oa2, on2, oc2, rfl, ow2, hbz⟩
    have hrow := (st.b.below hbz).row
    obtain ⟨⟨t0, t1, t2, t3, t4, t5, t6, t7, t8, t9, t10⟩, f0, f1, f2, f3, f4, f5, f6, f7, f8, f9, f10⟩ := bridge_cells hrow (HAT.out x)
    have HPUT := hide (fun (wq : World) (hq : wq.ownsRow (w.heap.size + 1) 71 11 (.slice (some ⟨g, 0, none⟩) im im) im (brF.all (pre ++ (⟨a2, n2, c2, fa2, fn2, fc2, ra2, rn2, rc2, oa2, on2, oc2, (bridgeNewAt id ports)⟩ : BV) :: post))) (hgq : wz.grownBy wq (some g)) => st.put (y := (⟨a2, n2, c2, fa2, fn2, fc2, ra2, rn2, rc2, oa2, on2, oc2, (bridgeNewAt id ports)⟩ : BV)) hbz ow2 hgq hq)
    have HQ := hide (bridge_over (K := fun W => NnSt w W X la ln lc l (some ⟨g, 0, none⟩) im im (pre ++ (⟨a2, n2, c2, fa2, fn2, fc2, ra2, rn2, rc2, oa2, on2, oc2, (bridgeNewAt id ports)⟩ : BV) :: post)) (⟨a2, n2, c2, fa2, fn2, fc2, ra2, rn2, rc2, oa2, on2, oc2, (bridgeNewAt id ports)⟩ : BV) HJ.out hrow HPUT.out)
    clear hrow ow2 hbz st HPUT
    go_wp2_with fail
    have hnp := bridgeNew_parts id ports
    have hnr := new_rng id ports
    refine (raise_made HQ.out HJ.out hnr.2 ⟨hnp.2.1, hnp.2.2.1, hnp.2.2.2⟩ hnr.1).mono ?_
    rintro e w8 ⟨y, rfl, hyB, st⟩
    have HST := hide st
    have HCN : Hid (((pre ++ y :: post).take (k + 1)).map BV.B = upBs (ids.take (k + 1)) ports) := hide (by
     have e1 : (pre ++ y :: post).take (k + 1) = pre ++ [y] := by
      rw [List.take_append, List.take_of_length_le (by have := HJ.out; omega), HJ.out, show k + 1 - k = 1 by omega]
      rfl
     rw [e1, List.map_append, HC.out, upBs_next2 HID.out, List.map_singleton, hyB])
    clear hnp hnr hyB st HQ t0 t1 t2 t3 t4 t5 t6 t7 t8 t9 t10 f0 f1 f2 f3 f4 f5 f6 f7 f8 f9 f10
    go_wp2
    go_roundw
    case rel => exact ⟨k + 1, _, by omega, by go_num, HST.out, HCN.out⟩
    case measure => simp [intOf]; omega
   ·have hkn : k = im := by omega
    rw [List.take_of_length_le (by omega), List.take_of_length_le (by have := HIS.out; omega)] at hC
    have hin : ∀ x ∈ cs, ∃ id, x.B = raised (bridgeNewAt id ports) := fun x hx => by
     have hm : x.B ∈ cs.map BV.B := List.mem_map_of_mem hx
     rw [hC] at hm
     obtain ⟨i, hi⟩ := List.getElem?_of_mem hm
     obtain ⟨id, -, he⟩ := upBs_at hi
     exact ⟨id, he⟩
    have hN : NetRow wr ⟨some ⟨g, 0, none⟩, im, im, cs, la, ln, lc, l, none, 0, 0, []⟩ := ⟨st.b.grow, fun x hx => (st.b.item x hx).row, grow_own (F := linkF) st.l, grow_nil _ _⟩
    have hfn : ∀ x ∈ cs, x.fn ≤ 16777216 := fun x hx => by
     obtain ⟨id, he⟩ := hin x hx
     have e2 := (st.b.item x hx).row.f.size
     have l4 := (raiseTo_less (bridgeNewAt id ports) (bridgeNewAt id ports).ports.length).2.1
     rw [(new_rng id ports).2] at l4
     rw [he] at e2
     unfold raised at e2
     simp at l4
     rw [l4] at e2
     simp at e2
     omega
    have hRv : ∀ x ∈ cs, ∀ r ∈ x.B.v.rows, r.Rng := fun x hx r hr => by
     obtain ⟨id, he⟩ := hin x hx
     rw [he] at hr
     unfold raised at hr
     rw [(raiseTo_less (bridgeNewAt id ports) _).2.2] at hr
     exact (new_rng id ports).1 r hr
    have HC := hide hC
    clear hC hcl hin
    go_wp2_with fail
    refine (implNetOk_any ⟨some ⟨g, 0, none⟩, im, im, cs, la, ln, lc, l, none, 0, 0, []⟩ _ hN hfn hRv).mono ?_
    rintro e w6 ⟨q, rfl, hq, hb6⟩
    have HQ : Hid (q = true ↔ NetOk (newBs ids ports) l []) := hide (by rw [new_iff, ← HC.out]; exact hq)
    have st := st.later hb6
    clear x0 x1 x2 hN hfn hRv hb6 hq
    obtain ⟨r0, r1, r2⟩ := cells3m st.res
    have f0 := frozen8 st.res 0
    have f1 := frozen8 st.res 1
    have f2 := frozen8 st.res 2
    have ne1 : ¬ w.heap.size = X := by have := st.lt; omega
    have ne2 : ¬ X = w.heap.size := by have := st.lt; omega
    cases q
    ·have HNO : Hid (¬ NetOk (newBs ids ports) l []) := hide (fun h => by have := HQ.out.2 h; cases this)
     have HB := hide (below_set (below_set (below_set st.below (Nat.le_refl _) 0 (.slice none 0 0)) (Nat.le_refl _) 1 (.slice none 0 0)) (Nat.le_refl _) 2 (.slice none 0 0))
     clear HQ st
     go_wp2
     all_goals first | (exfalso; rename_i hf; first | (rw [f0] at hf; cases hf) | (rw [f1] at hf; cases hf) | (rw [f2] at hf; cases hf)) | skip
     exact bodyPost_ret (v := .agg #[.slice none 0 0, .slice none 0 0, .slice none 0 0]) (by simp [results, Tryz.results7, go_sem, *]) rfl (new_none HNO.out HB.out)
    ·have HYES : Hid (NetOk (newBs ids ports) l []) := hide (HQ.out.1 rfl)
     obtain ⟨x0, x1, x2⟩ := cells3m st.box
     have HO := hide st.out.1
     have HB := hide st.out.2
     clear HQ st
     go_wp2
     all_goals first | (exfalso; rename_i hf; first | (rw [f0] at hf; cases hf) | (rw [f1] at hf; cases hf) | (rw [f2] at hf; cases hf)) | skip
     exact bodyPost_ret (v := .agg #[.slice (some ⟨g, 0, none⟩) im im, .slice la ln lc, .slice none 0 0]) (by simp [results, Tryz.results7, go_sem, *]) rfl (show NewAns ids ports l w _ _ from ⟨⟨some ⟨g, 0, none⟩, im, im, cs, la, ln, lc, l, none, 0, 0, []⟩, rfl, HO.out, ⟨fun _ => ⟨HC.out, rfl⟩, fun h => absurd HYES.out h⟩, HB.out⟩)

end Go.Proofs.YtdmplbmfkliiiaaGreat
