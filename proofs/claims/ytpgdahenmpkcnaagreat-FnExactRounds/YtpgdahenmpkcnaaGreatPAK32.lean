/-
  Packed: StepDel NetIn.
-/
import Derived.Test.YtpgdahenmpkcnaaGreatPAKW
import Derived.Test.YtpgdahenmpkcnaaGreatPABrStepI
import Derived.Test.YtpgdahenmpkcnaaGreatPABrWithin
import Derived.Test.YtpgdahenmpkcnaaGreatPAK01
import Derived.Test.YtpgdahenmpkcnaaGreatPAK07
import Derived.Test.YtpgdahenmpkcnaaGreatPAK31
import Derived.Deep.CutRange
namespace Go.Proofs.YtpgdahenmpkcnaaGreat
open Go.RowKit

abbrev q350 : Oper := ⟨some 7, .move (.tmp 0), 76, "l14_step.go:149", #[], none⟩
abbrev q351 : Oper := ⟨some 8, .nilCheck (.tmp 7), 0, "l14_step.go:149", #[⟨0, .data⟩], none⟩
abbrev q352 : Oper := ⟨some 9, .fieldAddr 79 (.tmp 8) 0, 0, "l14_step.go:149", #[⟨1, .data⟩], none⟩
abbrev q353 : Oper := ⟨some 10, .load 34 (.tmp 9), 34, "l14_step.go:149", #[⟨2, .data⟩], none⟩
abbrev q354 : Oper := ⟨some 11, .fieldAddr 99 (.tmp 3) 0, 0, "l14_step.go:149", #[], none⟩
abbrev q355 : Oper := ⟨some 12, .load 3 (.tmp 11), 3, "l14_step.go:149", #[⟨4, .data⟩], none⟩
abbrev q356 : Oper := ⟨some 13, .call ⟨.value (.func 102), #[.tmp 10, .tmp 12], #[34, 3]⟩, 4, "l14_step.go:149", #[⟨3, .data⟩, ⟨5, .data⟩], none⟩
abbrev q357 : Oper := ⟨some 14, .unOp .not 4 (.tmp 13), 4, "l14_step.go:149", #[⟨6, .data⟩], none⟩
abbrev q358 : Oper := ⟨some 27, .call ⟨.value (.func 103), #[.tmp 24, .tmp 26], #[110, 4]⟩, 149, "l14_step.go:152", #[⟨8, .data⟩, ⟨10, .data⟩], none⟩
abbrev q359 : Oper := ⟨some 15, .move (.tmp 27), 149, "l14_step.go:152", #[⟨11, .data⟩], none⟩
abbrev q360 : Oper := ⟨some 28, .extract (.tmp 15) 0, 148, "l14_step.go:152", #[⟨12, .data⟩], none⟩
abbrev q361 : Oper := ⟨some 29, .extract (.tmp 15) 1, 148, "l14_step.go:152", #[⟨12, .data⟩, { on := 17, ground := Ground.gcOnly Departure.lateStores }], none⟩
abbrev q362 : Oper := ⟨some 4, .alloc 148, 0, "l14_step.go:152", #[], none⟩
abbrev q363 : Oper := ⟨some 5, .alloc 148, 0, "l14_step.go:152", #[], none⟩
abbrev q364 : Oper := ⟨none, .store 148 (.tmp 4) (.tmp 28), 0, "l14_step.go:152", #[⟨15, .data⟩, ⟨13, .data⟩, ⟨11, .chain⟩, ⟨0, .phase⟩, ⟨1, .phase⟩, ⟨2, .phase⟩, ⟨3, .phase⟩, ⟨4, .phase⟩, ⟨5, .phase⟩, ⟨6, .phase⟩, ⟨7, .phase⟩, ⟨8, .phase⟩, ⟨9, .phase⟩, ⟨10, .phase⟩, ⟨11, .phase⟩, ⟨12, .phase⟩, ⟨13, .phase⟩, { on := 14, ground := Ground.textOnly Departure.lateStores }, ⟨15, .phase⟩, ⟨16, .phase⟩], none⟩
abbrev q365 : Oper := ⟨none, .store 148 (.tmp 5) (.tmp 29), 0, "l14_step.go:152", #[⟨16, .data⟩, ⟨14, .data⟩, ⟨17, .chain⟩, ⟨0, .phase⟩, ⟨1, .phase⟩, ⟨2, .phase⟩, ⟨3, .phase⟩, ⟨4, .phase⟩, ⟨5, .phase⟩, ⟨6, .phase⟩, ⟨7, .phase⟩, ⟨8, .phase⟩, ⟨9, .phase⟩, ⟨10, .phase⟩, ⟨11, .phase⟩, ⟨12, .phase⟩, ⟨13, .phase⟩, ⟨14, .phase⟩, ⟨15, .phase⟩, ⟨16, .phase⟩, ⟨17, .phase⟩], none⟩

def BR.Rg (B : BR) : Prop := (∀ x ∈ B.f, x.Rng) ∧ ∀ r ∈ B.v.rows, r.Rng

set_option maxRecDepth 100000 in
set_option maxHeartbeats 4000000 in
theorem deliver_no (M : NV) (base X k : Nat) (back : Bool) (v : VD) (w : World) (h : NiSt w base X M) (hu : linkUp M.brs M.ls (k : Int) = false) :
  Calls Tryz.prog 55 #[.pointer (some ⟨X, 0, none⟩), .agg #[.int .i64 (k : Int), .bool back, .int .i64 v.r, .int .i64 v.c, .int .i64 v.h, .int .i64 v.b, .int .i64 v.p]] w fun e w' => e = .returned (.tuple #[]) ∧ NiSt w' base X M ∧ Below base w w' := by
 have HU := hide hu
 clear hu
 generalize hw1 : w.alloc (Obj.cells #[.int .i64 (k : Int), .bool back, .int .i64 v.r, .int .i64 v.c, .int .i64 v.h, .int .i64 v.b, .int .i64 v.p] 99) = w1
 have b01 : Below w.heap.size w w1 := by rw [← hw1]; exact below_one _ _
 have kS : w1.heap[w.heap.size]? = some (.cells #[.int .i64 (k : Int), .bool back, .int .i64 v.r, .int .i64 v.c, .int .i64 v.h, .int .i64 v.b, .int .i64 v.p] 99) := by rw [← hw1]; exact block_last _ _
 have HZ1 : Hid (w1.heap.size = w.heap.size + 1) := hide (by rw [← hw1]; simp)
 have HSZ := hide h.size
 have st := h.later b01
 have HB1 := hide (b01.mono h.size)
 clear h b01
 go_enter Tryz.func55, Tryz.ntmps55
 go_upto_region 1 with fail
 clear hw1
 have vv : Below w1.heap.size w1 w1.drew := gr_drew (Below.refl _ _)
 refine wp_region_held_drew (S := (fun W => (W.cell? ⟨X, 0, none⟩ = some (.slice M.ba M.bn M.bc) ∧ W.cell? ⟨X, 1, none⟩ = some (.slice M.la M.ln M.lc) ∧ W.cell? ⟨X, 2, none⟩ = some (.slice M.sa M.sn M.sc)) ∧ (W.cell? ⟨w.heap.size, 0, none⟩ = some (.int .i64 (k : Int)) ∧ W.cell? ⟨w.heap.size, 1, none⟩ = some (.bool back) ∧ W.cell? ⟨w.heap.size, 2, none⟩ = some (.int .i64 v.r) ∧ W.cell? ⟨w.heap.size, 3, none⟩ = some (.int .i64 v.c) ∧ W.cell? ⟨w.heap.size, 4, none⟩ = some (.int .i64 v.h) ∧ W.cell? ⟨w.heap.size, 5, none⟩ = some (.int .i64 v.b) ∧ W.cell? ⟨w.heap.size, 6, none⟩ = some (.int .i64 v.p)))) (by kernel_rfl) (⟨cells3m (kept_block st.box vv), cells7 (kept_block kS vv)⟩) (fun hHeld => ?_)
 refine kK 0 q350 ?_
 refine kK 1 q351 ?_
 refine kK 2 q352 ?_
 refine kK 3 q353 ?_
 refine kK 4 q354 ?_
 refine kK 5 q355 ?_
 refine kR 6 q356 (fun K hK => ?_)
 go_simp
 refine (implLinkUp_any M (k : Int) _ (st.own.below vv).row).mono ?_
 rintro e wz ⟨rfl, hbz⟩
 rw [HU.out]
 have vv := gr_trans vv hbz
 go_wp2_with fail
 refine hK.out _ _ (⟨cells3m (kept_block st.box vv), cells7 (kept_block kS vv)⟩) (fun hHeld => ?_)
 clear hK K
 try simp only [Act.put, lA, lB, lC]
 refine kK 7 q357 ?_
 refine wpAnyH_done (by kernel_rfl) ?_ _
 have HST := hide (st.later vv)
 have HB := hide (HB1.out.trans (vv.mono st.size))
 clear hHeld st vv kS
 go_wp2
 exact bodyPost_ret (v := .tuple #[]) (by simp [results, Tryz.results55, go_sem, *]) rfl ⟨rfl, HST.out, HB.out⟩

set_option maxRecDepth 100000 in
set_option maxHeartbeats 16000000 in
theorem deliver_yes (M : NV) (base X k i : Nat) (back : Bool) (v : VD) (x : LK) (y : BV) (fb fp tp : Int) (w : World) (h : NiSt w base X M) (hu : linkUp M.brs M.ls (k : Int) = true) (hx : M.ls[k]? = some x) (hway : Way x back fb fp (i : Int) tp) (hy0 : M.bs[i]? = some y) (hsm : y.Small20) (hrg : y.B.Rg) :
  Calls Tryz.prog 55 #[.pointer (some ⟨X, 0, none⟩), .agg #[.int .i64 (k : Int), .bool back, .int .i64 v.r, .int .i64 v.c, .int .i64 v.h, .int .i64 v.b, .int .i64 v.p]] w fun e w' => e = .returned (.tuple #[]) ∧ ∃ y2 : BV, y2.B = hearB y.B tp v ∧ NiSt w' base X { M with bs := M.bs.set i y2 } ∧ Below base w w' := by
 obtain ⟨ba, bn, bc, bs, la, ln, lc, ls, sa, sn, sc, ss⟩ := M
 obtain ⟨xa, xp, xb, xq⟩ := x
 have HU := hide hu
 dsimp only at hx hy0 ⊢
 have hk : k < ln := by have h1 := (List.getElem?_eq_some_iff.1 hx).1; have h2 : ls.length = ln := h.own.row.l.size; omega
 have hib : i < bn := by have h1 := (List.getElem?_eq_some_iff.1 hy0).1; have h2 : bs.length = bn := h.own.b.grow.size; omega
 have hle : bn ≤ 9223372036854775807 := by have h1 := Nat.le_trans h.own.b.grow.le h.own.b.grow.top; unfold maxLen at h1; exact h1
 obtain ⟨g, hg⟩ : ∃ g, ba = some ⟨g, 0, none⟩ := own_some h.own.b.row (show 0 < bn by omega)
 subst hg
 obtain ⟨x', lb, lo, hx', hla, -⟩ := link_at h.own.row.l k hk
 dsimp only at hx' hla
 subst hla
 clear hx'
 obtain ⟨pre, post, hsp, hpl, hset⟩ := split_at hy0
 have HSET := hide hset
 have HPL := hide hpl
 subst hsp
 have HG : Hid (g < w.heap.size) := hide (h.own.b.row.lt g rfl).2
 have HAT : Hid ((pre ++ y :: post)[i]? = some y) := hide hy0
 have HSM := hide hsm
 have HRG := hide hrg
 have HLK := hide hx
 have HWAY := hide hway
 clear hset hpl hy0 hsm hrg hx hway hu
 have i1 : (0 : Int) ≤ (k : Int) := by omega
 have i2 : (k : Int) < (ln : Int) := by omega
 generalize hw1 : w.alloc (Obj.cells #[.int .i64 (k : Int), .bool back, .int .i64 v.r, .int .i64 v.c, .int .i64 v.h, .int .i64 v.b, .int .i64 v.p] 99) = w1
 have b01 : Below w.heap.size w w1 := by rw [← hw1]; exact below_one _ _
 have kS : w1.heap[w.heap.size]? = some (.cells #[.int .i64 (k : Int), .bool back, .int .i64 v.r, .int .i64 v.c, .int .i64 v.h, .int .i64 v.b, .int .i64 v.p] 99) := by rw [← hw1]; exact block_last _ _
 have HZ1 : Hid (w1.heap.size = w.heap.size + 1) := hide (by rw [← hw1]; simp)
 have HSZ := hide h.size
 have st := h.later b01
 have HB1 := hide (b01.mono h.size)
 clear h b01
 go_enter Tryz.func55, Tryz.ntmps55
 go_upto_region 1 with fail
 clear hw1
 have vv : Below w1.heap.size w1 w1.drew := gr_drew (Below.refl _ _)
 refine wp_region_held_drew (S := (fun W => (W.cell? ⟨X, 0, none⟩ = some (.slice (some ⟨g, 0, none⟩) bn bc) ∧ W.cell? ⟨X, 1, none⟩ = some (.slice (some ⟨lb, lo, none⟩) ln lc) ∧ W.cell? ⟨X, 2, none⟩ = some (.slice sa sn sc)) ∧ (W.cell? ⟨w.heap.size, 0, none⟩ = some (.int .i64 (k : Int)) ∧ W.cell? ⟨w.heap.size, 1, none⟩ = some (.bool back) ∧ W.cell? ⟨w.heap.size, 2, none⟩ = some (.int .i64 v.r) ∧ W.cell? ⟨w.heap.size, 3, none⟩ = some (.int .i64 v.c) ∧ W.cell? ⟨w.heap.size, 4, none⟩ = some (.int .i64 v.h) ∧ W.cell? ⟨w.heap.size, 5, none⟩ = some (.int .i64 v.b) ∧ W.cell? ⟨w.heap.size, 6, none⟩ = some (.int .i64 v.p)))) (by kernel_rfl) (⟨cells3m (kept_block st.box vv), cells7 (kept_block kS vv)⟩) (fun hHeld => ?_)
 refine kK 0 q350 ?_
 refine kK 1 q351 ?_
 refine kK 2 q352 ?_
 refine kK 3 q353 ?_
 refine kK 4 q354 ?_
 refine kK 5 q355 ?_
 refine kR 6 q356 (fun K hK => ?_)
 go_simp
 refine (implLinkUp_any ⟨some ⟨g, 0, none⟩, bn, bc, pre ++ y :: post, some ⟨lb, lo, none⟩, ln, lc, ls, sa, sn, sc, ss⟩ (k : Int) _ (st.own.below vv).row).mono ?_
 rintro e wz ⟨rfl, hbz⟩
 rw [HU.out]
 have vv := gr_trans vv hbz
 go_wp2_with fail
 refine hK.out _ _ (⟨cells3m (kept_block st.box vv), cells7 (kept_block kS vv)⟩) (fun hHeld => ?_)
 clear hK K
 try simp only [Act.put, lA, lB, lC]
 refine kK 7 q357 ?_
 refine wpAnyH_done (by kernel_rfl) ?_ _
 have HB2 := hide (HB1.out.trans (vv.mono st.size))
 have st2 := st.later vv
 have kS2 := kept_block kS vv
 have HZ2 : Hid (w.heap.size < wz.heap.size) := hide (by have := vv.size; have := HZ1.out; omega)
 obtain ⟨w2, hw2⟩ : ∃ u, u = wz := ⟨_, rfl⟩
 subst hw2
 clear hHeld st kS vv hbz HB1 HZ1
 have st := st2
 have kS := kS2
 clear st2 kS2
 have HLC : Hid (∀ W, Below w2.heap.size w2 W → W.cell? ⟨lb, lo + k * 4, none⟩ = some (.int .i64 xa) ∧ W.cell? ⟨lb, lo + k * 4 + 1, none⟩ = some (.int .i64 xp) ∧ W.cell? ⟨lb, lo + k * 4 + 2, none⟩ = some (.int .i64 xb) ∧ W.cell? ⟨lb, lo + k * 4 + 3, none⟩ = some (.int .i64 xq)) := hide (fun W hW => by
  have h2 : GRow linkF w2 (some ⟨lb, lo, none⟩) ln lc ls := st.own.row.l
  have := link_later h2 hW HLK.out
  simpa using this)
 go_upto_region 2 with fail
 go_cut [4, 5] from 15 to 29 (fun _ u wx => ∃ Y : Nat, u = .pointer (some ⟨Y, 0, none⟩) ∧ NiSt wx base X ⟨some ⟨g, 0, none⟩, bn, bc, pre ++ y :: post, some ⟨lb, lo, none⟩, ln, lc, ls, sa, sn, sc, ss⟩ ∧ wx.heap[w.heap.size]? = some (.cells #[.int .i64 (k : Int), .bool back, .int .i64 v.r, .int .i64 v.c, .int .i64 v.h, .int .i64 v.b, .int .i64 v.p] 99) ∧ wx.heap[Y]? = some (.cells #[.int .i64 (i : Int), .int .i64 tp] 148) ∧ w.heap.size < Y ∧ Below base w wx)
 case first =>
  have vv : Below w2.heap.size w2 w2.drew := gr_drew (Below.refl _ _)
  refine wp_region_held_drew (S := (fun W => (W.cell? ⟨X, 0, none⟩ = some (.slice (some ⟨g, 0, none⟩) bn bc) ∧ W.cell? ⟨X, 1, none⟩ = some (.slice (some ⟨lb, lo, none⟩) ln lc) ∧ W.cell? ⟨X, 2, none⟩ = some (.slice sa sn sc)) ∧ (W.cell? ⟨w.heap.size, 0, none⟩ = some (.int .i64 (k : Int)) ∧ W.cell? ⟨w.heap.size, 1, none⟩ = some (.bool back) ∧ W.cell? ⟨w.heap.size, 2, none⟩ = some (.int .i64 v.r) ∧ W.cell? ⟨w.heap.size, 3, none⟩ = some (.int .i64 v.c) ∧ W.cell? ⟨w.heap.size, 4, none⟩ = some (.int .i64 v.h) ∧ W.cell? ⟨w.heap.size, 5, none⟩ = some (.int .i64 v.b) ∧ W.cell? ⟨w.heap.size, 6, none⟩ = some (.int .i64 v.p)) ∧ (W.cell? ⟨lb, lo + k * 4, none⟩ = some (.int .i64 xa) ∧ W.cell? ⟨lb, lo + k * 4 + 1, none⟩ = some (.int .i64 xp) ∧ W.cell? ⟨lb, lo + k * 4 + 2, none⟩ = some (.int .i64 xb) ∧ W.cell? ⟨lb, lo + k * 4 + 3, none⟩ = some (.int .i64 xq)))) (by kernel_rfl) (⟨cells3m (kept_block st.box vv), cells7 (kept_block kS vv), HLC.out _ vv⟩) (fun hHeld => ?_)
  refine kK 0 ⟨some 16, .move (.tmp 0), 76, "l14_step.go:152", #[], none⟩ ?_
  refine kK 1 ⟨some 17, .nilCheck (.tmp 16), 0, "l14_step.go:152", #[⟨0, .data⟩], none⟩ ?_
  refine kK 2 ⟨some 18, .fieldAddr 79 (.tmp 17) 0, 0, "l14_step.go:152", #[⟨1, .data⟩], none⟩ ?_
  refine kK 3 ⟨some 19, .fieldAddr 34 (.tmp 18) 1, 0, "l14_step.go:152", #[⟨2, .data⟩], none⟩ ?_
  refine kK 4 ⟨some 20, .load 31 (.tmp 19), 31, "l14_step.go:152", #[⟨3, .data⟩], none⟩ ?_
  refine kK 5 ⟨some 21, .fieldAddr 99 (.tmp 3) 0, 0, "l14_step.go:152", #[], none⟩ ?_
  refine kK 6 ⟨some 22, .load 3 (.tmp 21), 3, "l14_step.go:152", #[⟨5, .data⟩], none⟩ ?_
  refine kK 7 ⟨some 23, .indexAddr 31 (.tmp 20) (.tmp 22), 0, "l14_step.go:152", #[⟨4, .data⟩, ⟨6, .data⟩], none⟩ ?_
  refine kK 8 ⟨some 24, .load 110 (.tmp 23), 110, "l14_step.go:152", #[⟨7, .data⟩], none⟩ ?_
  refine kK 9 ⟨some 25, .fieldAddr 99 (.tmp 3) 1, 0, "l14_step.go:152", #[], none⟩ ?_
  refine kK 10 ⟨some 26, .load 4 (.tmp 25), 4, "l14_step.go:152", #[⟨9, .data⟩], none⟩ ?_
  refine tR [11, 15, 16] ?_
  refine AllReadyH.cons (o := q358) rfl (fun K hK => ?_) ?_
  ·go_simp
   refine (wayOf_any ⟨xa, xp, xb, xq⟩ back fb fp (i : Int) tp _ HWAY.out).mono ?_
   rintro e wz ⟨rfl, hbz⟩
   try have kA := kept_block kA hbz
   try have kC := kept_block kC hbz
   have vv := gr_trans vv hbz
   go_wp2_with fail
   refine hK.out _ _ (⟨cells3m (kept_block st.box vv), cells7 (kept_block kS vv), HLC.out _ vv⟩) (fun hHeld => ?_)
   clear hK K
   try simp only [Act.put, lA, lB, lC]
   refine kK 12 q359 ?_
   refine kK 13 q360 ?_
   refine kK 14 q361 ?_
   refine tR [15, 16] ?_
   refine AllReadyH.cons (o := q362) rfl (fun K hK => ?_) ?_
   ·go_simp
    first
    | refine made_new (K := K _) (fun wx4 kA hbx => ?_)
    | refine made_drew (K := K _) (fun wx4 kA hbx => ?_)
    have gA : w2.heap.size ≤ _ := vv.size
    try have dA := blk_lt kC
    try have kC := kept_block kC hbx
    have vv := gr_trans vv hbx
    clear hbx
    refine hK.out _ _ (⟨cells3m (kept_block st.box vv), cells7 (kept_block kS vv), HLC.out _ vv⟩) (fun hHeld => ?_)
    clear hK K
    try simp only [Act.put, lA, lB, lC]
    refine kR 16 q363 (fun K hK => ?_)
    go_simp
    first
    | refine made_new (K := K _) (fun wx5 kC hbx => ?_)
    | refine made_drew (K := K _) (fun wx5 kC hbx => ?_)
    have gC : w2.heap.size ≤ _ := vv.size
    try have dC := blk_lt kA
    try have kA := kept_block kA hbx
    have vv := gr_trans vv hbx
    clear hbx
    refine hK.out _ _ (⟨cells3m (kept_block st.box vv), cells7 (kept_block kS vv), HLC.out _ vv⟩) (fun hHeld => ?_)
    clear hK K
    try simp only [Act.put, lA, lB, lC]
    refine kR 17 q364 (fun K hK => ?_)
    obtain ⟨xx0, xx1⟩ := cells2n kA
    have ff0 := frozen8 kA 0
    have ff1 := frozen8 kA 1
    go_simp
    refine made_set2 (K := K _) kA _ _ (fun wq4 kQ hgq => ?_)
    have vv := vv.grown hgq vv.size (by intro j e; cases e; exact gA)
    have kC := kept_grown kC hgq (by intro j e; cases e; first | (clear dA; omega) | omega)
    clear xx0 xx1 ff0 ff1 kQ hgq
    refine hK.out _ _ (⟨cells3m (kept_block st.box vv), cells7 (kept_block kS vv), HLC.out _ vv⟩) (fun hHeld => ?_)
    clear hK K
    try simp only [Act.put, lA, lB, lC]
    refine kR 18 q365 (fun K hK => ?_)
    obtain ⟨xx0, xx1⟩ := cells2n kC
    have ff0 := frozen8 kC 0
    have ff1 := frozen8 kC 1
    go_simp
    refine made_set2 (K := K _) kC _ _ (fun wq5 kQ hgq => ?_)
    have vv := vv.grown hgq vv.size (by intro j e; cases e; exact gC)
    clear xx0 xx1 ff0 ff1
    refine hK.out _ _ (⟨cells3m (kept_block st.box vv), cells7 (kept_block kS vv), HLC.out _ vv⟩) (fun hHeld => ?_)
    clear hK K
    try simp only [Act.put, lA, lB, lC]
    refine wpAnyH_done (by kernel_rfl) ?_ _
    clear hHeld
    go_wp2_with fail
    go_meet
    exact ⟨_, rfl, st.later vv, kept_block kS vv, kQ, by have := HZ2.out; omega, HB2.out.trans (vv.mono st.size)⟩
   refine AllReadyH.cons (o := q363) rfl (fun K hK => ?_) ?_
   ·go_simp
    first
    | refine made_new (K := K _) (fun wx5 kC hbx => ?_)
    | refine made_drew (K := K _) (fun wx5 kC hbx => ?_)
    have gC : w2.heap.size ≤ _ := vv.size
    try have dC := blk_lt kA
    try have kA := kept_block kA hbx
    have vv := gr_trans vv hbx
    clear hbx
    refine hK.out _ _ (⟨cells3m (kept_block st.box vv), cells7 (kept_block kS vv), HLC.out _ vv⟩) (fun hHeld => ?_)
    clear hK K
    try simp only [Act.put, lA, lB, lC]
    refine kR 15 q362 (fun K hK => ?_)
    go_simp
    first
    | refine made_new (K := K _) (fun wx4 kA hbx => ?_)
    | refine made_drew (K := K _) (fun wx4 kA hbx => ?_)
    have gA : w2.heap.size ≤ _ := vv.size
    try have dA := blk_lt kC
    try have kC := kept_block kC hbx
    have vv := gr_trans vv hbx
    clear hbx
    refine hK.out _ _ (⟨cells3m (kept_block st.box vv), cells7 (kept_block kS vv), HLC.out _ vv⟩) (fun hHeld => ?_)
    clear hK K
    try simp only [Act.put, lA, lB, lC]
    refine kR 17 q364 (fun K hK => ?_)
    obtain ⟨xx0, xx1⟩ := cells2n kA
    have ff0 := frozen8 kA 0
    have ff1 := frozen8 kA 1
    go_simp
    refine made_set2 (K := K _) kA _ _ (fun wq4 kQ hgq => ?_)
    have vv := vv.grown hgq vv.size (by intro j e; cases e; exact gA)
    have kC := kept_grown kC hgq (by intro j e; cases e; first | (clear dA; omega) | omega)
    clear xx0 xx1 ff0 ff1 kQ hgq
    refine hK.out _ _ (⟨cells3m (kept_block st.box vv), cells7 (kept_block kS vv), HLC.out _ vv⟩) (fun hHeld => ?_)
    clear hK K
    try simp only [Act.put, lA, lB, lC]
    refine kR 18 q365 (fun K hK => ?_)
    obtain ⟨xx0, xx1⟩ := cells2n kC
    have ff0 := frozen8 kC 0
    have ff1 := frozen8 kC 1
    go_simp
    refine made_set2 (K := K _) kC _ _ (fun wq5 kQ hgq => ?_)
    have vv := vv.grown hgq vv.size (by intro j e; cases e; exact gC)
    clear xx0 xx1 ff0 ff1
    refine hK.out _ _ (⟨cells3m (kept_block st.box vv), cells7 (kept_block kS vv), HLC.out _ vv⟩) (fun hHeld => ?_)
    clear hK K
    try simp only [Act.put, lA, lB, lC]
    refine wpAnyH_done (by kernel_rfl) ?_ _
    clear hHeld
    go_wp2_with fail
    go_meet
    exact ⟨_, rfl, st.later vv, kept_block kS vv, kQ, by have := HZ2.out; omega, HB2.out.trans (vv.mono st.size)⟩
   exact AllReadyH.nil
  refine AllReadyH.cons (o := q362) rfl (fun K hK => ?_) ?_
  ·go_simp
   first
   | refine made_new (K := K _) (fun wx4 kA hbx => ?_)
   | refine made_drew (K := K _) (fun wx4 kA hbx => ?_)
   have gA : w2.heap.size ≤ _ := vv.size
   try have dA := blk_lt kC
   try have kC := kept_block kC hbx
   have vv := gr_trans vv hbx
   clear hbx
   refine hK.out _ _ (⟨cells3m (kept_block st.box vv), cells7 (kept_block kS vv), HLC.out _ vv⟩) (fun hHeld => ?_)
   clear hK K
   try simp only [Act.put, lA, lB, lC]
   refine tR [11, 16] ?_
   refine AllReadyH.cons (o := q358) rfl (fun K hK => ?_) ?_
   ·go_simp
    refine (wayOf_any ⟨xa, xp, xb, xq⟩ back fb fp (i : Int) tp _ HWAY.out).mono ?_
    rintro e wz ⟨rfl, hbz⟩
    try have kA := kept_block kA hbz
    try have kC := kept_block kC hbz
    have vv := gr_trans vv hbz
    go_wp2_with fail
    refine hK.out _ _ (⟨cells3m (kept_block st.box vv), cells7 (kept_block kS vv), HLC.out _ vv⟩) (fun hHeld => ?_)
    clear hK K
    try simp only [Act.put, lA, lB, lC]
    refine kK 12 q359 ?_
    refine kK 13 q360 ?_
    refine kK 14 q361 ?_
    refine kR 16 q363 (fun K hK => ?_)
    go_simp
    first
    | refine made_new (K := K _) (fun wx5 kC hbx => ?_)
    | refine made_drew (K := K _) (fun wx5 kC hbx => ?_)
    have gC : w2.heap.size ≤ _ := vv.size
    try have dC := blk_lt kA
    try have kA := kept_block kA hbx
    have vv := gr_trans vv hbx
    clear hbx
    refine hK.out _ _ (⟨cells3m (kept_block st.box vv), cells7 (kept_block kS vv), HLC.out _ vv⟩) (fun hHeld => ?_)
    clear hK K
    try simp only [Act.put, lA, lB, lC]
    refine kR 17 q364 (fun K hK => ?_)
    obtain ⟨xx0, xx1⟩ := cells2n kA
    have ff0 := frozen8 kA 0
    have ff1 := frozen8 kA 1
    go_simp
    refine made_set2 (K := K _) kA _ _ (fun wq4 kQ hgq => ?_)
    have vv := vv.grown hgq vv.size (by intro j e; cases e; exact gA)
    have kC := kept_grown kC hgq (by intro j e; cases e; first | (clear dA; omega) | omega)
    clear xx0 xx1 ff0 ff1 kQ hgq
    refine hK.out _ _ (⟨cells3m (kept_block st.box vv), cells7 (kept_block kS vv), HLC.out _ vv⟩) (fun hHeld => ?_)
    clear hK K
    try simp only [Act.put, lA, lB, lC]
    refine kR 18 q365 (fun K hK => ?_)
    obtain ⟨xx0, xx1⟩ := cells2n kC
    have ff0 := frozen8 kC 0
    have ff1 := frozen8 kC 1
    go_simp
    refine made_set2 (K := K _) kC _ _ (fun wq5 kQ hgq => ?_)
    have vv := vv.grown hgq vv.size (by intro j e; cases e; exact gC)
    clear xx0 xx1 ff0 ff1
    refine hK.out _ _ (⟨cells3m (kept_block st.box vv), cells7 (kept_block kS vv), HLC.out _ vv⟩) (fun hHeld => ?_)
    clear hK K
    try simp only [Act.put, lA, lB, lC]
    refine wpAnyH_done (by kernel_rfl) ?_ _
    clear hHeld
    go_wp2_with fail
    go_meet
    exact ⟨_, rfl, st.later vv, kept_block kS vv, kQ, by have := HZ2.out; omega, HB2.out.trans (vv.mono st.size)⟩
   refine AllReadyH.cons (o := q363) rfl (fun K hK => ?_) ?_
   ·go_simp
    first
    | refine made_new (K := K _) (fun wx5 kC hbx => ?_)
    | refine made_drew (K := K _) (fun wx5 kC hbx => ?_)
    have gC : w2.heap.size ≤ _ := vv.size
    try have dC := blk_lt kA
    try have kA := kept_block kA hbx
    have vv := gr_trans vv hbx
    clear hbx
    refine hK.out _ _ (⟨cells3m (kept_block st.box vv), cells7 (kept_block kS vv), HLC.out _ vv⟩) (fun hHeld => ?_)
    clear hK K
    try simp only [Act.put, lA, lB, lC]
    refine kR 11 q358 (fun K hK => ?_)
    go_simp
    refine (wayOf_any ⟨xa, xp, xb, xq⟩ back fb fp (i : Int) tp _ HWAY.out).mono ?_
    rintro e wz ⟨rfl, hbz⟩
    try have kA := kept_block kA hbz
    try have kC := kept_block kC hbz
    have vv := gr_trans vv hbz
    go_wp2_with fail
    refine hK.out _ _ (⟨cells3m (kept_block st.box vv), cells7 (kept_block kS vv), HLC.out _ vv⟩) (fun hHeld => ?_)
    clear hK K
    try simp only [Act.put, lA, lB, lC]
    refine kK 12 q359 ?_
    refine kK 13 q360 ?_
    refine kK 14 q361 ?_
    refine kR 17 q364 (fun K hK => ?_)
    obtain ⟨xx0, xx1⟩ := cells2n kA
    have ff0 := frozen8 kA 0
    have ff1 := frozen8 kA 1
    go_simp
    refine made_set2 (K := K _) kA _ _ (fun wq4 kQ hgq => ?_)
    have vv := vv.grown hgq vv.size (by intro j e; cases e; exact gA)
    have kC := kept_grown kC hgq (by intro j e; cases e; first | (clear dA; omega) | omega)
    clear xx0 xx1 ff0 ff1 kQ hgq
    refine hK.out _ _ (⟨cells3m (kept_block st.box vv), cells7 (kept_block kS vv), HLC.out _ vv⟩) (fun hHeld => ?_)
    clear hK K
    try simp only [Act.put, lA, lB, lC]
    refine kR 18 q365 (fun K hK => ?_)
    obtain ⟨xx0, xx1⟩ := cells2n kC
    have ff0 := frozen8 kC 0
    have ff1 := frozen8 kC 1
    go_simp
    refine made_set2 (K := K _) kC _ _ (fun wq5 kQ hgq => ?_)
    have vv := vv.grown hgq vv.size (by intro j e; cases e; exact gC)
    clear xx0 xx1 ff0 ff1
    refine hK.out _ _ (⟨cells3m (kept_block st.box vv), cells7 (kept_block kS vv), HLC.out _ vv⟩) (fun hHeld => ?_)
    clear hK K
    try simp only [Act.put, lA, lB, lC]
    refine wpAnyH_done (by kernel_rfl) ?_ _
    clear hHeld
    go_wp2_with fail
    go_meet
    exact ⟨_, rfl, st.later vv, kept_block kS vv, kQ, by have := HZ2.out; omega, HB2.out.trans (vv.mono st.size)⟩
   exact AllReadyH.nil
  refine AllReadyH.cons (o := q363) rfl (fun K hK => ?_) ?_
  ·go_simp
   first
   | refine made_new (K := K _) (fun wx5 kC hbx => ?_)
   | refine made_drew (K := K _) (fun wx5 kC hbx => ?_)
   have gC : w2.heap.size ≤ _ := vv.size
   try have dC := blk_lt kA
   try have kA := kept_block kA hbx
   have vv := gr_trans vv hbx
   clear hbx
   refine hK.out _ _ (⟨cells3m (kept_block st.box vv), cells7 (kept_block kS vv), HLC.out _ vv⟩) (fun hHeld => ?_)
   clear hK K
   try simp only [Act.put, lA, lB, lC]
   refine tR [11, 15] ?_
   refine AllReadyH.cons (o := q358) rfl (fun K hK => ?_) ?_
   ·go_simp
    refine (wayOf_any ⟨xa, xp, xb, xq⟩ back fb fp (i : Int) tp _ HWAY.out).mono ?_
    rintro e wz ⟨rfl, hbz⟩
    try have kA := kept_block kA hbz
    try have kC := kept_block kC hbz
    have vv := gr_trans vv hbz
    go_wp2_with fail
    refine hK.out _ _ (⟨cells3m (kept_block st.box vv), cells7 (kept_block kS vv), HLC.out _ vv⟩) (fun hHeld => ?_)
    clear hK K
    try simp only [Act.put, lA, lB, lC]
    refine kK 12 q359 ?_
    refine kK 13 q360 ?_
    refine kK 14 q361 ?_
    refine kR 15 q362 (fun K hK => ?_)
    go_simp
    first
    | refine made_new (K := K _) (fun wx4 kA hbx => ?_)
    | refine made_drew (K := K _) (fun wx4 kA hbx => ?_)
    have gA : w2.heap.size ≤ _ := vv.size
    try have dA := blk_lt kC
    try have kC := kept_block kC hbx
    have vv := gr_trans vv hbx
    clear hbx
    refine hK.out _ _ (⟨cells3m (kept_block st.box vv), cells7 (kept_block kS vv), HLC.out _ vv⟩) (fun hHeld => ?_)
    clear hK K
    try simp only [Act.put, lA, lB, lC]
    refine kR 17 q364 (fun K hK => ?_)
    obtain ⟨xx0, xx1⟩ := cells2n kA
    have ff0 := frozen8 kA 0
    have ff1 := frozen8 kA 1
    go_simp
    refine made_set2 (K := K _) kA _ _ (fun wq4 kQ hgq => ?_)
    have vv := vv.grown hgq vv.size (by intro j e; cases e; exact gA)
    have kC := kept_grown kC hgq (by intro j e; cases e; first | (clear dA; omega) | omega)
    clear xx0 xx1 ff0 ff1 kQ hgq
    refine hK.out _ _ (⟨cells3m (kept_block st.box vv), cells7 (kept_block kS vv), HLC.out _ vv⟩) (fun hHeld => ?_)
    clear hK K
    try simp only [Act.put, lA, lB, lC]
    refine kR 18 q365 (fun K hK => ?_)
    obtain ⟨xx0, xx1⟩ := cells2n kC
    have ff0 := frozen8 kC 0
    have ff1 := frozen8 kC 1
    go_simp
    refine made_set2 (K := K _) kC _ _ (fun wq5 kQ hgq => ?_)
    have vv := vv.grown hgq vv.size (by intro j e; cases e; exact gC)
    clear xx0 xx1 ff0 ff1
    refine hK.out _ _ (⟨cells3m (kept_block st.box vv), cells7 (kept_block kS vv), HLC.out _ vv⟩) (fun hHeld => ?_)
    clear hK K
    try simp only [Act.put, lA, lB, lC]
    refine wpAnyH_done (by kernel_rfl) ?_ _
    clear hHeld
    go_wp2_with fail
    go_meet
    exact ⟨_, rfl, st.later vv, kept_block kS vv, kQ, by have := HZ2.out; omega, HB2.out.trans (vv.mono st.size)⟩
   refine AllReadyH.cons (o := q362) rfl (fun K hK => ?_) ?_
   ·go_simp
    first
    | refine made_new (K := K _) (fun wx4 kA hbx => ?_)
    | refine made_drew (K := K _) (fun wx4 kA hbx => ?_)
    have gA : w2.heap.size ≤ _ := vv.size
    try have dA := blk_lt kC
    try have kC := kept_block kC hbx
    have vv := gr_trans vv hbx
    clear hbx
    refine hK.out _ _ (⟨cells3m (kept_block st.box vv), cells7 (kept_block kS vv), HLC.out _ vv⟩) (fun hHeld => ?_)
    clear hK K
    try simp only [Act.put, lA, lB, lC]
    refine kR 11 q358 (fun K hK => ?_)
    go_simp
    refine (wayOf_any ⟨xa, xp, xb, xq⟩ back fb fp (i : Int) tp _ HWAY.out).mono ?_
    rintro e wz ⟨rfl, hbz⟩
    try have kA := kept_block kA hbz
    try have kC := kept_block kC hbz
    have vv := gr_trans vv hbz
    go_wp2_with fail
    refine hK.out _ _ (⟨cells3m (kept_block st.box vv), cells7 (kept_block kS vv), HLC.out _ vv⟩) (fun hHeld => ?_)
    clear hK K
    try simp only [Act.put, lA, lB, lC]
    refine kK 12 q359 ?_
    refine kK 13 q360 ?_
    refine kK 14 q361 ?_
    refine kR 17 q364 (fun K hK => ?_)
    obtain ⟨xx0, xx1⟩ := cells2n kA
    have ff0 := frozen8 kA 0
    have ff1 := frozen8 kA 1
    go_simp
    refine made_set2 (K := K _) kA _ _ (fun wq4 kQ hgq => ?_)
    have vv := vv.grown hgq vv.size (by intro j e; cases e; exact gA)
    have kC := kept_grown kC hgq (by intro j e; cases e; first | (clear dA; omega) | omega)
    clear xx0 xx1 ff0 ff1 kQ hgq
    refine hK.out _ _ (⟨cells3m (kept_block st.box vv), cells7 (kept_block kS vv), HLC.out _ vv⟩) (fun hHeld => ?_)
    clear hK K
    try simp only [Act.put, lA, lB, lC]
    refine kR 18 q365 (fun K hK => ?_)
    obtain ⟨xx0, xx1⟩ := cells2n kC
    have ff0 := frozen8 kC 0
    have ff1 := frozen8 kC 1
    go_simp
    refine made_set2 (K := K _) kC _ _ (fun wq5 kQ hgq => ?_)
    have vv := vv.grown hgq vv.size (by intro j e; cases e; exact gC)
    clear xx0 xx1 ff0 ff1
    refine hK.out _ _ (⟨cells3m (kept_block st.box vv), cells7 (kept_block kS vv), HLC.out _ vv⟩) (fun hHeld => ?_)
    clear hK K
    try simp only [Act.put, lA, lB, lC]
    refine wpAnyH_done (by kernel_rfl) ?_ _
    clear hHeld
    go_wp2_with fail
    go_meet
    exact ⟨_, rfl, st.later vv, kept_block kS vv, kQ, by have := HZ2.out; omega, HB2.out.trans (vv.mono st.size)⟩
   exact AllReadyH.nil
  exact AllReadyH.nil
 case rest =>
  obtain ⟨Y, rfl, st3, kS3, kC, hYL, hB3⟩ := hcut
  obtain ⟨w3, hw3⟩ : ∃ u, u = wc := ⟨_, rfl⟩
  subst hw3
  have HYL : Hid (w.heap.size < Y) := hide hYL
  have HB3 := hide hB3
  clear st kS HLC hYL hB3 HB2 HZ2
  have st := st3
  have kS := kS3
  clear st3 kS3
  have vv : Below w3.heap.size w3 w3.drew := gr_drew (Below.refl _ _)
  go_upto_region 3 with fail
  refine wp_region_held_drew (S := (fun W => (W.cell? ⟨X, 0, none⟩ = some (.slice (some ⟨g, 0, none⟩) bn bc) ∧ W.cell? ⟨X, 1, none⟩ = some (.slice (some ⟨lb, lo, none⟩) ln lc) ∧ W.cell? ⟨X, 2, none⟩ = some (.slice sa sn sc)) ∧ (W.cell? ⟨Y, 0, none⟩ = some (.int .i64 (i : Int)) ∧ W.cell? ⟨Y, 1, none⟩ = some (.int .i64 tp)))) (by kernel_rfl) (⟨cells3m (kept_block st.box vv), cells2n (kept_block kC vv)⟩) (fun hHeld => ?_)
  refine kK 0 ⟨some 30, .move (.tmp 0), 76, "l14_step.go:153", #[], none⟩ ?_
  refine kK 1 ⟨some 31, .nilCheck (.tmp 30), 0, "l14_step.go:153", #[⟨0, .data⟩], none⟩ ?_
  refine kK 2 ⟨some 32, .fieldAddr 79 (.tmp 31) 0, 0, "l14_step.go:153", #[⟨1, .data⟩], none⟩ ?_
  refine kK 3 ⟨some 33, .load 34 (.tmp 32), 34, "l14_step.go:153", #[⟨2, .data⟩], none⟩ ?_
  refine kK 4 ⟨some 34, .fieldAddr 148 (.tmp 5) 0, 0, "l14_step.go:153", #[], none⟩ ?_
  refine kK 5 ⟨some 35, .load 3 (.tmp 34), 3, "l14_step.go:153", #[⟨4, .data⟩], none⟩ ?_
  refine kR 6 ⟨some 36, .call ⟨.value (.func 104), #[.tmp 33, .tmp 35], #[34, 3]⟩, 151, "l14_step.go:153", #[⟨3, .data⟩, ⟨5, .data⟩], none⟩ (fun K hK => ?_)
  go_simp
  refine (bridgeAt_yes ⟨some ⟨g, 0, none⟩, bn, bc, pre ++ y :: post, some ⟨lb, lo, none⟩, ln, lc, ls, sa, sn, sc, ss⟩ i g 0 _ hle hib rfl).mono ?_
  rintro e wz ⟨rfl, hbz⟩
  have vv := gr_trans vv hbz
  go_wp2_with fail
  refine hK.out _ _ (⟨cells3m (kept_block st.box vv), cells2n (kept_block kC vv)⟩) (fun hHeld => ?_)
  clear hK K
  try simp only [Act.put, lA, lB, lC]
  refine kK 7 ⟨some 6, .assign (.tmp 36), 151, "l14_step.go:153", #[⟨6, .data⟩, ⟨6, .chain⟩, ⟨0, .phase⟩, ⟨1, .phase⟩, ⟨2, .phase⟩, ⟨3, .phase⟩, ⟨4, .phase⟩, ⟨5, .phase⟩, ⟨6, .phase⟩], none⟩ ?_
  refine wpAnyH_done (by kernel_rfl) ?_ _
  have HB4 := hide (HB3.out.trans (vv.mono st.size))
  have st4 := st.later vv
  have kS4 := kept_block kS vv
  have kC4 := kept_block kC vv
  obtain ⟨w4, hw4⟩ : ∃ u, u = wz := ⟨_, rfl⟩
  subst hw4
  clear hHeld st kS kC vv hbz HB3
  have st := st4
  have vv : Below w4.heap.size w4 w4.drew := gr_drew (Below.refl _ _)
  have kS := kept_block kS4 vv
  have kC := kept_block kC4 vv
  have hyr := (st.own.b.item y (by simp)).row
  obtain ⟨⟨ca0, ca1, ca2, ca3, ca4, ca5, ca6, ca7, ca8, ca9, ca10⟩, -⟩ := bridge_cells (st.own.b.below vv).row HAT.out
  try rw [Nat.zero_add]
  clear st4 kS4 kC4
  go_upto_region 4 with fail
  refine wp_region_held_drew (S := (fun W => (W.cell? ⟨w.heap.size, 0, none⟩ = some (.int .i64 (k : Int)) ∧ W.cell? ⟨w.heap.size, 1, none⟩ = some (.bool back) ∧ W.cell? ⟨w.heap.size, 2, none⟩ = some (.int .i64 v.r) ∧ W.cell? ⟨w.heap.size, 3, none⟩ = some (.int .i64 v.c) ∧ W.cell? ⟨w.heap.size, 4, none⟩ = some (.int .i64 v.h) ∧ W.cell? ⟨w.heap.size, 5, none⟩ = some (.int .i64 v.b) ∧ W.cell? ⟨w.heap.size, 6, none⟩ = some (.int .i64 v.p)) ∧ (W.cell? ⟨Y, 0, none⟩ = some (.int .i64 (i : Int)) ∧ W.cell? ⟨Y, 1, none⟩ = some (.int .i64 tp)))) (by kernel_rfl) (⟨cells7 kS, cells2n kC⟩) (fun hHeld => ?_)
  refine kK 0 ⟨some 37, .move (.tmp 6), 151, "l14_step.go:154", #[], none⟩ ?_
  refine kK 1 ⟨some 38, .move (.tmp 6), 151, "l14_step.go:154", #[], none⟩ ?_
  refine kK 2 ⟨some 39, .nilCheck (.tmp 38), 0, "l14_step.go:154", #[⟨1, .data⟩], none⟩ ?_
  refine kK 4 ⟨some 41, .fieldAddr 148 (.tmp 5) 1, 0, "l14_step.go:154", #[], none⟩ ?_
  refine kK 5 ⟨some 42, .load 3 (.tmp 41), 3, "l14_step.go:154", #[⟨4, .data⟩], none⟩ ?_
  refine kK 6 ⟨some 43, .fieldAddr 99 (.tmp 3) 2, 0, "l14_step.go:154", #[], none⟩ ?_
  refine kK 7 ⟨some 44, .load 95 (.tmp 43), 95, "l14_step.go:154", #[⟨6, .data⟩], none⟩ ?_
  refine kR 3 ⟨some 40, .load 67 (.tmp 39), 67, "l14_step.go:154", #[⟨2, .data⟩], none⟩ (fun K hK => ?_)
  go_simp
  refine hK.out _ _ (⟨cells7 kS, cells2n kC⟩) (fun hHeld => ?_)
  clear hK K
  try simp only [Act.put, lA, lB, lC]
  refine kR 8 ⟨some 45, .call ⟨.value (.func 105), #[.tmp 40, .tmp 42, .tmp 44], #[67, 3, 95]⟩, 67, "l14_step.go:154", #[⟨3, .data⟩, ⟨5, .data⟩, ⟨7, .data⟩], none⟩ (fun K hK => ?_)
  go_simp
  refine (implHear_made y.a y.n y.c y.fa y.fn y.fc y.ra y.rn y.rc y.oa y.on y.oc y.B tp v _ (hyr.below vv) HSM.out.1 HSM.out.2.1 HSM.out.2.2.1 HSM.out.2.2.2 HRG.out.1 HRG.out.2).mono ?_
  rintro e wz ⟨a2, n2, c2, fa2, fn2, fc2, ra2, rn2, rc2, oa2, on2, oc2, rfl, ow2, hbz⟩
  have ow2 := BrOwn.lt ow2 (base' := w4.heap.size) vv.size
  have vv := gr_trans vv hbz
  have kS := kept_block kS hbz
  have kC := kept_block kC hbz
  have hrow := (st.own.b.below vv).row
  obtain ⟨⟨t0, t1, t2, t3, t4, t5, t6, t7, t8, t9, t10⟩, f0, f1, f2, f3, f4, f5, f6, f7, f8, f9, f10⟩ := bridge_cells hrow HAT.out
  go_wp2_with fail
  refine hK.out _ _ (⟨cells7 kS, cells2n kC⟩) (fun hHeld => ?_)
  clear hK K
  try simp only [Act.put, lA, lB, lC]
  refine kK 9 ⟨some 46, .nilCheck (.tmp 37), 0, "l14_step.go:154", #[⟨0, .data⟩, ⟨0, .phase⟩, ⟨1, .phase⟩, ⟨2, .phase⟩, ⟨3, .phase⟩, ⟨4, .phase⟩, ⟨5, .phase⟩, ⟨6, .phase⟩, ⟨7, .phase⟩, ⟨8, .phase⟩], none⟩ ?_
  refine kR 10 ⟨none, .store 67 (.tmp 46) (.tmp 45), 0, "l14_step.go:154", #[⟨9, .data⟩, ⟨8, .data⟩, ⟨8, .chain⟩, ⟨0, .phase⟩, ⟨1, .phase⟩, ⟨2, .phase⟩, ⟨3, .phase⟩, ⟨4, .phase⟩, ⟨5, .phase⟩, ⟨6, .phase⟩, ⟨7, .phase⟩, ⟨8, .phase⟩], none⟩ (fun K hK => ?_)
  go_simp
  refine bridge_over (⟨a2, n2, c2, fa2, fn2, fc2, ra2, rn2, rc2, oa2, on2, oc2, (hearB y.B tp v)⟩ : BV) HPL.out (K := K _) hrow (fun wq hq hgq => ?_)
  have stN := st.put (y := (⟨a2, n2, c2, fa2, fn2, fc2, ra2, rn2, rc2, oa2, on2, oc2, (hearB y.B tp v)⟩ : BV)) rfl rfl vv ow2 hgq hq
  have kS := kept_grown kS hgq (by intro j e; cases e; have := HG.out; omega)
  have kC := kept_grown kC hgq (by intro j e; cases e; have := HG.out; have := HYL.out; omega)
  refine hK.out _ _ (⟨cells7 kS, cells2n kC⟩) (fun hHeld => ?_)
  clear hK K
  try simp only [Act.put, lA, lB, lC]
  refine wpAnyH_done (by kernel_rfl) ?_ _
  have HST := hide stN
  clear hHeld kS kC hq hgq hrow ow2 vv stN
  go_wp2
  refine bodyPost_end (v := .tuple #[]) (by simp [results, Tryz.results55, go_sem, *]) rfl ?_
  refine ⟨rfl, (⟨a2, n2, c2, fa2, fn2, fc2, ra2, rn2, rc2, oa2, on2, oc2, (hearB y.B tp v)⟩ : BV), rfl, ?_, HB4.out.trans HST.out.2⟩
  rw [HSET.out]
  exact HST.out.1

abbrev q366 : Oper := ⟨some 27, .load 30 (.tmp 26), 30, "l14_step.go:98", #[⟨4, .data⟩], none⟩
abbrev q367 : Oper := ⟨some 29, .call ⟨.value (.func 72), #[.tmp 28], #[67]⟩, 130, "l14_step.go:98", #[⟨6, .data⟩], none⟩
abbrev q368 : Oper := ⟨some 30, .call ⟨.value (.func 73), #[.tmp 29], #[130]⟩, 67, "l14_step.go:98", #[⟨7, .data⟩, ⟨7, .chain⟩], none⟩
abbrev q369 : Oper := ⟨some 31, .buildSlice 30 1 #[(0, .tmp 30)], 30, "l14_step.go:98", #[⟨8, .data⟩], none⟩
abbrev q370 : Oper := ⟨some 32, .call ⟨.builtin .append, #[.tmp 27, .tmp 31], #[30, 30]⟩, 30, "l14_step.go:98", #[⟨5, .data⟩, ⟨9, .data⟩, ⟨8, .chain⟩], none⟩
abbrev q371 : Oper := ⟨some 33, .nilCheck (.tmp 22), 0, "l14_step.go:98", #[⟨0, .data⟩, ⟨0, .phase⟩, ⟨1, .phase⟩, ⟨2, .phase⟩, ⟨3, .phase⟩, ⟨4, .phase⟩, ⟨5, .phase⟩, ⟨6, .phase⟩, ⟨7, .phase⟩, ⟨8, .phase⟩, ⟨9, .phase⟩, ⟨10, .phase⟩], none⟩
abbrev q372 : Oper := ⟨some 34, .fieldAddr 79 (.tmp 33) 0, 0, "l14_step.go:98", #[⟨11, .data⟩, ⟨0, .phase⟩, ⟨1, .phase⟩, ⟨2, .phase⟩, ⟨3, .phase⟩, ⟨4, .phase⟩, ⟨5, .phase⟩, ⟨6, .phase⟩, ⟨7, .phase⟩, ⟨8, .phase⟩, ⟨9, .phase⟩, ⟨10, .phase⟩], none⟩
abbrev q373 : Oper := ⟨some 35, .fieldAddr 34 (.tmp 34) 0, 0, "l14_step.go:98", #[⟨12, .data⟩, ⟨0, .phase⟩, ⟨1, .phase⟩, ⟨2, .phase⟩, ⟨3, .phase⟩, ⟨4, .phase⟩, ⟨5, .phase⟩, ⟨6, .phase⟩, ⟨7, .phase⟩, ⟨8, .phase⟩, ⟨9, .phase⟩, ⟨10, .phase⟩], none⟩
abbrev q374 : Oper := ⟨none, .store 30 (.tmp 35) (.tmp 32), 0, "l14_step.go:98", #[⟨13, .data⟩, ⟨10, .data⟩, ⟨10, .chain⟩, ⟨0, .phase⟩, ⟨1, .phase⟩, ⟨2, .phase⟩, ⟨3, .phase⟩, ⟨4, .phase⟩, ⟨5, .phase⟩, ⟨6, .phase⟩, ⟨7, .phase⟩, ⟨8, .phase⟩, ⟨9, .phase⟩, ⟨10, .phase⟩], none⟩

theorem cells11i {w : World} {g : Nat} {T : TypeId} {c0 c1 c2 c3 c4 c5 c6 c7 c8 c9 c10 : Value} (h : w.heap[g]? = some (.cells #[c0, c1, c2, c3, c4, c5, c6, c7, c8, c9, c10] T)) : w.cell? ⟨g, 0, none⟩ = some c0 ∧ w.cell? ⟨g, 1, none⟩ = some c1 ∧ w.cell? ⟨g, 2, none⟩ = some c2 ∧ w.cell? ⟨g, 3, none⟩ = some c3 ∧ w.cell? ⟨g, 4, none⟩ = some c4 ∧ w.cell? ⟨g, 5, none⟩ = some c5 ∧ w.cell? ⟨g, 6, none⟩ = some c6 ∧ w.cell? ⟨g, 7, none⟩ = some c7 ∧ w.cell? ⟨g, 8, none⟩ = some c8 ∧ w.cell? ⟨g, 9, none⟩ = some c9 ∧ w.cell? ⟨g, 10, none⟩ = some c10 := by
 simp [World.cell?, h]

set_option maxRecDepth 100000 in
set_option maxHeartbeats 16000000 in
theorem netWithin_made (N : NV) (w : World) (h : NetRow w N) (hn : N.bn ≤ 16777216) (hl : N.ln ≤ 16777216) (hs : N.sn ≤ 16777216) (hm : ∀ x ∈ N.bs, x.n ≤ 16777216 ∧ x.fn ≤ 16777216 ∧ x.rn ≤ 16777216 ∧ x.on ≤ 16777216) :
  Calls Tryz.prog 38 #[.agg #[.slice N.ba N.bn N.bc, .slice N.la N.ln N.lc, .slice N.sa N.sn N.sc]] w fun e w' => ∃ (X base : Nat) (M : NV), e = .returned (.pointer (some ⟨X, 0, none⟩)) ∧ NiSt w' base X M ∧ M.Same N ∧ w.heap.size ≤ base ∧ Below w.heap.size w w' := by
 generalize hw1 : w.alloc (Obj.cells #[.slice N.ba N.bn N.bc, .slice N.la N.ln N.lc, .slice N.sa N.sn N.sc] 34) = w1
 have b01 : Below w.heap.size w w1 := by rw [← hw1]; exact below_one _ _
 have kP : w1.heap[w.heap.size]? = some (.cells #[.slice N.ba N.bn N.bc, .slice N.la N.ln N.lc, .slice N.sa N.sn N.sc] 34) := by rw [← hw1]; exact block_last _ _
 have HZ : Hid (w1.heap.size = w.heap.size + 1) := hide (by rw [← hw1]; simp)
 have hbl := Nat.le_trans h.b.le h.b.top
 unfold maxLen at hbl
 go_enter Tryz.func38, Tryz.ntmps38
 go_upto_region 1 with fail
 clear hw1
 have vv : Below w1.heap.size w1 w1.drew := gr_drew (Below.refl _ _)
 refine wp_region_held_drew (S := (fun W => W.cell? ⟨w.heap.size, 0, none⟩ = some (.slice N.ba N.bn N.bc) ∧ W.cell? ⟨w.heap.size, 1, none⟩ = some (.slice N.la N.ln N.lc) ∧ W.cell? ⟨w.heap.size, 2, none⟩ = some (.slice N.sa N.sn N.sc))) (by kernel_rfl) (cells3m (kept_block kP vv)) (fun hHeld => ?_)
 refine kK 0 ⟨some 6, .fieldAddr 34 (.tmp 1) 1, 0, "l14_step.go:96", #[], none⟩ ?_
 refine kK 1 ⟨some 7, .load 31 (.tmp 6), 31, "l14_step.go:96", #[⟨0, .data⟩], none⟩ ?_
 refine kK 3 ⟨some 9, .fieldAddr 34 (.tmp 1) 2, 0, "l14_step.go:96", #[], none⟩ ?_
 refine kK 4 ⟨some 10, .load 32 (.tmp 9), 32, "l14_step.go:96", #[⟨3, .data⟩], none⟩ ?_
 refine kR 2 ⟨some 8, .call ⟨.value (.func 70), #[.tmp 7], #[31]⟩, 31, "l14_step.go:96", #[⟨1, .data⟩], none⟩ (fun K hK => ?_)
 go_simp
 refine (cloneL_any N.la N.ln N.lc N.ls _ (h.l.below (gr_trans b01 vv)) (by omega)).mono ?_
 rintro e wz ⟨la, lc, rfl, oL, hbz⟩
 have oL := gown_lt oL vv.size
 have vv := gr_trans vv hbz
 go_wp2_with fail
 refine hK.out _ _ (cells3m (kept_block kP vv)) (fun hHeld => ?_)
 clear hK K
 try simp only [Act.put, lA, lB, lC]
 refine kR 5 ⟨some 11, .call ⟨.value (.func 71), #[.tmp 10], #[32]⟩, 32, "l14_step.go:96", #[⟨4, .data⟩, ⟨2, .chain⟩], none⟩ (fun K hK => ?_)
 go_simp
 refine (cloneS_any N.sa N.sn N.sc N.ss _ (h.s.below (gr_trans b01 vv)) (by omega)).mono ?_
 rintro e wz2 ⟨sa, sc, rfl, oS, hbz⟩
 have oS := gown_lt oS vv.size
 have oL := gown_below oL hbz
 have vv := gr_trans vv hbz
 go_wp2_with fail
 refine hK.out _ _ (cells3m (kept_block kP vv)) (fun hHeld => ?_)
 clear hK K
 try simp only [Act.put, lA, lB, lC]
 refine kK 6 ⟨some 12, .build 34 #[(1, .tmp 8), (2, .tmp 11)], 34, "l14_step.go:96", #[⟨2, .data⟩, ⟨5, .data⟩], none⟩ ?_
 refine kK 7 ⟨some 13, .build 79 #[(0, .tmp 12)], 79, "l14_step.go:96", #[⟨6, .data⟩], none⟩ ?_
 refine kR 8 ⟨some 14, .box 79 (.tmp 13), 76, "l14_step.go:96", #[⟨7, .data⟩], none⟩ (fun K hK => ?_)
 go_simp
 first
 | refine made_new (K := K _) (fun wx kX hbx => ?_)
 | refine made_drew (K := K _) (fun wx kX hbx => ?_)
 have gX := vv.size
 have oS := gown_below oS hbx
 have oL := gown_below oL hbx
 have vv := gr_trans vv hbx
 clear hbx
 refine hK.out _ _ (cells3m (kept_block kP vv)) (fun hHeld => ?_)
 clear hK K
 try simp only [Act.put, lA, lB, lC]
 refine kK 9 ⟨some 3, .assign (.tmp 14), 76, "l14_step.go:96", #[⟨8, .data⟩, ⟨5, .chain⟩, ⟨0, .phase⟩, ⟨1, .phase⟩, ⟨2, .phase⟩, ⟨3, .phase⟩, ⟨4, .phase⟩, ⟨5, .phase⟩, ⟨6, .phase⟩, ⟨7, .phase⟩, ⟨8, .phase⟩], none⟩ ?_
 refine wpAnyH_done (by kernel_rfl) ?_ _
 have st0 : NiSt wx w1.heap.size _ ⟨none, 0, 0, [], la, N.ln, lc, N.ls, sa, N.sn, sc, N.ss⟩ := ⟨kX, ⟨bos_nil _ _, oL, oS⟩, gX⟩
 have hB0 := gr_trans b01 vv
 generalize hXX : wz2.heap.size = X at *
 have HZB : Hid (w.heap.size ≤ w1.heap.size) := hide (by have := HZ.out; omega)
 obtain ⟨x0, x1, x2⟩ := cells3m (kept_block kP vv)
 generalize hbase : w1.heap.size = base at *
 clear hHeld oL oS kX gX vv
 go_wp2_with fail
 go_loopw [18] (fun i wr => ∃ (k : Nat) (M : NV), k ≤ N.bn ∧ i = .int .i64 k ∧ NiSt wr base X M ∧ Below w.heap.size w wr ∧ M.bn = k ∧ M.bs.map BV.B = (N.bs.take k).map BV.B ∧ (M.ls = N.ls ∧ M.ss = N.ss)) (fun i _ => N.bn - (intOf i).toNat)
 case atStart => exact ⟨0, _, Nat.zero_le _, rfl, st0, hB0, rfl, by simp, rfl, rfl⟩
 case round =>
  clear st0 hB0 x0 x1 x2
  obtain ⟨k, M, hk, rfl, st, hB, hMn, hM, hLS⟩ := hrel
  have HMN := hide hMn
  have HM := hide hM
  have HLS := hide hLS
  clear hM hLS
  by_cases hlt : k < N.bn
  ·obtain ⟨x, bb, off, hxx, hba, hcells⟩ := br_at (h.b.below hB) k hlt
   have hx := h.item x (List.mem_of_getElem? hxx)
   have hsm := hm x (List.mem_of_getElem? hxx)
   have HX := hide hxx
   have i1 : (0 : Int) ≤ (k : Int) := by omega
   have i2 : (k : Int) < (N.bn : Int) := by omega
   have hMk : M.bn ≤ 16777216 := by omega
   have HB := hide hB
   have HXL : Hid (X < wr.heap.size) := hide (blk_lt st.box)
   have HLT : Hid (∀ j, (Value.slice M.ba M.bn M.bc).ownBlock = some j → j < wr.heap.size) := hide (fun j hj => (st.own.b.row.lt j hj).2)
   obtain ⟨ca0, ca1, ca2, ca3, ca4, ca5, ca6, ca7, ca8, ca9, ca10⟩ := hcells
   have HBA := hide hba
   rw [hba]
   clear hxx hMn hba
   go_upto_region 5 with fail
   generalize hwb : wr.alloc (Obj.cells #[.int .i64 x.B.id, .string x.B.name, .slice x.a x.n x.c, .slice x.fa x.fn x.fc, .slice x.ra x.rn x.rc, .slice x.oa x.on x.oc, .int .i64 x.B.ticks, .int .i64 x.B.parse, .int .i64 x.B.word, .int .i64 x.B.drops, .int .i64 x.B.vers] 67) = wb
   have b1 : Below wr.heap.size wr wb := by rw [← hwb]; exact below_one _ _
   have kB : wb.heap[wr.heap.size]? = some (.cells #[.int .i64 x.B.id, .string x.B.name, .slice x.a x.n x.c, .slice x.fa x.fn x.fc, .slice x.ra x.rn x.rc, .slice x.oa x.on x.oc, .int .i64 x.B.ticks, .int .i64 x.B.parse, .int .i64 x.B.word, .int .i64 x.B.drops, .int .i64 x.B.vers] 67) := by rw [← hwb]; exact block_last _ _
   have HBL := HZB
   have vv : Below wb.heap.size wb wb.drew := gr_drew (Below.refl _ _)
   have vv := gr_trans b1 vv
   have kB := kept_block kB (gr_drew (Below.refl _ wb))
   have x0 := (cells3m (kept_block st.box vv)).1
   clear hwb b1 ca0 ca1 ca2 ca3 ca4 ca5 ca6 ca7 ca8 ca9 ca10 hB
   refine wp_region_held_drew (S := (fun W => W.cell? ⟨wr.heap.size, 0, none⟩ = some (.int .i64 x.B.id) ∧ W.cell? ⟨wr.heap.size, 1, none⟩ = some (.string x.B.name) ∧ W.cell? ⟨wr.heap.size, 2, none⟩ = some (.slice x.a x.n x.c) ∧ W.cell? ⟨wr.heap.size, 3, none⟩ = some (.slice x.fa x.fn x.fc) ∧ W.cell? ⟨wr.heap.size, 4, none⟩ = some (.slice x.ra x.rn x.rc) ∧ W.cell? ⟨wr.heap.size, 5, none⟩ = some (.slice x.oa x.on x.oc) ∧ W.cell? ⟨wr.heap.size, 6, none⟩ = some (.int .i64 x.B.ticks) ∧ W.cell? ⟨wr.heap.size, 7, none⟩ = some (.int .i64 x.B.parse) ∧ W.cell? ⟨wr.heap.size, 8, none⟩ = some (.int .i64 x.B.word) ∧ W.cell? ⟨wr.heap.size, 9, none⟩ = some (.int .i64 x.B.drops) ∧ W.cell? ⟨wr.heap.size, 10, none⟩ = some (.int .i64 x.B.vers))) (by kernel_rfl) ((cells11i kB)) (fun hHeld => ?_)
   refine kK 0 ⟨some 22, .move (.tmp 3), 76, "l14_step.go:98", #[], none⟩ ?_
   refine kK 1 ⟨some 23, .move (.tmp 3), 76, "l14_step.go:98", #[], none⟩ ?_
   refine kK 2 ⟨some 24, .nilCheck (.tmp 23), 0, "l14_step.go:98", #[⟨1, .data⟩], none⟩ ?_
   refine kK 3 ⟨some 25, .fieldAddr 79 (.tmp 24) 0, 0, "l14_step.go:98", #[⟨2, .data⟩], none⟩ ?_
   refine kK 4 ⟨some 26, .fieldAddr 34 (.tmp 25) 0, 0, "l14_step.go:98", #[⟨3, .data⟩], none⟩ ?_
   refine kK 6 ⟨some 28, .load 67 (.tmp 5), 67, "l14_step.go:98", #[], none⟩ ?_
   refine tR [5, 7] ?_
   refine AllReadyH.cons (o := q366) rfl (fun K hK => ?_) ?_
   ·go_simp
    refine hK.out _ _ ((cells11i kB)) (fun hHeld => ?_)
    clear hK K
    try simp only [Act.put, lA, lB, lC]
    refine kR 7 q367 (fun K hK => ?_)
    go_simp
    refine (implInner_made x.a x.n x.c x.fa x.fn x.fc x.ra x.rn x.rc x.oa x.on x.oc x.B _ (hx.below (gr_trans HB.out vv)) (by omega) (by omega) (by omega) (by omega)).mono ?_
    rintro e wz ⟨a2, c2, fa2, fc2, ra2, rc2, oa2, oc2, rfl, ow2, hbz⟩
    have ow2 := BrOwn.lt ow2 (base' := wr.heap.size) vv.size
    have vv := gr_trans vv hbz
    have x0 := (cells3m (kept_block st.box vv)).1
    have kB := kept_block kB hbz
    go_wp2_with fail
    refine hK.out _ _ ((cells11i kB)) (fun hHeld => ?_)
    clear hK K
    try simp only [Act.put, lA, lB, lC]
    refine kR 8 q368 (fun K hK => ?_)
    go_simp
    refine (implFace_any a2 x.n c2 fa2 x.fn fc2 ra2 x.rn rc2 oa2 x.on oc2 x.B _).mono ?_
    rintro e wz2 ⟨rfl, hbz⟩
    have ow2 := BrOwn.below ow2 hbz
    have vv := gr_trans vv hbz
    have x0 := (cells3m (kept_block st.box vv)).1
    have kB := kept_block kB hbz
    go_wp2_with fail
    refine hK.out _ _ ((cells11i kB)) (fun hHeld => ?_)
    clear hK K
    try simp only [Act.put, lA, lB, lC]
    refine kR 9 q369 (fun K hK => ?_)
    go_simp
    first
    | refine made_new (K := K _) (fun wx kY hbz => ?_)
    | refine made_drew (K := K _) (fun wx kY hbz => ?_)
    have ow2 := BrOwn.below ow2 hbz
    have vv := gr_trans vv hbz
    have x0 := (cells3m (kept_block st.box vv)).1
    have kB := kept_block kB hbz
    refine hK.out _ _ ((cells11i kB)) (fun hHeld => ?_)
    clear hK K
    try simp only [Act.put, lA, lB, lC]
    refine kR 10 q370 (fun K hK => ?_)
    have gn1 : GRow brF wx (some ⟨_, 0, none⟩) 1 1 [(⟨a2, x.n, c2, fa2, x.fn, fc2, ra2, x.rn, rc2, oa2, x.on, oc2, x.B⟩ : BV)] := grow_own (F := brF) (own_lit brF (base := 0) (l := [(⟨a2, x.n, c2, fa2, x.fn, fc2, ra2, x.rn, rc2, oa2, x.on, oc2, x.B⟩ : BV)]) kY rfl (Nat.zero_le _) (by simp))
    have hoN := st.own.b.below vv
    refine step_append_flat (F := brF) rfl _ _ 30 67 rfl base Tryz.underlying30 brInfo rfl (by decide) _ M.bn M.bs rfl hoN.row _ 1 1 _ rfl gn1 (by omega) (Nat.le_trans st.size vv.size) ?_
    intro aL cL wL how _ hgr hbL
    obtain ⟨kX, stN, hBN⟩ := st.push (y := (⟨a2, x.n, c2, fa2, x.fn, fc2, ra2, x.rn, rc2, oa2, x.on, oc2, x.B⟩ : BV)) vv ow2 hgr how
    have x0 := (cells3m kX).1
    have fz := frozen8 kX 0
    have kB := kept_grown kB hgr (fun k hk => by have := HLT.out k hk; omega)
    refine hK.out _ _ ((cells11i kB)) (fun hHeld => ?_)
    clear hK K
    try simp only [Act.put, lA, lB, lC]
    refine kK 11 q371 ?_
    refine kK 12 q372 ?_
    refine kK 13 q373 ?_
    refine kR 14 q374 (fun K hK => ?_)
    go_simp
    have kB := kept_grown kB (grown_set (rb := X) 0 (.slice aL (M.bn + 1) cL)) (by intro k e; cases e; have := HXL.out; omega)
    refine hK.out _ _ ((cells11i kB)) (fun hHeld => ?_)
    clear hK K
    try simp only [Act.put, lA, lB, lC]
    refine wpAnyH_done (by kernel_rfl) ?_ _
    have HST := hide stN
    have HBN := hide (HB.out.trans (hBN.mono HBL.out))
    clear hHeld how hgr hbL hoN kX x0 fz kY gn1 ow2 vv kB stN hBN
    go_wp2
    go_roundw
    case rel => exact ⟨k + 1, _, by omega, by go_num, HST.out, HBN.out, by show M.bn + 1 = k + 1; rw [HMN.out], by rw [List.map_append, HM.out, List.take_add_one, HX.out, List.map_append]; rfl, HLS.out⟩
    case measure => simp [intOf]; omega
   refine AllReadyH.cons (o := q367) rfl (fun K hK => ?_) ?_
   ·go_simp
    refine (implInner_made x.a x.n x.c x.fa x.fn x.fc x.ra x.rn x.rc x.oa x.on x.oc x.B _ (hx.below (gr_trans HB.out vv)) (by omega) (by omega) (by omega) (by omega)).mono ?_
    rintro e wz ⟨a2, c2, fa2, fc2, ra2, rc2, oa2, oc2, rfl, ow2, hbz⟩
    have ow2 := BrOwn.lt ow2 (base' := wr.heap.size) vv.size
    have vv := gr_trans vv hbz
    have x0 := (cells3m (kept_block st.box vv)).1
    have kB := kept_block kB hbz
    go_wp2_with fail
    refine hK.out _ _ ((cells11i kB)) (fun hHeld => ?_)
    clear hK K
    try simp only [Act.put, lA, lB, lC]
    refine tR [5, 8] ?_
    refine AllReadyH.cons (o := q366) rfl (fun K hK => ?_) ?_
    ·go_simp
     refine hK.out _ _ ((cells11i kB)) (fun hHeld => ?_)
     clear hK K
     try simp only [Act.put, lA, lB, lC]
     refine kR 8 q368 (fun K hK => ?_)
     go_simp
     refine (implFace_any a2 x.n c2 fa2 x.fn fc2 ra2 x.rn rc2 oa2 x.on oc2 x.B _).mono ?_
     rintro e wz2 ⟨rfl, hbz⟩
     have ow2 := BrOwn.below ow2 hbz
     have vv := gr_trans vv hbz
     have x0 := (cells3m (kept_block st.box vv)).1
     have kB := kept_block kB hbz
     go_wp2_with fail
     refine hK.out _ _ ((cells11i kB)) (fun hHeld => ?_)
     clear hK K
     try simp only [Act.put, lA, lB, lC]
     refine kR 9 q369 (fun K hK => ?_)
     go_simp
     first
     | refine made_new (K := K _) (fun wx kY hbz => ?_)
     | refine made_drew (K := K _) (fun wx kY hbz => ?_)
     have ow2 := BrOwn.below ow2 hbz
     have vv := gr_trans vv hbz
     have x0 := (cells3m (kept_block st.box vv)).1
     have kB := kept_block kB hbz
     refine hK.out _ _ ((cells11i kB)) (fun hHeld => ?_)
     clear hK K
     try simp only [Act.put, lA, lB, lC]
     refine kR 10 q370 (fun K hK => ?_)
     have gn1 : GRow brF wx (some ⟨_, 0, none⟩) 1 1 [(⟨a2, x.n, c2, fa2, x.fn, fc2, ra2, x.rn, rc2, oa2, x.on, oc2, x.B⟩ : BV)] := grow_own (F := brF) (own_lit brF (base := 0) (l := [(⟨a2, x.n, c2, fa2, x.fn, fc2, ra2, x.rn, rc2, oa2, x.on, oc2, x.B⟩ : BV)]) kY rfl (Nat.zero_le _) (by simp))
     have hoN := st.own.b.below vv
     refine step_append_flat (F := brF) rfl _ _ 30 67 rfl base Tryz.underlying30 brInfo rfl (by decide) _ M.bn M.bs rfl hoN.row _ 1 1 _ rfl gn1 (by omega) (Nat.le_trans st.size vv.size) ?_
     intro aL cL wL how _ hgr hbL
     obtain ⟨kX, stN, hBN⟩ := st.push (y := (⟨a2, x.n, c2, fa2, x.fn, fc2, ra2, x.rn, rc2, oa2, x.on, oc2, x.B⟩ : BV)) vv ow2 hgr how
     have x0 := (cells3m kX).1
     have fz := frozen8 kX 0
     have kB := kept_grown kB hgr (fun k hk => by have := HLT.out k hk; omega)
     refine hK.out _ _ ((cells11i kB)) (fun hHeld => ?_)
     clear hK K
     try simp only [Act.put, lA, lB, lC]
     refine kK 11 q371 ?_
     refine kK 12 q372 ?_
     refine kK 13 q373 ?_
     refine kR 14 q374 (fun K hK => ?_)
     go_simp
     have kB := kept_grown kB (grown_set (rb := X) 0 (.slice aL (M.bn + 1) cL)) (by intro k e; cases e; have := HXL.out; omega)
     refine hK.out _ _ ((cells11i kB)) (fun hHeld => ?_)
     clear hK K
     try simp only [Act.put, lA, lB, lC]
     refine wpAnyH_done (by kernel_rfl) ?_ _
     have HST := hide stN
     have HBN := hide (HB.out.trans (hBN.mono HBL.out))
     clear hHeld how hgr hbL hoN kX x0 fz kY gn1 ow2 vv kB stN hBN
     go_wp2
     go_roundw
     case rel => exact ⟨k + 1, _, by omega, by go_num, HST.out, HBN.out, by show M.bn + 1 = k + 1; rw [HMN.out], by rw [List.map_append, HM.out, List.take_add_one, HX.out, List.map_append]; rfl, HLS.out⟩
     case measure => simp [intOf]; omega
    refine AllReadyH.cons (o := q368) rfl (fun K hK => ?_) ?_
    ·go_simp
     refine (implFace_any a2 x.n c2 fa2 x.fn fc2 ra2 x.rn rc2 oa2 x.on oc2 x.B _).mono ?_
     rintro e wz2 ⟨rfl, hbz⟩
     have ow2 := BrOwn.below ow2 hbz
     have vv := gr_trans vv hbz
     have x0 := (cells3m (kept_block st.box vv)).1
     have kB := kept_block kB hbz
     go_wp2_with fail
     refine hK.out _ _ ((cells11i kB)) (fun hHeld => ?_)
     clear hK K
     try simp only [Act.put, lA, lB, lC]
     refine tR [5, 9] ?_
     refine AllReadyH.cons (o := q366) rfl (fun K hK => ?_) ?_
     ·go_simp
      refine hK.out _ _ ((cells11i kB)) (fun hHeld => ?_)
      clear hK K
      try simp only [Act.put, lA, lB, lC]
      refine kR 9 q369 (fun K hK => ?_)
      go_simp
      first
      | refine made_new (K := K _) (fun wx kY hbz => ?_)
      | refine made_drew (K := K _) (fun wx kY hbz => ?_)
      have ow2 := BrOwn.below ow2 hbz
      have vv := gr_trans vv hbz
      have x0 := (cells3m (kept_block st.box vv)).1
      have kB := kept_block kB hbz
      refine hK.out _ _ ((cells11i kB)) (fun hHeld => ?_)
      clear hK K
      try simp only [Act.put, lA, lB, lC]
      refine kR 10 q370 (fun K hK => ?_)
      have gn1 : GRow brF wx (some ⟨_, 0, none⟩) 1 1 [(⟨a2, x.n, c2, fa2, x.fn, fc2, ra2, x.rn, rc2, oa2, x.on, oc2, x.B⟩ : BV)] := grow_own (F := brF) (own_lit brF (base := 0) (l := [(⟨a2, x.n, c2, fa2, x.fn, fc2, ra2, x.rn, rc2, oa2, x.on, oc2, x.B⟩ : BV)]) kY rfl (Nat.zero_le _) (by simp))
      have hoN := st.own.b.below vv
      refine step_append_flat (F := brF) rfl _ _ 30 67 rfl base Tryz.underlying30 brInfo rfl (by decide) _ M.bn M.bs rfl hoN.row _ 1 1 _ rfl gn1 (by omega) (Nat.le_trans st.size vv.size) ?_
      intro aL cL wL how _ hgr hbL
      obtain ⟨kX, stN, hBN⟩ := st.push (y := (⟨a2, x.n, c2, fa2, x.fn, fc2, ra2, x.rn, rc2, oa2, x.on, oc2, x.B⟩ : BV)) vv ow2 hgr how
      have x0 := (cells3m kX).1
      have fz := frozen8 kX 0
      have kB := kept_grown kB hgr (fun k hk => by have := HLT.out k hk; omega)
      refine hK.out _ _ ((cells11i kB)) (fun hHeld => ?_)
      clear hK K
      try simp only [Act.put, lA, lB, lC]
      refine kK 11 q371 ?_
      refine kK 12 q372 ?_
      refine kK 13 q373 ?_
      refine kR 14 q374 (fun K hK => ?_)
      go_simp
      have kB := kept_grown kB (grown_set (rb := X) 0 (.slice aL (M.bn + 1) cL)) (by intro k e; cases e; have := HXL.out; omega)
      refine hK.out _ _ ((cells11i kB)) (fun hHeld => ?_)
      clear hK K
      try simp only [Act.put, lA, lB, lC]
      refine wpAnyH_done (by kernel_rfl) ?_ _
      have HST := hide stN
      have HBN := hide (HB.out.trans (hBN.mono HBL.out))
      clear hHeld how hgr hbL hoN kX x0 fz kY gn1 ow2 vv kB stN hBN
      go_wp2
      go_roundw
      case rel => exact ⟨k + 1, _, by omega, by go_num, HST.out, HBN.out, by show M.bn + 1 = k + 1; rw [HMN.out], by rw [List.map_append, HM.out, List.take_add_one, HX.out, List.map_append]; rfl, HLS.out⟩
      case measure => simp [intOf]; omega
     refine AllReadyH.cons (o := q369) rfl (fun K hK => ?_) ?_
     ·go_simp
      first
      | refine made_new (K := K _) (fun wx kY hbz => ?_)
      | refine made_drew (K := K _) (fun wx kY hbz => ?_)
      have ow2 := BrOwn.below ow2 hbz
      have vv := gr_trans vv hbz
      have x0 := (cells3m (kept_block st.box vv)).1
      have kB := kept_block kB hbz
      refine hK.out _ _ ((cells11i kB)) (fun hHeld => ?_)
      clear hK K
      try simp only [Act.put, lA, lB, lC]
      refine kR 5 q366 (fun K hK => ?_)
      go_simp
      refine hK.out _ _ ((cells11i kB)) (fun hHeld => ?_)
      clear hK K
      try simp only [Act.put, lA, lB, lC]
      refine kR 10 q370 (fun K hK => ?_)
      have gn1 : GRow brF wx (some ⟨_, 0, none⟩) 1 1 [(⟨a2, x.n, c2, fa2, x.fn, fc2, ra2, x.rn, rc2, oa2, x.on, oc2, x.B⟩ : BV)] := grow_own (F := brF) (own_lit brF (base := 0) (l := [(⟨a2, x.n, c2, fa2, x.fn, fc2, ra2, x.rn, rc2, oa2, x.on, oc2, x.B⟩ : BV)]) kY rfl (Nat.zero_le _) (by simp))
      have hoN := st.own.b.below vv
      refine step_append_flat (F := brF) rfl _ _ 30 67 rfl base Tryz.underlying30 brInfo rfl (by decide) _ M.bn M.bs rfl hoN.row _ 1 1 _ rfl gn1 (by omega) (Nat.le_trans st.size vv.size) ?_
      intro aL cL wL how _ hgr hbL
      obtain ⟨kX, stN, hBN⟩ := st.push (y := (⟨a2, x.n, c2, fa2, x.fn, fc2, ra2, x.rn, rc2, oa2, x.on, oc2, x.B⟩ : BV)) vv ow2 hgr how
      have x0 := (cells3m kX).1
      have fz := frozen8 kX 0
      have kB := kept_grown kB hgr (fun k hk => by have := HLT.out k hk; omega)
      refine hK.out _ _ ((cells11i kB)) (fun hHeld => ?_)
      clear hK K
      try simp only [Act.put, lA, lB, lC]
      refine kK 11 q371 ?_
      refine kK 12 q372 ?_
      refine kK 13 q373 ?_
      refine kR 14 q374 (fun K hK => ?_)
      go_simp
      have kB := kept_grown kB (grown_set (rb := X) 0 (.slice aL (M.bn + 1) cL)) (by intro k e; cases e; have := HXL.out; omega)
      refine hK.out _ _ ((cells11i kB)) (fun hHeld => ?_)
      clear hK K
      try simp only [Act.put, lA, lB, lC]
      refine wpAnyH_done (by kernel_rfl) ?_ _
      have HST := hide stN
      have HBN := hide (HB.out.trans (hBN.mono HBL.out))
      clear hHeld how hgr hbL hoN kX x0 fz kY gn1 ow2 vv kB stN hBN
      go_wp2
      go_roundw
      case rel => exact ⟨k + 1, _, by omega, by go_num, HST.out, HBN.out, by show M.bn + 1 = k + 1; rw [HMN.out], by rw [List.map_append, HM.out, List.take_add_one, HX.out, List.map_append]; rfl, HLS.out⟩
      case measure => simp [intOf]; omega
     exact AllReadyH.nil
    exact AllReadyH.nil
   exact AllReadyH.nil
  ·have hkn : k = N.bn := by omega
   have hlen : N.bs.length = N.bn := h.b.size
   have HM2 : Hid (M.bs.map BV.B = N.bs.map BV.B) := hide (by rw [HM.out, List.take_of_length_le (by omega)])
   have HST := hide st
   have HB := hide hB
   clear st hB hMn
   go_wp2
   go_ret
   exact ⟨X, base, M, rfl, HST.out, ⟨HM2.out, HLS.out.1, HLS.out.2⟩, HZB.out, HB.out⟩

end Go.Proofs.YtpgdahenmpkcnaaGreat
