/-
  Packed: NetHeld NetMarkN.
-/
import Derived.Test.YtdmplbmfkliiiaaGreatPNKW
import Derived.Test.YtdmplbmfkliiiaaGreatPNK01
import Derived.Test.YtdmplbmfkliiiaaGreatPNK26
import Derived.Deep.RegionHeld3
namespace Go.Proofs.YtdmplbmfkliiiaaGreat
open Go.RowKit

theorem markVs_at (a : List BV) (x : BV) (c : List BV) : ∀ k, (markVs k (a ++ x :: c))[a.length]? = some (markV (endVs k a) x) := by
 induction a with
 | nil => intro k; rfl
 | cons y r ih => intro k; simp only [List.cons_append, markVs, endVs, List.length_cons, List.getElem?_cons_succ, ih]

set_option maxRecDepth 100000 in
set_option maxHeartbeats 8000000 in
theorem heldBridges_any (ao : Option Addr) (n cap : Nat) (l : List BV) (K0 : Int) (w : World) (h : GRow brF w ao n cap (markVs K0 l)) (hr : ∀ x ∈ markVs K0 l, x.Reads w) (ht : ∀ x ∈ l, x.Tiny) (hn : n ≤ 64) (hk0 : 0 < K0) (hk1 : K0 ≤ 1000000) :
  Calls Tryz.prog 61 #[.slice ao n cap, .int .i64 K0] w fun e w' => e = .returned (.int .i64 (endVs K0 l)) ∧ Below w.heap.size w w' := by
 have hl : l.length = n := by have := h.size; rw [markVs_length] at this; exact this
 go_enter Tryz.func61, Tryz.ntmps61
 go_wp2
 go_loopw [1, 5] (fun m i wr => ∃ j : Nat, j ≤ n ∧ i = .int .i64 j ∧ m = .int .i64 (endVs K0 (l.take j)) ∧ Below w.heap.size w wr) (fun _ i _ => n - (intOf i).toNat)
 case atStart => exact ⟨0, Nat.zero_le _, rfl, rfl, Below.refl _ _⟩
 case round =>
  obtain ⟨j, hj, rfl, rfl, hb⟩ := hrel
  by_cases hlt : j < n
  ·obtain ⟨x, hx⟩ : ∃ x, l[j]? = some x := ⟨l[j]'(by omega), List.getElem?_eq_getElem (by omega)⟩
   have htk : l.take (j + 1) = l.take j ++ [x] := by rw [List.take_add_one, hx]; rfl
   obtain ⟨y1, y2, y3, y4⟩ := ht x (List.mem_of_getElem? hx)
   have hKb := endVs_le (l.take j) (fun x hx => ht x (List.mem_of_mem_take hx)) K0
   rw [List.length_take] at hKb
   have HE : Hid (endVs K0 (l.take (j + 1)) = endV (endVs K0 (l.take j)) x) := hide (by rw [htk, endVs_snoc])
   obtain ⟨z, b, off, hz, rfl, -⟩ := br_at (h.below hb) j hlt
   have hzx : z = markV (endVs K0 (l.take j)) x := by
    have e : l = l.take j ++ x :: l.drop (j + 1) := by
     obtain ⟨h, rfl⟩ := List.getElem?_eq_some_iff.1 hx
     rw [← List.drop_eq_getElem_cons h, List.take_append_drop]
    have hc := markVs_at (l.take j) x (l.drop (j + 1)) K0
    rw [← e, List.length_take, Nat.min_eq_left (by omega), hz] at hc
    exact Option.some.inj hc
   have hrz := hr z (List.mem_of_getElem? hz)
   subst hzx
   have HS : Hid (∀ W, Below wr.heap.size wr W → W.cell? ⟨b, off + j * 11, none⟩ = some (.int .i64 (markV (endVs K0 (l.take j)) x).B.id) ∧ W.cell? ⟨b, off + j * 11 + 1, none⟩ = some (.string (markV (endVs K0 (l.take j)) x).B.name) ∧ W.cell? ⟨b, off + j * 11 + 2, none⟩ = some (.slice (markV (endVs K0 (l.take j)) x).a (markV (endVs K0 (l.take j)) x).n (markV (endVs K0 (l.take j)) x).c) ∧ W.cell? ⟨b, off + j * 11 + 3, none⟩ = some (.slice (markV (endVs K0 (l.take j)) x).fa (markV (endVs K0 (l.take j)) x).fn (markV (endVs K0 (l.take j)) x).fc) ∧ W.cell? ⟨b, off + j * 11 + 4, none⟩ = some (.slice (markV (endVs K0 (l.take j)) x).ra (markV (endVs K0 (l.take j)) x).rn (markV (endVs K0 (l.take j)) x).rc) ∧ W.cell? ⟨b, off + j * 11 + 5, none⟩ = some (.slice (markV (endVs K0 (l.take j)) x).oa (markV (endVs K0 (l.take j)) x).on (markV (endVs K0 (l.take j)) x).oc) ∧ W.cell? ⟨b, off + j * 11 + 6, none⟩ = some (.int .i64 (markV (endVs K0 (l.take j)) x).B.ticks) ∧ W.cell? ⟨b, off + j * 11 + 7, none⟩ = some (.int .i64 (markV (endVs K0 (l.take j)) x).B.parse) ∧ W.cell? ⟨b, off + j * 11 + 8, none⟩ = some (.int .i64 (markV (endVs K0 (l.take j)) x).B.word) ∧ W.cell? ⟨b, off + j * 11 + 9, none⟩ = some (.int .i64 (markV (endVs K0 (l.take j)) x).B.drops) ∧ W.cell? ⟨b, off + j * 11 + 10, none⟩ = some (.int .i64 (markV (endVs K0 (l.take j)) x).B.vers)) := hide (fun W hW => bridge_later (h.below hb) hW hz)
   generalize hK : endVs K0 (l.take j) = KK at *
   have i1 : (0 : Int) ≤ (j : Int) := by omega
   have i2 : (j : Int) < (n : Int) := by omega
   have k1 : 0 < KK ∧ KK ≤ 1200000 := by omega
   have HS : Hid (∀ W, Below wr.heap.size wr W → W.cell? ⟨b, off + j * 11, none⟩ = some (.int .i64 KK) ∧ W.cell? ⟨b, off + j * 11 + 1, none⟩ = some (.string (mtx (KK + 1))) ∧ W.cell? ⟨b, off + j * 11 + 2, none⟩ = some (.slice x.a x.n x.c) ∧ W.cell? ⟨b, off + j * 11 + 3, none⟩ = some (.slice x.fa x.fn x.fc) ∧ W.cell? ⟨b, off + j * 11 + 4, none⟩ = some (.slice x.ra x.rn x.rc) ∧ W.cell? ⟨b, off + j * 11 + 5, none⟩ = some (.slice x.oa x.on x.oc) ∧ W.cell? ⟨b, off + j * 11 + 6, none⟩ = some (.int .i64 (endW KK x)) ∧ W.cell? ⟨b, off + j * 11 + 7, none⟩ = some (.int .i64 (endW KK x + 1)) ∧ W.cell? ⟨b, off + j * 11 + 8, none⟩ = some (.int .i64 (endW KK x + 1 + 1)) ∧ W.cell? ⟨b, off + j * 11 + 9, none⟩ = some (.int .i64 (endW KK x + 1 + 1 + 1)) ∧ W.cell? ⟨b, off + j * 11 + 10, none⟩ = some (.int .i64 (endW KK x + 1 + 1 + 1 + 1))) := HS
   have HB := hide hb
   clear hx htk hKb hz hb hK
   obtain ⟨t0, -⟩ := HS.out _ (Below.refl _ wr)
   have vv : Below wr.heap.size wr wr.drew := gr_drew (Below.refl _ _)
   go_wp2_with fail
   refine wp_region_held_drew (S := (fun W => W.cell? ⟨b, off + j * 11 + 1, none⟩ = some (.string (mtx (KK + 1))))) (by kernel_rfl) ((HS.out _ vv).2.1) (fun hHeld => ?_)
   refine kK 0 ⟨some 21, .move (.tmp 0), 28, "exact.go:1239", #[], none⟩ ?_
   refine kK 1 ⟨some 22, .move (.tmp 5), 3, "exact.go:1239", #[], none⟩ ?_
   refine kK 2 ⟨some 23, .indexAddr 28 (.tmp 21) (.tmp 22), 0, "exact.go:1239", #[⟨0, .data⟩, ⟨1, .data⟩], none⟩ ?_
   refine kK 3 ⟨some 24, .fieldAddr 71 (.tmp 23) 1, 0, "exact.go:1239", #[⟨2, .data⟩], none⟩ ?_
   refine kK 4 ⟨some 25, .load 9 (.tmp 24), 9, "exact.go:1239", #[⟨3, .data⟩], none⟩ ?_
   refine kK 5 ⟨some 26, .move (.tmp 1), 3, "exact.go:1239", #[], none⟩ ?_
   refine kR 6 ⟨some 27, .call ⟨.value (.func 91), #[.tmp 26], #[3]⟩, 9, "exact.go:1239", #[⟨5, .data⟩], none⟩ (fun K hK => ?_)
   go_simp
   refine (markText_any (KK + 1) _ (by omega) (by omega)).mono ?_
   rintro r wz ⟨rfl, hms, hbz⟩
   clear hms
   have vv := gr_trans vv hbz
   go_wp2_with fail
   refine hK.out _ _ ((HS.out _ vv).2.1) (fun hHeld => ?_)
   clear hK K
   try simp only [Act.put, lA, lB, lC]
   refine kK 7 ⟨some 28, .binOp .neq 9 (.tmp 25) (.tmp 27) 9, 4, "exact.go:1239", #[⟨4, .data⟩, ⟨6, .data⟩], none⟩ ?_
   refine wpAnyH_done (by kernel_rfl) ?_ _
   clear hHeld t0
   obtain ⟨-, -, t2, t3, t4, t5, -⟩ := HS.out _ vv
   have hrw := hrz.below (gr_trans HB.out vv)
   go_wp2_with fail
   refine (heldPts_any x.a x.n x.c (KK + 1 + 1) _ hrw.ports (by omega) (by omega) (by omega)).mono ?_
   rintro e w3 ⟨rfl, hb3⟩
   have vv := gr_trans vv hb3
   clear t2 t3 t4 t5 hrw hb3
   obtain ⟨-, -, t2, t3, t4, t5, -⟩ := HS.out _ vv
   have hrw := hrz.below (gr_trans HB.out vv)
   have j1 : ¬ (KK + 1 + 1 + 8 * (x.n : Int) < 0) := by omega
   go_wp2_with fail
   refine (heldFents_any x.fa x.fn x.fc (KK + 1 + 1 + 8 * x.n) _ hrw.f (by omega) (by omega) (by omega)).mono ?_
   rintro e w4 ⟨rfl, hb4⟩
   have vv := gr_trans vv hb4
   clear t2 t3 t4 t5 hrw hb4 j1
   obtain ⟨-, -, t2, t3, t4, t5, -⟩ := HS.out _ vv
   have hrw := hrz.below (gr_trans HB.out vv)
   have j1 : ¬ (KK + 1 + 1 + 8 * (x.n : Int) + 5 * (x.fn : Int) < 0) := by omega
   go_wp2_with fail
   refine (heldVrows_any x.ra x.rn x.rc (KK + 1 + 1 + 8 * x.n + 5 * x.fn) _ hrw.v.rows (by omega) (by omega) (by omega)).mono ?_
   rintro e w5 ⟨rfl, hb5⟩
   have vv := gr_trans vv hb5
   clear t2 t3 t4 t5 hrw hb5 j1
   obtain ⟨-, -, t2, t3, t4, t5, -⟩ := HS.out _ vv
   have hrw := hrz.below (gr_trans HB.out vv)
   have j1 : ¬ (KK + 1 + 1 + 8 * (x.n : Int) + 5 * (x.fn : Int) + 3 * (x.rn : Int) < 0) := by omega
   go_wp2_with fail
   refine (heldI_any x.oa x.on x.oc (KK + 1 + 1 + 8 * x.n + 5 * x.fn + 3 * x.rn) _ hrw.v.own (by omega) (by omega) (by omega)).mono ?_
   rintro e w6 ⟨rfl, e6⟩
   obtain rfl := e6.symm
   clear t2 t3 t4 t5 hrw j1
   obtain ⟨-, -, -, -, -, -, t6, t7, t8, t9, t10⟩ := HS.out _ vv
   have HEV : Hid (endV KK x = endW KK x + 1 + 1 + 1 + 1 + 1) := hide rfl
   have hEv : KK + 1 + 1 + 8 * (x.n : Int) + 5 * (x.fn : Int) + 3 * (x.rn : Int) + (x.on : Int) = endW KK x := rfl
   rw [hEv]
   have e1 : 0 < endW KK x ∧ endW KK x ≤ 1300000 := by omega
   have HV := hide (gr_trans HB.out vv)
   clear hEv vv
   generalize hEE : endW KK x = EE at *
   have j1 : ¬ (EE < 0) := by omega
   go_wp2
   go_roundw
   case rel => exact ⟨j + 1, by omega, by go_num, by rw [HE.out, HEV.out], HV.out⟩
   case measure => simp [intOf]; omega
  ·have hj' : j = n := by omega
   subst hj'
   rw [List.take_of_length_le (by omega)]
   go_wp2
   go_ret
   exact ⟨rfl, hb⟩

set_option maxRecDepth 100000 in
set_option maxHeartbeats 400000 in
theorem markBridges_nil (k : Int) (c : Nat) (w : World) :
  Calls Tryz.prog 59 #[.slice none 0 c, .int .i64 k] w fun r w' => r = .returned (.int .i64 k) ∧ w' = w := by
 go_enter Tryz.func59, Tryz.ntmps59
 go_wp2
 go_loop [1, 5] (fun m i => m = .int .i64 k ∧ i = .int .i64 0) (fun _ _ => 0)
 case atStart => exact ⟨rfl, rfl⟩
 case round =>
  obtain ⟨rfl, rfl⟩ := hrel
  go_wp2
  go_ret
  exact ⟨rfl, rfl⟩

theorem markBridges_any (base : Nat) (ao : Option Addr) (n cap : Nat) (l : List BV) (K0 : Int) (w : World) (h : BOs w base ao n cap l) (ht : ∀ x ∈ l, x.Tiny) (hn : n ≤ 64) (hk0 : 0 < K0) (hk1 : K0 ≤ 1000000) :
  Calls Tryz.prog 59 #[.slice ao n cap, .int .i64 K0] w fun e w' => e = .returned (.int .i64 (endVs K0 l)) ∧ BOs w' base ao n cap (markVs K0 l) ∧ Only (allB ao l) w w' := by
 rcases h.row.2 with ⟨e, h0⟩ | ⟨g, cap', cur, e, -⟩
 ·cases e
  have hl : l = [] := List.eq_nil_of_length_eq_zero h.grow.size
  subst hl
  refine (markBridges_nil K0 0 w).mono ?_
  rintro r w' ⟨rfl, rfl⟩
  exact ⟨rfl, h, Only.refl _ _⟩
 ·cases e
  exact markBridges_at base g n cap l K0 w h ht hn hk0 hk1

def markN (M : NV) : NV := { M with bs := markVs 1 M.bs, ls := markLs (endVs 1 M.bs) M.ln }
def endN (M : NV) : Int := endVs 1 M.bs + 4 * M.ln
def NV.blks (M : NV) : List Nat := allB M.ba M.bs ++ blkL M.la

theorem NetOwn.blk {w : World} {base : Nat} {M : NV} (h : NetOwn w base M) : ∀ b ∈ M.blks, base ≤ b ∧ b < w.heap.size := by
 intro b hb
 rcases List.mem_append.1 hb with hb | hb
 ·exact h.b.blk b hb
 ·exact h.l.lt b (mem_blkL.2 hb)

theorem allB_ne {w : World} {base X : Nat} {ao : Option Addr} {n cap : Nat} {l : List BV} {cs : Array Value} {T : TypeId} (h : BOs w base ao n cap l) (hX : w.heap[X]? = some (.cells cs T)) (h0 : (71 : Nat) ≠ T) (h1 : (89 : Nat) ≠ T) (h2 : (112 : Nat) ≠ T) (h3 : (115 : Nat) ≠ T) (h4 : (3 : Nat) ≠ T) : X ∉ allB ao l := by
 intro hm
 rcases List.mem_append.1 hm with hm | hm
 ·exact box_ne h.row hX h0 X (mem_blkL.2 hm) rfl
 ·obtain ⟨x, hx, hb⟩ := List.mem_flatMap.1 hm
  have o := h.item x hx
  rcases mem_blks.1 hb with hb | hb | hb | hb
  ·exact box_ne o.ports hX h1 X (mem_blkL.2 hb) rfl
  ·exact box_ne o.f hX h2 X (mem_blkL.2 hb) rfl
  ·exact box_ne o.v.rows hX h3 X (mem_blkL.2 hb) rfl
  ·exact box_ne o.v.own hX h4 X (mem_blkL.2 hb) rfl

theorem NetOwn.la_apart {w : World} {base : Nat} {M : NV} (h : NetOwn w base M) : ∀ b ∈ blkL M.la, b ∉ allB M.ba M.bs := by
 intro b hb
 rcases h.l.2 with ⟨e, _⟩ | ⟨g, cap', cur, e, _, hh, _⟩
 ·cases e' : M.la with
  | none => rw [e'] at hb; cases hb
  | some a => rw [e'] at e; cases e
 ·cases e' : M.la with
  | none => rw [e'] at hb; cases hb
  | some a =>
   rw [e'] at e hb
   cases e
   simp [blkL] at hb
   subst hb
   exact allB_ne h.b hh (by decide) (by decide) (by decide) (by decide) (by decide)

theorem NetOwn.box_apart {w : World} {base X : Nat} {M : NV} {cs : Array Value} (h : NetOwn w base M) (hX : w.heap[X]? = some (.cells cs 31)) : X ∉ M.blks := by
 intro hm
 rcases List.mem_append.1 hm with hm | hm
 ·exact allB_ne h.b hX (by decide) (by decide) (by decide) (by decide) (by decide) hm
 ·exact box_ne h.l hX (by decide) X (mem_blkL.2 hm) rfl

theorem NetOwn.apartO {w w' : World} {base : Nat} {M : NV} (h : NetOwn w base M) {row : Option Nat} (hg : w.grownBy w' row) (hlt : ∀ b, row = some b → b < base) : NetOwn w' base M := by
 cases row with
 | none => exact h.below ⟨hg.os, hg.tape, hg.output, hg.size, fun k hk => hg.block k hk (by intro e; cases e)⟩
 | some g => exact h.apart hg (hlt g rfl)

set_option maxRecDepth 100000 in
set_option maxHeartbeats 4000000 in
theorem markNet_own (base : Nat) (M : NV) (w : World) (h : NetOwn w base M) (ht : ∀ x ∈ M.bs, x.Tiny) (hn : M.bn ≤ 64) (hl : M.ln ≤ 1048576) :
  Calls Tryz.prog 27 #[.agg #[.slice M.ba M.bn M.bc, .slice M.la M.ln M.lc, .slice M.sa M.sn M.sc], .int .i64 1] w fun e w' => e = .returned (.int .i64 (endN M)) ∧ NetOwn w' base (markN M) ∧ Only M.blks w w' := by
 have HSS := hide h.s
 have hKb := endVs_le M.bs ht 1
 rw [h.b.grow.size] at hKb
 generalize hw1 : w.alloc (Obj.cells #[.slice M.ba M.bn M.bc, .slice M.la M.ln M.lc, .slice M.sa M.sn M.sc] 31) = w1
 have b01 : Below w.heap.size w w1 := by rw [← hw1]; exact below_one _ _
 have k1 : w1.heap[w.heap.size]? = some (.cells #[.slice M.ba M.bn M.bc, .slice M.la M.ln M.lc, .slice M.sa M.sn M.sc] 31) := by rw [← hw1]; exact block_last _ _
 have h1 := h.below b01
 obtain ⟨x0, x1, x2⟩ := cells3n k1
 go_enter Tryz.func27, Tryz.ntmps27
 go_wp2_with fail
 refine (markBridges_any base M.ba M.bn M.bc M.bs 1 _ h1.b ht hn (by omega) (by omega)).mono ?_
 rintro e w2 ⟨rfl, hB2, O2⟩
 have k2 := O2.kept k1 (fun hm => h1.box_apart k1 (List.mem_append_left _ hm))
 have l2 := O2.own h1.l (fun k hk => h1.la_apart k (mem_blkL.1 hk))
 have hap := h1.la_apart
 have HK := hide hKb
 generalize hEV : endVs 1 M.bs = EV at *
 clear x0 x1 x2
 obtain ⟨x0, x1, x2⟩ := cells3n k2
 go_wp2_with fail
 refine (markLinks_grown base M.la M.ln M.lc M.ls EV _ l2 (by omega) (by omega) (by omega)).mono ?_
 rintro e w3 ⟨rfl, l3, hg3⟩
 have O3 := Only.of_grown hg3
 have hB3 : BOs w3 base M.ba M.bn M.bc (markVs 1 M.bs) := hB2.only O3 (fun b hb hc => hap b hc (by unfold allB at hb ⊢; rw [markVs_blks] at hb; exact hb))
 have k3 := kept_grown k2 hg3 (fun k hk => box_ne l2 k2 (by decide) k hk)
 clear x0 x1 x2
 obtain ⟨x0, x1, x2⟩ := cells3n k3
 rw [HSS.out.1, HSS.out.2.1, HSS.out.2.2.1] at x2
 go_wp2_with fail
 refine (markSays_nil (EV + 4 * M.ln) 0 _).mono ?_
 rintro e w4 ⟨rfl, e4⟩
 obtain rfl := e4.symm
 have HO : Hid (NetOwn w3 base (markN M)) := hide ⟨hB3, by unfold markN; rw [hEV]; exact l3, HSS.out⟩
 have HN : Hid (Only M.blks w w3) := hide (only_in (only_in (Only.of_below (bs := M.blks) b01) O2 (fun b hb => List.mem_append_left _ hb)) O3 (fun b hb => List.mem_append_right _ hb))
 have HE : Hid (endN M = EV + 4 * M.ln) := hide (by unfold endN; rw [hEV])
 clear hB2 hB3 l2 l3 O2 O3 hg3 k2 k3 x0 x1 x2 hap h1 h hw1 k1 b01 ht
 go_wp2
 go_ret
 exact ⟨by rw [HE.out]; rfl, HO.out, HN.out⟩

set_option maxRecDepth 100000 in
set_option maxHeartbeats 4000000 in
theorem heldNet_any (base : Nat) (M : NV) (w : World) (h : NetOwn w base (markN M)) (ht : ∀ x ∈ M.bs, x.Tiny) (hn : M.bn ≤ 64) (hl : M.ln ≤ 1048576) :
  Calls Tryz.prog 28 #[.agg #[.slice M.ba M.bn M.bc, .slice M.la M.ln M.lc, .slice M.sa M.sn M.sc], .int .i64 1] w fun e w' => e = .returned (.int .i64 (endN M)) ∧ Below w.heap.size w w' := by
 have HSS : Hid (M.sa = none ∧ M.sn = 0 ∧ M.sc = 0 ∧ M.ss = []) := hide h.s
 have hlen : M.bs.length = M.bn := by have := h.b.grow.size; rw [← markVs_length M.bs 1]; exact this
 have hKb := endVs_le M.bs ht 1
 rw [hlen] at hKb
 have hr := h.row
 generalize hw1 : w.alloc (Obj.cells #[.slice M.ba M.bn M.bc, .slice M.la M.ln M.lc, .slice M.sa M.sn M.sc] 31) = w1
 have b01 : Below w.heap.size w w1 := by rw [← hw1]; exact below_one _ _
 have k1 : w1.heap[w.heap.size]? = some (.cells #[.slice M.ba M.bn M.bc, .slice M.la M.ln M.lc, .slice M.sa M.sn M.sc] 31) := by rw [← hw1]; exact block_last _ _
 obtain ⟨x0, x1, x2⟩ := cells3n k1
 have hr1 := hr.below b01
 go_enter Tryz.func28, Tryz.ntmps28
 go_wp2_with fail
 refine (heldBridges_any M.ba M.bn M.bc M.bs 1 _ hr1.b hr1.item ht hn (by omega) (by omega)).mono ?_
 rintro e w2 ⟨rfl, hb2⟩
 have k2 := kept_block k1 hb2
 have b02 := gr_trans b01 hb2
 have hl2 : GRow linkF w2 M.la M.ln M.lc (markLs (endVs 1 M.bs) M.ln) := (hr.below b02).l
 have HK := hide hKb
 generalize hEV : endVs 1 M.bs = EV at *
 have j1 : ¬ (EV < 0) := by omega
 clear x0 x1 x2 hb2
 obtain ⟨x0, x1, x2⟩ := cells3n k2
 go_wp2_with fail
 refine (heldLinks_any M.la M.ln M.lc EV _ hl2 (by omega) (by omega) (by omega)).mono ?_
 rintro e w3 ⟨rfl, hb3⟩
 have k3 := kept_block k2 hb3
 have b03 := gr_trans b02 hb3
 have j2 : ¬ (EV + 4 * (M.ln : Int) < 0) := by omega
 clear x0 x1 x2 hb3
 obtain ⟨x0, x1, x2⟩ := cells3n k3
 rw [HSS.out.1, HSS.out.2.1, HSS.out.2.2.1] at x2
 go_wp2_with fail
 refine (heldSays_nil (EV + 4 * M.ln) 0 _).mono ?_
 rintro e w4 ⟨rfl, e4⟩
 obtain rfl := e4.symm
 have HE : Hid (endN M = EV + 4 * M.ln) := hide (by unfold endN; rw [hEV])
 clear x0 x1 x2 k3 k2 hr hr1 h ht hl2
 go_wp2
 go_ret
 exact ⟨by rw [HE.out]; rfl, b03⟩

end Go.Proofs.YtdmplbmfkliiiaaGreat
