/-
  Packed: FwdLetI BrInner BrInner2 FdbTab FdbCmp.
-/
import Derived.Test.YtddalpglihhipaaGreatPSKW
import Derived.Test.YtddalpglihhipaaGreatPSFdbImplA
import Derived.Test.YtddalpglihhipaaGreatPSK01
import Derived.Test.YtddalpglihhipaaGreatPSK02
import Derived.Test.YtddalpglihhipaaGreatPSK06
import Derived.Test.YtddalpglihhipaaGreatPSK11
import Derived.Test.YtddalpglihhipaaGreatPSK17
import Derived.Test.YtddalpglihhipaaGreatPSK18
import Derived.Deep.RegionHeld3
namespace Go.Proofs.YtddalpglihhipaaGreat
open Go.RowKit

set_option maxRecDepth 100000 in
set_option maxHeartbeats 4000000 in
theorem implLet_any (a : Option Addr) (n c : Nat) (fa : Option Addr) (fn fc : Nat) (ra : Option Addr) (rn rc : Nat) (oa : Option Addr) (on oc : Nat) (B : BR) (k : Nat) (t : Int) (w : World) (h : BrRow w a n c fa fn fc ra rn rc oa on oc B) (hRv : ∀ r ∈ B.v.rows, r.Rng) (hon : on ≤ 8) (hk : k ≤ 7) :
  Calls Tryz.prog 43 #[.agg #[.int .i64 B.id, .string B.name, .slice a n c, .slice fa fn fc, .slice ra rn rc, .slice oa on oc, .int .i64 B.ticks, .int .i64 B.parse, .int .i64 B.word, .int .i64 B.drops, .int .i64 B.vers], .int .i64 k, .int .i64 t] w fun e w' => e = .returned (.tuple #[.int .i64 (classOf B.v (k : Int) t).1, .bool (letB B (k : Int) t)]) ∧ Below w.heap.size w w' := by
 generalize hL : letB B (k : Int) t = LB
 generalize hci : (classOf B.v (k : Int) t).1 = id
 generalize hcq : (classOf B.v (k : Int) t).2 = q
 have HL : Hid (LB = (bitOf (sendsOf B.id B.ports) (k : Int) && q)) := hide (by rw [← hL, ← hcq]; rfl)
 have HCI := hide hci
 have HCQ := hide hcq
 clear hL hci hcq
 generalize hw1 : w.alloc (Obj.cells #[.int .i64 B.id, .string B.name, .slice a n c, .slice fa fn fc, .slice ra rn rc, .slice oa on oc, .int .i64 B.ticks, .int .i64 B.parse, .int .i64 B.word, .int .i64 B.drops, .int .i64 B.vers] 31) = w1
 have b01 : Below w.heap.size w w1 := by rw [← hw1]; exact below_one _ _
 have kB : w1.heap[w.heap.size]? = some (.cells #[.int .i64 B.id, .string B.name, .slice a n c, .slice fa fn fc, .slice ra rn rc, .slice oa on oc, .int .i64 B.ticks, .int .i64 B.parse, .int .i64 B.word, .int .i64 B.drops, .int .i64 B.vers] 31) := by rw [← hw1]; exact block_last _ _
 obtain ⟨x0, x1, x2, x3, x4, x5, x6, x7, x8, x9, x10⟩ := cells11 kB
 go_enter Tryz.func43, Tryz.ntmps43
 go_wp2_with fail
 refine (implClassOf_any ra rn rc oa on oc B.v (k : Int) t _ (h.v.below b01) hRv hon).mono ?_
 rintro e w2 ⟨rfl, hb2⟩
 have kB := kept_block kB hb2
 have u2 := gr_trans b01 hb2
 clear x0 x1 x2 x3 x4 x5 x6 x7 x8 x9 x10 hb2 hw1 b01
 obtain ⟨x0, x1, x2, x3, x4, x5, x6, x7, x8, x9, x10⟩ := cells11 kB
 rw [HCI.out, HCQ.out]
 cases q
 ·go_wp2
  refine bodyPost_ret (v := .tuple #[.int .i64 id, .bool false]) (by simp [results, Tryz.results43, go_sem, *]) rfl ⟨(by rw [HL.out, Bool.and_false]), u2⟩
 ·go_wp2_with fail
  refine (implSends_any B.id a n c B.ports _ (h.ports.below u2)).mono ?_
  rintro e w3 ⟨rfl, hb3⟩
  have u3 := gr_trans u2 hb3
  clear hb3
  go_wp2_with fail
  refine (implHasPort_any (sendsOf B.id B.ports) (k : Int) (by omega) _).mono ?_
  rintro e w4 ⟨rfl, e4⟩
  obtain rfl := e4.symm
  rw [hasP_same (sends_i64 _ _) (.inl (by omega))]
  generalize hb : bitOf (sendsOf B.id B.ports) (k : Int) = bb
  have HL2 : Hid (LB = bb) := hide (by rw [HL.out, hb, Bool.and_true])
  clear x0 x1 x2 x3 x4 x5 x6 x7 x8 x9 x10 hb
  go_wp2
  refine bodyPost_ret (v := .tuple #[.int .i64 id, .bool bb]) (by simp [results, Tryz.results43, go_sem, *]) rfl ⟨(by rw [HL2.out]), u3⟩

set_option maxRecDepth 100000 in
set_option maxHeartbeats 4000000 in
theorem implWays_any (a : Option Addr) (n c : Nat) (fa : Option Addr) (fn fc : Nat) (ra : Option Addr) (rn rc : Nat) (oa : Option Addr) (on oc : Nat) (B : BR) (k : Nat) (id d : Int) (w : World) (h : BrRow w a n c fa fn fc ra rn rc oa on oc B) (hF : fdbOk B.f = true) (hfn : fn ≤ 16777216) (hk : k ≤ 7) :
  Calls Tryz.prog 47 #[.agg #[.int .i64 B.id, .string B.name, .slice a n c, .slice fa fn fc, .slice ra rn rc, .slice oa on oc, .int .i64 B.ticks, .int .i64 B.parse, .int .i64 B.word, .int .i64 B.drops, .int .i64 B.vers], .int .i64 k, .int .i64 id, .int .i64 d] w fun e w' => e = .returned (.int .i64 (waysB B k id d B.f)) ∧ Below w.heap.size w w' := by
 have hlk := look_rng hF id d
 generalize hWB : waysB B k id d B.f = WB
 have HWB : Hid (WB = if 0 ≤ toB B.f id d then bits .and .i64 (mayB B k id) (2 ^ (toB B.f id d).toNat) else mayB B k id) := hide (by rw [← hWB]; rfl)
 clear hWB
 generalize hw1 : w.alloc (Obj.cells #[.int .i64 B.id, .string B.name, .slice a n c, .slice fa fn fc, .slice ra rn rc, .slice oa on oc, .int .i64 B.ticks, .int .i64 B.parse, .int .i64 B.word, .int .i64 B.drops, .int .i64 B.vers] 31) = w1
 have b01 : Below w.heap.size w w1 := by rw [← hw1]; exact below_one _ _
 have kB : w1.heap[w.heap.size]? = some (.cells #[.int .i64 B.id, .string B.name, .slice a n c, .slice fa fn fc, .slice ra rn rc, .slice oa on oc, .int .i64 B.ticks, .int .i64 B.parse, .int .i64 B.word, .int .i64 B.drops, .int .i64 B.vers] 31) := by rw [← hw1]; exact block_last _ _
 have hw2 := kind_pow k hk
 have k0 : ¬ (k : Int) < 0 := by omega
 have k1 : (0 : Int) ≤ (k : Int) := by omega
 have vv : Below w1.heap.size w1 w1.drew := gr_drew (Below.refl _ _)
 go_enter Tryz.func47, Tryz.ntmps47
 go_wp2_with fail
 try rw [hw1]
 clear hw1
 refine wp_region_held_drew (S := (fun W => (W.cell? ⟨w.heap.size, 0, none⟩ = some (.int .i64 B.id) ∧ W.cell? ⟨w.heap.size, 1, none⟩ = some (.string B.name) ∧ W.cell? ⟨w.heap.size, 2, none⟩ = some (.slice a n c) ∧ W.cell? ⟨w.heap.size, 3, none⟩ = some (.slice fa fn fc) ∧ W.cell? ⟨w.heap.size, 4, none⟩ = some (.slice ra rn rc) ∧ W.cell? ⟨w.heap.size, 5, none⟩ = some (.slice oa on oc) ∧ W.cell? ⟨w.heap.size, 6, none⟩ = some (.int .i64 B.ticks) ∧ W.cell? ⟨w.heap.size, 7, none⟩ = some (.int .i64 B.parse) ∧ W.cell? ⟨w.heap.size, 8, none⟩ = some (.int .i64 B.word) ∧ W.cell? ⟨w.heap.size, 9, none⟩ = some (.int .i64 B.drops) ∧ W.cell? ⟨w.heap.size, 10, none⟩ = some (.int .i64 B.vers)))) (by kernel_rfl) (cells11 (kept_block kB vv)) (fun hHeld => ?_)
 refine kK 0 ⟨some 11, .fieldAddr 31 (.tmp 4) 0, 0, "l12_forward.go:49", #[], none⟩ ?_
 refine kK 1 ⟨some 12, .load 3 (.tmp 11), 3, "l12_forward.go:49", #[⟨0, .data⟩], none⟩ ?_
 refine kK 2 ⟨some 13, .fieldAddr 31 (.tmp 4) 2, 0, "l12_forward.go:49", #[], none⟩ ?_
 refine kK 3 ⟨some 14, .load 24 (.tmp 13), 24, "l12_forward.go:49", #[⟨2, .data⟩], none⟩ ?_
 refine kK 5 ⟨some 16, .fieldAddr 31 (.tmp 4) 4, 0, "l12_forward.go:49", #[], none⟩ ?_
 refine kK 6 ⟨some 17, .load 29 (.tmp 16), 29, "l12_forward.go:49", #[⟨5, .data⟩], none⟩ ?_
 refine kK 7 ⟨some 18, .move (.tmp 2), 3, "l12_forward.go:49", #[], none⟩ ?_
 refine kK 10 ⟨some 21, .move (.tmp 1), 3, "l12_forward.go:49", #[], none⟩ ?_
 refine wpAnyH_take (i := 11) (oi := ⟨some 22, .binOp .shl 3 (.const (.int .i64 1)) (.tmp 21) 3, 3, "l12_forward.go:49", #[⟨10, .data⟩], none⟩) (v := .int .i64 (2 ^ k)) rfl (by kernel_rfl) (by kernel_rfl) (by kernel_rfl) (fun _ _ _ h => h) (Or.inl ⟨by rfl, ?_⟩) (by assumption) ?_
 ·(intro wY hSw; (try dsimp only at hSw); go_simp; first | done | omega)
 simp only [Act.put, lA, lB, lC]
 refine tR [4] ?_
 refine AllReadyH.cons (o := ⟨some 15, .call ⟨.value (.func 14), #[.tmp 12, .tmp 14], #[3, 24]⟩, 3, "l12_forward.go:49", #[⟨1, .data⟩, ⟨3, .data⟩], none⟩) rfl (fun K hK => ?_) ?_
 ·go_simp
  refine (implSends_any B.id a n c B.ports _ (h.ports.below (gr_trans b01 vv))).mono ?_
  rintro e wt ⟨rfl, hbt⟩
  have vv := gr_trans vv hbt
  clear hbt
  go_wp2_with fail
  refine hK.out _ _ (cells11 (kept_block kB vv)) (fun hHeld => ?_)
  clear hK K
  try simp only [Act.put, lA, lB, lC]
  refine tR [8] ?_
  refine AllReadyH.cons (o := ⟨some 19, .call ⟨.value (.func 17), #[.tmp 17, .tmp 18], #[29, 3]⟩, 3, "l12_forward.go:49", #[⟨6, .data⟩, ⟨7, .data⟩, ⟨4, .chain⟩], none⟩) rfl (fun K hK => ?_) ?_
  ·go_simp
   refine (implEgress_any ra rn rc oa on oc B.v id _ (h.v.rows.below (gr_trans b01 vv))).mono ?_
   rintro e wt ⟨rfl, hbt⟩
   have vv := gr_trans vv hbt
   clear hbt
   go_wp2_with fail
   refine hK.out _ _ (cells11 (kept_block kB vv)) (fun hHeld => ?_)
   clear hK K
   try simp only [Act.put, lA, lB, lC]
   refine kK 9 ⟨some 20, .binOp .and 3 (.tmp 15) (.tmp 19) 3, 3, "l12_forward.go:49", #[⟨4, .data⟩, ⟨8, .data⟩], none⟩ ?_
   refine kK 12 ⟨some 23, .binOp .andNot 3 (.tmp 20) (.tmp 22) 3, 3, "l12_forward.go:49", #[⟨9, .data⟩, ⟨11, .data⟩], none⟩ ?_
   refine kK 13 ⟨some 9, .assign (.tmp 23), 3, "l12_forward.go:49", #[⟨12, .data⟩, ⟨8, .chain⟩, ⟨0, .phase⟩, ⟨1, .phase⟩, ⟨2, .phase⟩, ⟨3, .phase⟩, ⟨4, .phase⟩, ⟨5, .phase⟩, ⟨6, .phase⟩, ⟨7, .phase⟩, ⟨8, .phase⟩, ⟨9, .phase⟩, ⟨10, .phase⟩, ⟨11, .phase⟩, ⟨12, .phase⟩], none⟩ ?_
   refine wpAnyH_done (by kernel_rfl) ?_ _
   clear hHeld
   rw [show bits .andNot .i64 (bits .and .i64 (sendsOf B.id B.ports) (egressOf B.v id)) (2 ^ k) = mayB B k id from rfl]
   have u3 := gr_trans b01 vv
   have kB := kept_block kB vv
   clear vv
   obtain ⟨x0, x1, x2, x3, x4, x5, x6, x7, x8, x9, x10⟩ := cells11 kB
   have HTO : Hid (toB B.f id d = if d = 0 then -1 else lookUp B.f id d) := hide rfl
   go_wp2_with fail
   refine (implLookUp_all fa fn fc B.f id d _ (h.f.below u3) hfn).mono ?_
   rintro e w4 ⟨rfl, hb4⟩
   have HU := hide (gr_trans u3 hb4)
   clear x0 x1 x2 x3 x4 x5 x6 x7 x8 x9 x10 hb4 u3 kB
   generalize mayB B k id = M at *
   generalize toB B.f id d = T at *
   generalize lookUp B.f id d = lk at *
   by_cases hd : d = 0
   ·have e2 : WB = M := by rw [HWB.out, HTO.out, if_pos hd]; rfl
    have HE := hide e2
    clear e2
    go_wp2
    all_goals go_ret
    all_goals exact ⟨by rw [HE.out]; rfl, HU.out⟩
   ·by_cases hl : 0 ≤ lk
    ·obtain ⟨t, rfl⟩ : ∃ t : Nat, lk = (t : Int) := ⟨lk.toNat, by omega⟩
     have ht7 : t ≤ 7 := by omega
     have e2 : WB = bits .and .i64 M (2 ^ t) := by rw [HWB.out, HTO.out, if_neg hd, if_pos hl]; rfl
     have HE := hide e2
     have HW2 := hide (wrap_pow t ht7)
     clear e2
     go_wp2
     all_goals go_ret
     all_goals exact ⟨by rw [HE.out, HW2.out]; rfl, HU.out⟩
    ·have e2 : WB = M := by rw [HWB.out, HTO.out, if_neg hd, if_neg hl]
     have HE := hide e2
     clear e2
     go_wp2
     all_goals go_ret
     all_goals exact ⟨by rw [HE.out]; rfl, HU.out⟩
  exact AllReadyH.nil
 exact AllReadyH.nil

theorem cells12 {w : World} {g : Nat} {T : TypeId} {c0 c1 c2 c3 c4 c5 c6 c7 c8 c9 c10 c11 : Value} (h : w.heap[g]? = some (.cells #[c0, c1, c2, c3, c4, c5, c6, c7, c8, c9, c10, c11] T)) :
  w.cell? ⟨g, 0, none⟩ = some c0 ∧ w.cell? ⟨g, 1, none⟩ = some c1 ∧ w.cell? ⟨g, 2, none⟩ = some c2 ∧ w.cell? ⟨g, 3, none⟩ = some c3 ∧ w.cell? ⟨g, 4, none⟩ = some c4 ∧ w.cell? ⟨g, 5, none⟩ = some c5 ∧ w.cell? ⟨g, 6, none⟩ = some c6 ∧ w.cell? ⟨g, 7, none⟩ = some c7 ∧ w.cell? ⟨g, 8, none⟩ = some c8 ∧ w.cell? ⟨g, 9, none⟩ = some c9 ∧ w.cell? ⟨g, 10, none⟩ = some c10 ∧ w.cell? ⟨g, 11, none⟩ = some c11 := by
 simp [World.cell?, h]

structure IbSt (w wr : World) (R X : Nat) (zs cs : Array Value) (TR TX : TypeId) : Prop where
 box : wr.heap[X]? = some (.cells cs TX)
 res : wr.heap[R]? = some (.cells zs TR)
 below : Below w.heap.size w wr
 hX : w.heap.size ≤ X
 hR : w.heap.size ≤ R
 ne : R ≠ X

theorem IbSt.later {w wr wx : World} {R X : Nat} {zs cs : Array Value} {TR TX : TypeId} (h : IbSt w wr R X zs cs TR TX) (hb : Below wr.heap.size wr wx) : IbSt w wx R X zs cs TR TX :=
 ⟨kept_block h.box hb, kept_block h.res hb, gr_trans h.below hb, h.hX, h.hR, h.ne⟩

theorem IbSt.put {w wr : World} {R X : Nat} {zs cs : Array Value} {TR TX : TypeId} (h : IbSt w wr R X zs cs TR TX) (j : Nat) (u : Value) {cs' : Array Value} (he : cs.setIfInBounds j u = cs') : IbSt w (wr.setCell ⟨X, j, none⟩ u) R X zs cs' TR TX :=
 ⟨by rw [← he]; exact box11 h.box j u, kept_set h.res h.ne, below_set h.below h.hX j u, h.hX, h.hR, h.ne⟩

theorem IbSt.grown {w wr wx : World} {R X : Nat} {zs cs : Array Value} {TR TX : TypeId} (h : IbSt w wr R X zs cs TR TX) {base k : Nat} {e : TypeId} {v : Value} {n : Nat} {ys : List Value} (ho : wr.ownsRow base e k v n ys) (h1 : (e : Nat) ≠ TX) (h2 : (e : Nat) ≠ TR) (hg : wr.grownBy wx v.ownBlock) (hb : Below w.heap.size wr wx) : IbSt w wx R X zs cs TR TX :=
 ⟨kept_grown h.box hg (fun i e => box_ne ho h.box h1 i e), kept_grown h.res hg (fun i e => box_ne ho h.res h2 i e), h.below.trans hb, h.hX, h.hR, h.ne⟩

theorem IbSt.stay {w wr : World} {R X : Nat} {zs cs : Array Value} {TR TX : TypeId} (h : IbSt w wr R X zs cs TR TX) {base k : Nat} {e : TypeId} {v : Value} {n : Nat} {ys : List Value} (ho : wr.ownsRow base e k v n ys) (hne : (e : Nat) ≠ TX) (j : Nat) (u : Value) : (wr.setCell ⟨X, j, none⟩ u).ownsRow base e k v n ys :=
 gown_other ho (grown_set (rb := X) j u) (box_ne ho h.box hne)

theorem BrOwn.other {w : World} {base : Nat} {a : Option Addr} {n c : Nat} {fa : Option Addr} {fn fc : Nat} {ra : Option Addr} {rn rc : Nat} {oa : Option Addr} {on oc : Nat} {B : BR} (h : BrOwn w base a n c fa fn fc ra rn rc oa on oc B) {X : Nat} {cs : Array Value} {T : TypeId} (hX : w.heap[X]? = some (.cells cs T)) (h1 : (95 : Nat) ≠ T) (h2 : (97 : Nat) ≠ T) (h3 : (100 : Nat) ≠ T) (h4 : (3 : Nat) ≠ T) (j : Nat) (u : Value) : BrOwn (w.setCell ⟨X, j, none⟩ u) base a n c fa fn fc ra rn rc oa on oc B :=
 ⟨gown_other h.ports (grown_set (rb := X) j u) (box_ne h.ports hX h1), gown_other h.f (grown_set (rb := X) j u) (box_ne h.f hX h2),
  ⟨gown_other h.v.rows (grown_set (rb := X) j u) (box_ne h.v.rows hX h3), gown_other h.v.own (grown_set (rb := X) j u) (box_ne h.v.own hX h4), h.v.i64⟩⟩

set_option maxRecDepth 100000 in
set_option maxHeartbeats 400000 in
theorem implOne_any (n : Int) (w : World) (h : n ≤ 1000000) (h0 : 0 ≤ n) :
  Calls Tryz.prog 44 #[.int .i64 n] w fun e w' => e = .returned (.int .i64 (oneMore n)) ∧ w' = w := by
 by_cases h1 : n ≥ 1000000
 ·have e : n = 1000000 := by omega
  subst e
  rw [show oneMore 1000000 = 1000000 from rfl]
  go_enter Tryz.func44, Tryz.ntmps44
  go_wp2
  go_ret
  exact ⟨rfl, rfl⟩
 ·rw [show oneMore n = n + 1 from if_neg h1]
  have h1' : min (n + 1) (1000000 : Int) = n + 1 := by omega
  go_enter Tryz.func44, Tryz.ntmps44
  go_wp2
  go_ret
  exact ⟨rfl, rfl⟩

set_option maxRecDepth 100000 in
set_option maxHeartbeats 400000 in
theorem implHas_any (a : Option Addr) (n c : Nat) (port : Int) (w : World) (hn : n ≤ 137438953472) :
  Calls Tryz.prog 40 #[.slice a n c, .int .i64 port] w fun e w' => e = .returned (.bool (decide (0 ≤ port) && decide (port ≤ (n : Int) - 1))) ∧ w' = w := by
 go_enter Tryz.func40, Tryz.ntmps40
 go_wp2_with fail
 refine (implIn_any port 0 ((n : Int) - 1) _).mono ?_
 rintro r w3 ⟨rfl, ew⟩
 obtain rfl := ew.symm
 go_wp2
 go_ret
 exact ⟨rfl, rfl⟩

set_option maxRecDepth 100000 in
set_option maxHeartbeats 2000000 in
theorem implFace_any (a : Option Addr) (n c : Nat) (fa : Option Addr) (fn fc : Nat) (ra : Option Addr) (rn rc : Nat) (oa : Option Addr) (on oc : Nat) (B : BR) (w : World) :
  Calls Tryz.prog 42 #[.agg #[.slice a n c, .int .i64 B.id, .string B.name, .slice none 0 0, .slice fa fn fc, .slice ra rn rc, .slice oa on oc, .int .i64 B.ticks, .int .i64 B.parse, .int .i64 B.word, .int .i64 B.drops, .int .i64 B.vers]] w fun e w' => e = .returned (.agg #[.int .i64 B.id, .string B.name, .slice a n c, .slice fa fn fc, .slice ra rn rc, .slice oa on oc, .int .i64 B.ticks, .int .i64 B.parse, .int .i64 B.word, .int .i64 B.drops, .int .i64 B.vers]) ∧ Below w.heap.size w w' := by
 generalize hw1 : w.alloc (Obj.cells #[.slice a n c, .int .i64 B.id, .string B.name, .slice none 0 0, .slice fa fn fc, .slice ra rn rc, .slice oa on oc, .int .i64 B.ticks, .int .i64 B.parse, .int .i64 B.word, .int .i64 B.drops, .int .i64 B.vers] 78) = w1
 generalize hw2 : w1.alloc (Obj.cells #[.int .i64 0, .string ⟨#[]⟩, .slice none 0 0, .slice none 0 0, .slice none 0 0, .slice none 0 0, .int .i64 0, .int .i64 0, .int .i64 0, .int .i64 0, .int .i64 0] 31) = w2
 generalize hw3 : w2.alloc (Obj.cells #[.int .i64 B.id, .string B.name, .slice none 0 0, .slice fa fn fc, .slice ra rn rc, .slice oa on oc, .int .i64 B.ticks, .int .i64 B.parse, .int .i64 B.word, .int .i64 B.drops, .int .i64 B.vers] 31) = w3
 have b01 : Below w.heap.size w w1 := by rw [← hw1]; exact below_one _ _
 have b12 : Below w1.heap.size w1 w2 := by rw [← hw2]; exact below_one _ _
 have b23 : Below w2.heap.size w2 w3 := by rw [← hw3]; exact below_one _ _
 have z1 : w.heap.size < w1.heap.size := by rw [← hw1]; simp
 have z2 : w1.heap.size < w2.heap.size := by rw [← hw2]; simp
 have k1 : w1.heap[w.heap.size]? = some (.cells #[.slice a n c, .int .i64 B.id, .string B.name, .slice none 0 0, .slice fa fn fc, .slice ra rn rc, .slice oa on oc, .int .i64 B.ticks, .int .i64 B.parse, .int .i64 B.word, .int .i64 B.drops, .int .i64 B.vers] 78) := by rw [← hw1]; exact block_last _ _
 have kA := kept_block (kept_block k1 b12) b23
 obtain ⟨x0, x1, x2, x3, x4, x5, x6, x7, x8, x9, x10, x11⟩ := cells12 (kept_block k1 b12)
 have st : BcSt w w3 w1.heap.size w2.heap.size #[.int .i64 B.id, .string B.name, .slice none 0 0, .slice fa fn fc, .slice ra rn rc, .slice oa on oc, .int .i64 B.ticks, .int .i64 B.parse, .int .i64 B.word, .int .i64 B.drops, .int .i64 B.vers] := ⟨by rw [← hw3]; exact block_last _ _, kept_block (by rw [← hw2]; exact block_last _ _) b23, gr_trans (gr_trans b01 b12) b23, by omega, Nat.le_of_lt z1, Nat.ne_of_lt z2⟩
 have nAX : ¬ w.heap.size = w2.heap.size := by omega
 have nXA : ¬ w2.heap.size = w.heap.size := by omega
 have nRX : ¬ w1.heap.size = w2.heap.size := by omega
 have nXR : ¬ w2.heap.size = w1.heap.size := by omega
 clear z1 z2 b01 b12 b23 k1
 go_enter Tryz.func42, Tryz.ntmps42
 go_upto_region 2 with fail
 clear x0 x1 x2 x3 x4 x5 x6 x7 x8 x9 x10 x11
 try rw [hw3]
 clear hw1 hw2 hw3
 generalize hX : w2.heap.size = X at *
 generalize hR : w1.heap.size = R at *
 have st5 := st.put 2 (.slice a n c) (cs' := #[.int .i64 B.id, .string B.name, .slice a n c, .slice fa fn fc, .slice ra rn rc, .slice oa on oc, .int .i64 B.ticks, .int .i64 B.parse, .int .i64 B.word, .int .i64 B.drops, .int .i64 B.vers]) rfl
 have HB := hide (below_set11 st5.below st5.hR (.int .i64 B.id) (.string B.name) (.slice a n c) (.slice fa fn fc) (.slice ra rn rc) (.slice oa on oc) (.int .i64 B.ticks) (.int .i64 B.parse) (.int .i64 B.word) (.int .i64 B.drops) (.int .i64 B.vers))
 obtain ⟨x0, x1, x2, x3, x4, x5, x6, x7, x8, x9, x10, x11⟩ := cells12 kA
 obtain ⟨y0, y1, y2, y3, y4, y5, y6, y7, y8, y9, y10⟩ := cells11 st.box
 obtain ⟨u0, u1, u2, u3, u4, u5, u6, u7, u8, u9, u10⟩ := cells11 st.res
 have g2 := frozen8 st.box 2
 have fr := frozen8 st.res
 have fr0 := fr 0
 have fr1 := fr 1
 have fr2 := fr 2
 have fr3 := fr 3
 have fr4 := fr 4
 have fr5 := fr 5
 have fr6 := fr 6
 have fr7 := fr 7
 have fr8 := fr 8
 have fr9 := fr 9
 have fr10 := fr 10
 clear fr st st5 kA
 go_wp2
 exact bodyPost_ret (v := .agg #[.int .i64 B.id, .string B.name, .slice a n c, .slice fa fn fc, .slice ra rn rc, .slice oa on oc, .int .i64 B.ticks, .int .i64 B.parse, .int .i64 B.word, .int .i64 B.drops, .int .i64 B.vers]) (by simp [results, Tryz.results42, go_sem, *]) rfl ⟨rfl, HB.out⟩

set_option maxRecDepth 100000 in
set_option maxHeartbeats 1000000 in
theorem cloneP_any (ao : Option Addr) (n cap : Nat) (l : List PT) (w : World) (h : GRow ptF w ao n cap l) (hn : n ≤ 16777216) :
  Calls Tryz.prog 106 #[.slice ao n cap] w fun r w' => ∃ ao' cap', r = .returned (.slice ao' n cap') ∧ w'.ownsRow w.heap.size 95 8 (.slice ao' n cap') n (ptF.all l) ∧ Below w.heap.size w w' := by
 cases ao with
 | none =>
  have hc0 := h.nil rfl
  have hn0 : n = 0 := by have := h.le; omega
  subst hc0 hn0
  have hl : l = [] := List.eq_nil_of_length_eq_zero h.size
  subst hl
  have heq : ∀ W, (binOp .eql 24 (.slice none 0 0) (.slice none 0 0)).run Tryz.prog W = .ok (.bool true) W := fun _ => by kernel_rfl
  go_enter Tryz.func106, Tryz.ntmps106
  go_wp2
  go_ret
  exact ⟨none, 0, rfl, World.ownsRow_nil _ _ _ _, Below.refl _ _⟩
 | some a =>
  have heq : ∀ W, (binOp .eql 24 (.slice (some a) n cap) (.slice none 0 0)).run Tryz.prog W = .ok (.bool false) W := fun _ => by kernel_rfl
  go_enter Tryz.func106, Tryz.ntmps106
  go_wp2_with (at_builtin; refine pt_append _ rfl _ _ rfl w.heap.size _ 0 [] rfl (flat_nil ptF w _ 95 w.heap.size (block_last w _) (Nat.le_refl _)) (some a) n cap l rfl (h.below (below_one _ _)) (by omega) (by simp) ?_)
  intro ao' cap' w' how hr hgr hb
  have how : w'.ownsRow w.heap.size 95 8 (.slice ao' n cap') n (ptF.all l) := by simpa using how
  have HO := hide how
  have HB := hide ((below_one w _).trans hb)
  clear how hgr hb hr
  go_wp2
  go_ret
  exact ⟨ao', cap', (by simp), HO.out, HB.out⟩

section
open Go.RowKit Go.Maps

def fkF : Flat FK where
 k := 3
 cs := fun k => [.int .i64 k.1, .int .i64 k.2.1, .int .i64 k.2.2]
 len := fun _ => rfl
 pos := by decide
 one := fun _ v hv => by
  simp only [List.mem_cons, List.not_mem_nil, or_false] at hv
  rcases hv with rfl | rfl | rfl <;> rfl

theorem wf_of {n : Int} (h : -9223372036854775808 ≤ n ∧ n ≤ 9223372036854775807) : (Lit.int .i64 n).wf = true := by
 simp [Lit.wf, IntKind.min, IntKind.max, IntKind.bits, IntKind.signed]
 omega

theorem fk_laid : laidOutB Tryz.prog = true := by kernel_rfl
theorem fk_row : (149 : TypeId) < Tryz.prog.types.size := of_decide_eq_true (by kernel_rfl)
theorem fk_wide : (match Tryz.prog.underlying 149 with | some (.array _ _) | some (.struct _) => true | _ => false) = true := by kernel_rfl
set_option maxRecDepth 100000 in
theorem fk_law : Keyed Tryz.prog 149 := Keyed.of_law (deep_law_laid fk_laid (m := 2) (by omega) fk_row (by kernel_rfl) fk_wide)

def fkV (k : FK) : Value := .agg #[.int .i64 k.1, .int .i64 k.2.1, .int .i64 k.2.2]
def feV (e : FE) : Value := .agg #[.int .i64 e.t, .int .i64 e.m, .int .i64 e.p, .int .i64 e.a, .bool e.s]

theorem fk_key (k : FK) (h : FKok k) : ∃ l, keyOf Tryz.prog 149 (fkV k) = some l := by
 have w1 := wf_of h.1
 have w2 := wf_of h.2.1
 have w3 := wf_of h.2.2
 have h1 : Tryz.prog.keyType 149 = true := by kernel_rfl
 have hc3 : Tryz.prog.cellsOf 149 = 3 := by kernel_rfl
 have hc1 : Tryz.prog.cellsOf 3 = 1 := by kernel_rfl
 have h2 : (fkV k).formed Tryz.prog 149 = true := by simp [fkV, Value.formed, Tryz.underlying149, hc3]
 obtain ⟨q, hq⟩ : ∃ q, Tryz.prog.types.size = q + 1 := ⟨Tryz.prog.types.size - 1, by have : 0 < Tryz.prog.types.size := of_decide_eq_true (by kernel_rfl); omega⟩
 have h3 : Tryz.prog.keyLits (Tryz.prog.types.size + 1) 149 (fkV k).cells.toList = some [.int .i64 k.1, .int .i64 k.2.1, .int .i64 k.2.2] := by
  rw [hq]
  simp [Program.keyLits, fkV, Value.cells, Tryz.underlying149, Tryz.underlying3, hc3, hc1, w1, w2, w3]
 refine ⟨.string (keyBytes [.int .i64 k.1, .int .i64 k.2.1, .int .i64 k.2.2]), ?_⟩
 unfold keyOf
 rw [Tryz.underlying149]
 simp only [h1, h2, h3, Bool.and_self, if_true, Option.map_some]

theorem fkV_inj (a b : FK) (h : fkV a = fkV b) : a = b := by
 obtain ⟨a1, a2, a3⟩ := a
 obtain ⟨b1, b2, b3⟩ := b
 simp [fkV] at h
 obtain ⟨rfl, rfl, rfl⟩ := h
 rfl

def mE : MK Tryz.prog FK FE where
 T := 145
 K := 149
 E := 97
 law := fk_law
 und := Tryz.underlying145
 kv := fkV
 vv := feV
 ok := FKok
 key := fk_key
 inj := fkV_inj
 z := ⟨0, 0, 0, 0, false⟩
 zero := fun _ => by kernel_rfl

def mC : MK Tryz.prog FK Int where
 T := 184
 K := 149
 E := 3
 law := fk_law
 und := Tryz.underlying184
 kv := fkV
 vv := fun n => .int .i64 n
 ok := FKok
 key := fk_key
 inj := fkV_inj
 z := 0
 zero := fun _ => by kernel_rfl

structure TabN (N : Nat) (w : World) (base p bm : Nat) (ks : List FK) (g : FK → Option FE) : Prop where
 box : ∃ ao cap, w.heap[p]? = some (.cells #[.slice ao ks.length cap, .map (some bm)] 147) ∧ w.ownsRow base 149 3 (.slice ao ks.length cap) ks.length (fkF.all ks)
 map : MapIs mE w bm N g
 lp : base ≤ p
 lb : base ≤ bm
 oks : ∀ k ∈ ks, FKok k
 few : ks.length ≤ 16777216

abbrev Tab := TabN 16777216

theorem TabN.below {N : Nat} {w w' : World} {base p bm : Nat} {ks : List FK} {g : FK → Option FE} (h : TabN N w base p bm ks g) (hb : Below w.heap.size w w') : TabN N w' base p bm ks g := by
 obtain ⟨ao, cap, h1, h2⟩ := h.box
 exact ⟨⟨ao, cap, kept_block h1 hb, gown_below h2 hb⟩, h.map.kept hb, h.lp, h.lb, h.oks, h.few⟩

theorem fk_at {w : World} {ao : Option Addr} {len cap : Nat} {l : List FK} (h : GRow fkF w ao len cap l) (i : Nat) (hi : i < len) : ∃ (x : FK) (b off : Nat), l[i]? = some x ∧ ao = some ⟨b, off, none⟩ ∧
  w.cell? ⟨b, off + i * 3, none⟩ = some (.int .i64 x.1) ∧ w.cell? ⟨b, off + i * 3 + 1, none⟩ = some (.int .i64 x.2.1) ∧ w.cell? ⟨b, off + i * 3 + 2, none⟩ = some (.int .i64 x.2.2) := by
 obtain ⟨x, b, off, hx, ha, hc⟩ := h.at i hi
 exact ⟨x, b, off, hx, ha, hc 0 _ rfl, hc 1 _ rfl, hc 2 _ rfl⟩

theorem fkInfo : (Tryz.prog.info? 149).map (fun i => (i.zero, i.size, i.bytes)) = some (some (.agg #[.int .i64 0, .int .i64 0, .int .i64 0]), fkF.k, 24) := by kernel_rfl

set_option maxRecDepth 100000 in
set_option maxHeartbeats 400000 in
theorem firstKey_any (e : FE) (w : World) :
  Calls Tryz.prog 111 #[.agg #[.int .i64 e.t, .int .i64 e.m, .int .i64 e.p, .int .i64 e.a, .bool e.s]] w fun r w' => r = .returned (.agg #[.int .i64 e.t, .int .i64 e.m, .int .i64 0]) ∧ Below w.heap.size w w' := by
 go_enter Tryz.func111, Tryz.ntmps111
 go_wp2
 exact bodyPost_ret (v := .agg #[.int .i64 e.t, .int .i64 e.m, .int .i64 0]) (by simp [results, Tryz.results111, go_sem, *]) rfl ⟨rfl, below_two _ _ _⟩

end

abbrev q302 : Oper := ⟨some 24, .move (.tmp 2), 186, "sort.go:160", #[], none⟩
abbrev q303 : Oper := ⟨some 25, .move (.tmp 0), 144, "sort.go:160", #[], none⟩
abbrev q304 : Oper := ⟨some 26, .move (.tmp 11), 3, "sort.go:160", #[], none⟩
abbrev q305 : Oper := ⟨some 27, .indexAddr 144 (.tmp 25) (.tmp 26), 0, "sort.go:160", #[⟨1, .data⟩, ⟨2, .data⟩], none⟩
abbrev q306 : Oper := ⟨some 28, .load 149 (.tmp 27), 149, "sort.go:160", #[⟨3, .data⟩], none⟩
abbrev q307 : Oper := ⟨some 29, .load 149 (.tmp 4), 149, "sort.go:160", #[], none⟩
abbrev q308 : Oper := ⟨some 30, .call ⟨.value (.tmp 24), #[.tmp 28, .tmp 29], #[149, 149]⟩, 3, "sort.go:160", #[⟨0, .data⟩, ⟨4, .data⟩, ⟨5, .data⟩], none⟩
abbrev q309 : Oper := ⟨some 31, .binOp .lss 3 (.tmp 30) (.const (.int .i64 0)) 3, 4, "sort.go:160", #[⟨6, .data⟩], none⟩
abbrev q310 : Oper := ⟨some 35, .move (.tmp 9), 3, "sort.go:167", #[], none⟩
abbrev q311 : Oper := ⟨some 36, .move (.tmp 9), 3, "sort.go:167", #[], none⟩
abbrev q312 : Oper := ⟨some 37, .move (.tmp 8), 3, "sort.go:167", #[], none⟩
abbrev q313 : Oper := ⟨some 38, .binOp .lss 3 (.tmp 36) (.tmp 37) 3, 4, "sort.go:167", #[⟨1, .data⟩, ⟨2, .data⟩], none⟩
abbrev q314 : Oper := ⟨some 39, .move (.tmp 38), 4, "sort.go:167", #[⟨3, .data⟩], none⟩
abbrev q315 : Oper := ⟨some 40, .move (.tmp 2), 186, "sort.go:167", #[⟨4, .guard⟩], some (4, true)⟩
abbrev q316 : Oper := ⟨some 41, .move (.tmp 0), 144, "sort.go:167", #[⟨4, .guard⟩], some (4, true)⟩
abbrev q317 : Oper := ⟨some 42, .move (.tmp 9), 3, "sort.go:167", #[⟨4, .guard⟩], some (4, true)⟩
abbrev q318 : Oper := ⟨some 43, .indexAddr 144 (.tmp 41) (.tmp 42), 0, "sort.go:167", #[⟨6, .data⟩, ⟨7, .data⟩, ⟨4, .guard⟩], some (4, true)⟩
abbrev q319 : Oper := ⟨some 44, .load 149 (.tmp 43), 149, "sort.go:167", #[⟨8, .data⟩, ⟨4, .guard⟩], some (4, true)⟩
abbrev q320 : Oper := ⟨some 45, .load 149 (.tmp 4), 149, "sort.go:167", #[⟨4, .guard⟩], some (4, true)⟩
abbrev q321 : Oper := ⟨some 46, .call ⟨.value (.tmp 40), #[.tmp 44, .tmp 45], #[149, 149]⟩, 3, "sort.go:167", #[⟨5, .data⟩, ⟨9, .data⟩, ⟨10, .data⟩, ⟨4, .chain⟩, ⟨4, .guard⟩], some (4, true)⟩
abbrev q322 : Oper := ⟨some 47, .binOp .eql 3 (.tmp 46) (.const (.int .i64 0)) 3, 4, "sort.go:167", #[⟨11, .data⟩, ⟨4, .guard⟩, { on := 14, ground := Ground.gcOnly Departure.lateStores }], some (4, true)⟩
abbrev q323 : Oper := ⟨some 48, .pick (.tmp 39) (.tmp 47) (.const (.bool false)), 4, "sort.go:167", #[⟨4, .data⟩, ⟨12, .data⟩, { on := 14, ground := Ground.gcOnly Departure.lateStores }], none⟩
abbrev q324 : Oper := ⟨some 6, .assign (.tmp 35), 3, "sort.go:167", #[⟨0, .data⟩, ⟨11, .chain⟩, ⟨0, .phase⟩, { on := 1, ground := Ground.textOnly Departure.lateStores }, { on := 2, ground := Ground.textOnly Departure.lateStores }, { on := 3, ground := Ground.textOnly Departure.lateStores }, { on := 4, ground := Ground.textOnly Departure.lateStores }, { on := 5, ground := Ground.textOnly Departure.lateStores }, { on := 6, ground := Ground.textOnly Departure.lateStores }, { on := 7, ground := Ground.textOnly Departure.lateStores }, { on := 8, ground := Ground.textOnly Departure.lateStores }, { on := 9, ground := Ground.textOnly Departure.lateStores }, { on := 10, ground := Ground.textOnly Departure.lateStores }, { on := 11, ground := Ground.textOnly Departure.lateStoresUnsure }, { on := 12, ground := Ground.textOnly Departure.lateStores }, { on := 13, ground := Ground.textOnly Departure.lateStores }], none⟩
abbrev q325 : Oper := ⟨some 7, .assign (.tmp 48), 4, "sort.go:167", #[⟨13, .data⟩, ⟨14, .chain⟩, ⟨0, .phase⟩, ⟨1, .phase⟩, ⟨2, .phase⟩, ⟨3, .phase⟩, ⟨4, .phase⟩, ⟨5, .phase⟩, ⟨6, .phase⟩, ⟨7, .phase⟩, ⟨8, .phase⟩, ⟨9, .phase⟩, ⟨10, .phase⟩, ⟨11, .phase⟩, ⟨12, .phase⟩, ⟨13, .phase⟩, ⟨14, .phase⟩], none⟩

def cmpI8 (a b : Int) : Int := if a < b then -1 else if b < a then 1 else 0

set_option maxRecDepth 100000 in
set_option maxHeartbeats 400000 in
theorem isNaN8_any (a : Int) (w : World) : Calls Tryz.prog 192 #[.int .i64 a] w fun e w' => e = .returned (.bool false) ∧ w' = w := by
 go_enter Tryz.func192, Tryz.ntmps192
 go_wp2
 go_ret
 exact ⟨ret_bool (by simp), rfl⟩

set_option maxRecDepth 100000 in
set_option maxHeartbeats 1000000 in
theorem compareI8_any (a b : Int) (w : World) : Calls Tryz.prog 177 #[.int .i64 a, .int .i64 b] w fun e w' => e = .returned (.int .i64 (cmpI8 a b)) ∧ w' = w := by
 by_cases h1 : a < b
 ·rw [show cmpI8 a b = -1 from if_pos h1]
  go_enter Tryz.func177, Tryz.ntmps177
  go_wp2_with fail
  refine (isNaN8_any a _).mono ?_
  rintro e w1 ⟨rfl, rfl⟩
  go_wp2_with fail
  refine (isNaN8_any b _).mono ?_
  rintro e w2 ⟨rfl, rfl⟩
  go_wp2
  go_ret
  exact ⟨rfl, rfl⟩
 by_cases h2 : b < a
 ·rw [show cmpI8 a b = 1 by unfold cmpI8; rw [if_neg h1, if_pos h2]]
  go_enter Tryz.func177, Tryz.ntmps177
  go_wp2_with fail
  refine (isNaN8_any a _).mono ?_
  rintro e w1 ⟨rfl, rfl⟩
  go_wp2_with fail
  refine (isNaN8_any b _).mono ?_
  rintro e w2 ⟨rfl, rfl⟩
  go_wp2
  go_ret
  exact ⟨rfl, rfl⟩
 ·rw [show cmpI8 a b = 0 by unfold cmpI8; rw [if_neg h1, if_neg h2]]
  go_enter Tryz.func177, Tryz.ntmps177
  go_wp2_with fail
  refine (isNaN8_any a _).mono ?_
  rintro e w1 ⟨rfl, rfl⟩
  go_wp2_with fail
  refine (isNaN8_any b _).mono ?_
  rintro e w2 ⟨rfl, rfl⟩
  go_wp2
  go_ret
  exact ⟨rfl, rfl⟩

def or2 (a b : Int) : Int := if ¬ a = 0 then a else b

set_option maxRecDepth 100000 in
set_option maxHeartbeats 2000000 in
theorem or2_any (a b : Int) (g : Nat) (w : World) (hb : w.heap[g]? = some (.cells #[.int .i64 a, .int .i64 b] 3)) :
  Calls Tryz.prog 176 #[.slice (some ⟨g, 0, none⟩) 2 2] w fun e w' => e = .returned (.int .i64 (or2 a b)) ∧ w' = w := by
 obtain ⟨⟨x0, x1⟩, -⟩ := cells2 hb
 generalize ho : or2 a b = o
 have HO := hide ho
 clear ho hb
 go_enter Tryz.func176, Tryz.ntmps176
 go_wp2
 go_loop [8] (fun i => ∃ k : Nat, k ≤ 2 ∧ i = .int .i64 k ∧ (1 ≤ k → a = 0) ∧ (2 ≤ k → b = 0)) (fun i => 2 - (intOf i).toNat)
 case atStart => exact ⟨0, Nat.zero_le _, rfl, by omega, by omega⟩
 case round =>
  obtain ⟨k, hk, hi, e1, e2⟩ := hrel
  rcases (show k = 0 ∨ k = 1 ∨ k = 2 by omega) with rfl | rfl | rfl
  ·have hi : _ = Value.int .i64 0 := hi
   subst hi
   clear e1 e2
   by_cases h0 : a = 0
   ·have t0 : (a != 0) = false := by simp [h0]
    have H0 := hide h0
    clear h0
    go_wp2
    go_round
    case rel => exact ⟨1, by omega, by go_num, fun _ => H0.out, by omega⟩
    case measure => simp [intOf]
   ·have t0 : (a != 0) = true := by simp [h0]
    have H0 := hide h0
    clear h0
    go_wp2
    go_ret
    have := HO.out
    unfold or2 at this
    rw [if_pos H0.out] at this
    exact ⟨(by rw [← this]; rfl), rfl⟩
  ·have hi : _ = Value.int .i64 1 := hi
   subst hi
   have h1 := hide (e1 (by omega))
   clear e1 e2
   by_cases h0 : b = 0
   ·have t0 : (b != 0) = false := by simp [h0]
    have H0 := hide h0
    clear h0
    go_wp2
    go_round
    case rel => exact ⟨2, by omega, by go_num, fun _ => h1.out, fun _ => H0.out⟩
    case measure => simp [intOf]
   ·have t0 : (b != 0) = true := by simp [h0]
    have H0 := hide h0
    clear h0
    go_wp2
    go_ret
    have := HO.out
    unfold or2 at this
    rw [if_neg (by rw [h1.out]; exact fun h => h rfl)] at this
    exact ⟨(by rw [← this]; rfl), rfl⟩
  ·have hi : _ = Value.int .i64 2 := hi
   subst hi
   have h1 := hide (e1 (by omega))
   have h2 := hide (e2 (by omega))
   clear e1 e2
   go_wp2
   go_ret
   have := HO.out
   unfold or2 at this
   rw [if_neg (by rw [h1.out]; exact fun h => h rfl), h2.out] at this
   exact ⟨(by rw [← this]; rfl), rfl⟩

def cmpK (a b : FK) : Int := or2 (cmpI8 a.1 b.1) (cmpI8 a.2.1 b.2.1)

theorem cmpK_less (a b : FK) : cmpK a b < 0 ↔ a.1 < b.1 ∨ (a.1 = b.1 ∧ a.2.1 < b.2.1) := by
 unfold cmpK or2 cmpI8
 split <;> split <;> (try split) <;> (try split) <;> omega
theorem cmpK_same (a b : FK) : cmpK a b = 0 ↔ a.1 = b.1 ∧ a.2.1 = b.2.1 := by
 unfold cmpK or2 cmpI8
 split <;> split <;> (try split) <;> (try split) <;> omega

set_option maxRecDepth 100000 in
set_option maxHeartbeats 4000000 in
theorem compareKeys_any (x y : FK) (w : World) : Calls Tryz.prog 161 #[.agg #[.int .i64 x.1, .int .i64 x.2.1, .int .i64 x.2.2], .agg #[.int .i64 y.1, .int .i64 y.2.1, .int .i64 y.2.2]] w fun r w' => r = .returned (.int .i64 (cmpK x y)) ∧ Below w.heap.size w w' := by
 have q := below_two w (.cells #[.int .i64 x.1, .int .i64 x.2.1, .int .i64 x.2.2] 149) (.cells #[.int .i64 y.1, .int .i64 y.2.1, .int .i64 y.2.2] 149)
 have kx := kept_block (block_last w (.cells #[.int .i64 x.1, .int .i64 x.2.1, .int .i64 x.2.2] 149)) (below_one _ (.cells #[.int .i64 y.1, .int .i64 y.2.1, .int .i64 y.2.2] 149))
 have ky := block_last (w.alloc (.cells #[.int .i64 x.1, .int .i64 x.2.1, .int .i64 x.2.2] 149)) (.cells #[.int .i64 y.1, .int .i64 y.2.1, .int .i64 y.2.2] 149)
 rw [show (w.alloc (.cells #[.int .i64 x.1, .int .i64 x.2.1, .int .i64 x.2.2] 149)).heap.size = w.heap.size + 1 by simp] at ky
 generalize hK : cmpK x y = K
 unfold cmpK at hK
 have HK := hide hK
 clear hK
 have hS : ∀ W, Below ((w.alloc (.cells #[.int .i64 x.1, .int .i64 x.2.1, .int .i64 x.2.2] 149)).alloc (.cells #[.int .i64 y.1, .int .i64 y.2.1, .int .i64 y.2.2] 149)).heap.size ((w.alloc (.cells #[.int .i64 x.1, .int .i64 x.2.1, .int .i64 x.2.2] 149)).alloc (.cells #[.int .i64 y.1, .int .i64 y.2.1, .int .i64 y.2.2] 149)) W → ((W.cell? ⟨w.heap.size, 0, none⟩ = some (.int .i64 x.1) ∧ W.cell? ⟨w.heap.size, 1, none⟩ = some (.int .i64 x.2.1) ∧ W.cell? ⟨w.heap.size, 2, none⟩ = some (.int .i64 x.2.2)) ∧ (W.cell? ⟨(w.heap.size + 1), 0, none⟩ = some (.int .i64 y.1) ∧ W.cell? ⟨(w.heap.size + 1), 1, none⟩ = some (.int .i64 y.2.1) ∧ W.cell? ⟨(w.heap.size + 1), 2, none⟩ = some (.int .i64 y.2.2))) := fun W hW => ⟨(cells3 (kept_block kx hW)).1, (cells3 (kept_block ky hW)).1⟩
 have HS := hide hS
 clear hS kx ky
 go_enter Tryz.func161, Tryz.ntmps161
 go_wp2_with fail
 generalize hw2 : (w.alloc (.cells #[.int .i64 x.1, .int .i64 x.2.1, .int .i64 x.2.2] 149)).alloc (.cells #[.int .i64 y.1, .int .i64 y.2.1, .int .i64 y.2.2] 149) = w2 at *
 clear hw2
 refine wp_region_held_drew (S := (fun W => (W.cell? ⟨w.heap.size, 0, none⟩ = some (.int .i64 x.1) ∧ W.cell? ⟨w.heap.size, 1, none⟩ = some (.int .i64 x.2.1) ∧ W.cell? ⟨w.heap.size, 2, none⟩ = some (.int .i64 x.2.2)) ∧ (W.cell? ⟨(w.heap.size + 1), 0, none⟩ = some (.int .i64 y.1) ∧ W.cell? ⟨(w.heap.size + 1), 1, none⟩ = some (.int .i64 y.2.1) ∧ W.cell? ⟨(w.heap.size + 1), 2, none⟩ = some (.int .i64 y.2.2)))) (by kernel_rfl) (by first | exact HS.out _ (gr_drew (Below.refl _ _)) | exact HS.out _ (gr_drew (below_one _ _))) (fun hHeld => ?_)
 refine kK 0 ⟨some 5, .fieldAddr 149 (.tmp 2) 0, 0, "l08_fdb.go:131", #[], none⟩ ?_
 refine kK 1 ⟨some 6, .load 3 (.tmp 5), 3, "l08_fdb.go:131", #[⟨0, .data⟩], none⟩ ?_
 refine kK 2 ⟨some 7, .fieldAddr 149 (.tmp 3) 0, 0, "l08_fdb.go:131", #[], none⟩ ?_
 refine kK 3 ⟨some 8, .load 3 (.tmp 7), 3, "l08_fdb.go:131", #[⟨2, .data⟩], none⟩ ?_
 refine kK 5 ⟨some 10, .fieldAddr 149 (.tmp 2) 1, 0, "l08_fdb.go:131", #[], none⟩ ?_
 refine kK 6 ⟨some 11, .load 3 (.tmp 10), 3, "l08_fdb.go:131", #[⟨5, .data⟩], none⟩ ?_
 refine kK 7 ⟨some 12, .fieldAddr 149 (.tmp 3) 1, 0, "l08_fdb.go:131", #[], none⟩ ?_
 refine kK 8 ⟨some 13, .load 3 (.tmp 12), 3, "l08_fdb.go:131", #[⟨7, .data⟩], none⟩ ?_
 refine tR [4] ?_
 refine AllReadyH.cons (o := ⟨some 9, .call ⟨.value (.func 177), #[.tmp 6, .tmp 8], #[3, 3]⟩, 3, "l08_fdb.go:131", #[⟨1, .data⟩, ⟨3, .data⟩], none⟩) rfl (fun K hK => ?_) ?_
 ·go_simp
  refine (compareI8_any x.1 y.1 _).mono ?_
  rintro r wx ⟨rfl, rfl⟩
  go_wp2_with fail
  refine hK.out _ _ (by first | exact HS.out _ (gr_drew (Below.refl _ _)) | exact HS.out _ (gr_drew (below_one _ _))) (fun hHeld => ?_)
  clear hK K
  try simp only [Act.put, lA, lB, lC]
  refine tR [9] ?_
  refine AllReadyH.cons (o := ⟨some 14, .call ⟨.value (.func 177), #[.tmp 11, .tmp 13], #[3, 3]⟩, 3, "l08_fdb.go:131", #[⟨6, .data⟩, ⟨8, .data⟩, ⟨4, .chain⟩], none⟩) rfl (fun K hK => ?_) ?_
  ·go_simp
   refine (compareI8_any x.2.1 y.2.1 _).mono ?_
   rintro r wx ⟨rfl, rfl⟩
   go_wp2_with fail
   refine hK.out _ _ (by first | exact HS.out _ (gr_drew (Below.refl _ _)) | exact HS.out _ (gr_drew (below_one _ _))) (fun hHeld => ?_)
   clear hK K
   try simp only [Act.put, lA, lB, lC]
   refine tR [10] ?_
   refine AllReadyH.cons (o := ⟨some 15, .buildSlice 27 2 #[(0, .tmp 9), (1, .tmp 14)], 27, "l08_fdb.go:131", #[⟨4, .data⟩, ⟨9, .data⟩], none⟩) rfl (fun K hK => ?_) ?_
   ·go_simp
    refine hK.out _ _ (by first | exact HS.out _ (gr_drew (Below.refl _ _)) | exact HS.out _ (gr_drew (below_one _ _))) (fun hHeld => ?_)
    clear hK K
    try simp only [Act.put, lA, lB, lC]
    refine tR [11] ?_
    refine AllReadyH.cons (o := ⟨some 16, .call ⟨.value (.func 176), #[.tmp 15], #[27]⟩, 3, "l08_fdb.go:131", #[⟨10, .data⟩, ⟨9, .chain⟩], none⟩) rfl (fun K hK => ?_) ?_
    ·go_simp
     refine (or2_any (cmpI8 x.1 y.1) (cmpI8 x.2.1 y.2.1) w2.heap.size _ (show (w2.alloc (.cells #[.int .i64 (cmpI8 x.1 y.1), .int .i64 (cmpI8 x.2.1 y.2.1)] 3)).drew.heap[w2.heap.size]? = _ from block_last w2 _)).mono ?_
     rintro r wx ⟨rfl, rfl⟩
     rw [HK.out]
     go_wp2_with fail
     refine hK.out _ _ (by first | exact HS.out _ (gr_drew (Below.refl _ _)) | exact HS.out _ (gr_drew (below_one _ _))) (fun hHeld => ?_)
     clear hK K
     try simp only [Act.put, lA, lB, lC]
     refine kK 12 ⟨some 4, .assign (.tmp 16), 3, "l08_fdb.go:131", #[⟨11, .data⟩, ⟨11, .chain⟩, ⟨0, .phase⟩, ⟨1, .phase⟩, ⟨2, .phase⟩, ⟨3, .phase⟩, ⟨4, .phase⟩, ⟨5, .phase⟩, ⟨6, .phase⟩, ⟨7, .phase⟩, ⟨8, .phase⟩, ⟨9, .phase⟩, ⟨10, .phase⟩, ⟨11, .phase⟩], none⟩ ?_
     refine wpAnyH_done (by kernel_rfl) ?_ _
     go_wp2
     go_ret
     exact ⟨rfl, gr_trans q (gr_drew (below_one _ _))⟩
    exact AllReadyH.nil
   exact AllReadyH.nil
  exact AllReadyH.nil
 exact AllReadyH.nil

theorem fk_cells {w : World} {b off n cap : Nat} {l : List FK} (h : GRow fkF w (some ⟨b, off, none⟩) n cap l) {i : Nat} {x : FK} (hx : l[i]? = some x) :
  w.cell? ⟨b, off + i * 3, none⟩ = some (.int .i64 x.1) ∧ w.cell? ⟨b, off + i * 3 + 1, none⟩ = some (.int .i64 x.2.1) ∧ w.cell? ⟨b, off + i * 3 + 2, none⟩ = some (.int .i64 x.2.2) := by
 have hi : i < n := by
  have := (List.getElem?_eq_some_iff.1 hx).1
  have := h.size
  omega
 obtain ⟨y, b', off', hy, e, c⟩ := fk_at h i hi
 cases e
 rw [hx] at hy
 cases hy
 exact c

structure Found (ks : List FK) (y : FK) (pos : Nat) (there : Bool) : Prop where
 le : pos ≤ ks.length
 low : ∀ j x, j < pos → ks[j]? = some x → cmpK x y < 0
 high : ∀ j x, pos ≤ j → ks[j]? = some x → 0 ≤ cmpK x y
 is : there = match ks[pos]? with | some x => decide (cmpK x y = 0) | none => false

set_option maxRecDepth 100000 in
set_option maxHeartbeats 8000000 in
theorem search_any (ao : Option Addr) (n cap : Nat) (ks : List FK) (y : FK) (w : World) (h : GRow fkF w ao n cap ks) (hn : n ≤ 16777216)
  (hmono : ∀ (a b : Nat) (x z : FK), a ≤ b → ks[a]? = some x → ks[b]? = some z → cmpK z y < 0 → cmpK x y < 0) :
  Calls Tryz.prog 160 #[.slice ao n cap, .agg #[.int .i64 y.1, .int .i64 y.2.1, .int .i64 y.2.2], .func (.func 161) #[] #[]] w fun r w' => ∃ pos there, r = .returned (.tuple #[.int .i64 (pos : Nat), .bool there]) ∧ Found ks y pos there ∧ Below w.heap.size w w' := by
 have hsz := h.size
 have hrow := h.below (below_one w (.cells #[.int .i64 y.1, .int .i64 y.2.1, .int .i64 y.2.2] 149))
 have ky := block_last w (.cells #[.int .i64 y.1, .int .i64 y.2.1, .int .i64 y.2.2] 149)
 have HM := hide hmono
 have q := below_one w (.cells #[.int .i64 y.1, .int .i64 y.2.1, .int .i64 y.2.2] 149)
 clear hmono
 go_enter Tryz.func160, Tryz.ntmps160
 go_wp2
 go_loopw [9, 10] (fun s9 s10 wr => ∃ lo hi : Nat, s9 = .int .i64 lo ∧ s10 = .int .i64 hi ∧ lo ≤ hi ∧ hi ≤ n ∧ (∀ j x, j < lo → ks[j]? = some x → cmpK x y < 0) ∧ (∀ j x, hi ≤ j → ks[j]? = some x → 0 ≤ cmpK x y) ∧ Below (w.alloc (.cells #[.int .i64 y.1, .int .i64 y.2.1, .int .i64 y.2.2] 149)).heap.size (w.alloc (.cells #[.int .i64 y.1, .int .i64 y.2.1, .int .i64 y.2.2] 149)) wr) (fun s9 s10 _ => (intOf s10).toNat - (intOf s9).toNat)
 case atStart => exact ⟨0, n, rfl, rfl, Nat.zero_le _, Nat.le_refl _, fun j x hj => by omega, fun j x hj hx => by have := (List.getElem?_eq_some_iff.1 hx).1; omega, Below.refl _ _⟩
 case round =>
  obtain ⟨lo, hi, rfl, rfl, hlh, hhn, hlow, hhigh, hb⟩ := hrel
  have HL := hide hlow
  have HH := hide hhigh
  clear hlow hhigh
  by_cases hlt : lo < hi
  ·obtain ⟨mid, hmid⟩ : ∃ mid : Nat, mid = (lo + hi) / 2 := ⟨_, rfl⟩
   have hmz : ((lo : Int) + (hi : Int)) / 2 = (mid : Int) := by omega
   have hm1 : lo ≤ mid := by omega
   have hm2 : mid < hi := by omega
   have i1 : (0 : Int) ≤ (mid : Int) := by omega
   have i2 : (mid : Int) < (n : Int) := by omega
   obtain ⟨x, b, off, hx, rfl, -⟩ := fk_at (hrow.below hb) mid (by omega)
   clear hmid
   have hS : ∀ W, Below wr.heap.size wr W → ((W.cell? ⟨b, off + mid * 3, none⟩ = some (.int .i64 x.1) ∧ W.cell? ⟨b, off + mid * 3 + 1, none⟩ = some (.int .i64 x.2.1) ∧ W.cell? ⟨b, off + mid * 3 + 2, none⟩ = some (.int .i64 x.2.2)) ∧ (W.cell? ⟨w.heap.size, 0, none⟩ = some (.int .i64 y.1) ∧ W.cell? ⟨w.heap.size, 1, none⟩ = some (.int .i64 y.2.1) ∧ W.cell? ⟨w.heap.size, 2, none⟩ = some (.int .i64 y.2.2))) := fun W hW => ⟨fk_cells ((hrow.below hb).below hW) hx, (cells3 (kept_block (kept_block ky hb) hW)).1⟩
   have HSS := hide hS
   have vv : Below wr.heap.size wr wr.drew := gr_drew (Below.refl _ _)
   have HB := hide hb
   clear hS hb
   by_cases hyx : cmpK x y < 0
   ·have HL2 := hide (show ∀ j z, j < mid + 1 → ks[j]? = some z → cmpK z y < 0 from fun j z hj hz => HM.out j mid z x (by omega) hz hx hyx)
    clear hx
    go_wp2_with fail
    refine wp_region_held_drew (S := (fun W => (W.cell? ⟨b, off + mid * 3, none⟩ = some (.int .i64 x.1) ∧ W.cell? ⟨b, off + mid * 3 + 1, none⟩ = some (.int .i64 x.2.1) ∧ W.cell? ⟨b, off + mid * 3 + 2, none⟩ = some (.int .i64 x.2.2)) ∧ (W.cell? ⟨w.heap.size, 0, none⟩ = some (.int .i64 y.1) ∧ W.cell? ⟨w.heap.size, 1, none⟩ = some (.int .i64 y.2.1) ∧ W.cell? ⟨w.heap.size, 2, none⟩ = some (.int .i64 y.2.2)))) (by kernel_rfl) (HSS.out _ vv) (fun hHeld => ?_)
    refine kK 0 q302 ?_
    refine kK 1 q303 ?_
    refine kK 2 q304 ?_
    refine kK 3 q305 ?_
    refine kK 4 q306 ?_
    refine kK 5 q307 ?_
    refine tR [6] ?_
    refine AllReadyH.cons (o := q308) rfl (fun K hK => ?_) ?_
    ·go_simp
     refine (compareKeys_any x y _).mono ?_
     rintro r wx ⟨rfl, hbx⟩
     have vv := gr_trans vv hbx
     go_wp2_with fail
     refine hK.out _ _ (HSS.out _ vv) (fun hHeld => ?_)
     clear hK K
     try simp only [Act.put, lA, lB, lC]
     refine kV 7 q309 (.bool true) ?_
     refine wpAnyH_done (by kernel_rfl) ?_ _
     clear HSS hHeld
     go_wp2
     go_roundw
     case rel => exact ⟨mid + 1, hi, by go_num, rfl, by omega, hhn, HL2.out, HH.out, gr_trans HB.out vv⟩
     case measure => simp [intOf]; omega
    exact AllReadyH.nil
   ·have HH2 := hide (show ∀ j z, mid ≤ j → ks[j]? = some z → 0 ≤ cmpK z y from fun j z hj hz => Int.not_lt.1 (fun hc => hyx (HM.out mid j x z hj hx hz hc)))
    clear hx
    go_wp2_with fail
    refine wp_region_held_drew (S := (fun W => (W.cell? ⟨b, off + mid * 3, none⟩ = some (.int .i64 x.1) ∧ W.cell? ⟨b, off + mid * 3 + 1, none⟩ = some (.int .i64 x.2.1) ∧ W.cell? ⟨b, off + mid * 3 + 2, none⟩ = some (.int .i64 x.2.2)) ∧ (W.cell? ⟨w.heap.size, 0, none⟩ = some (.int .i64 y.1) ∧ W.cell? ⟨w.heap.size, 1, none⟩ = some (.int .i64 y.2.1) ∧ W.cell? ⟨w.heap.size, 2, none⟩ = some (.int .i64 y.2.2)))) (by kernel_rfl) (HSS.out _ vv) (fun hHeld => ?_)
    refine kK 0 q302 ?_
    refine kK 1 q303 ?_
    refine kK 2 q304 ?_
    refine kK 3 q305 ?_
    refine kK 4 q306 ?_
    refine kK 5 q307 ?_
    refine tR [6] ?_
    refine AllReadyH.cons (o := q308) rfl (fun K hK => ?_) ?_
    ·go_simp
     refine (compareKeys_any x y _).mono ?_
     rintro r wx ⟨rfl, hbx⟩
     have vv := gr_trans vv hbx
     go_wp2_with fail
     refine hK.out _ _ (HSS.out _ vv) (fun hHeld => ?_)
     clear hK K
     try simp only [Act.put, lA, lB, lC]
     refine kV 7 q309 (.bool false) ?_
     refine wpAnyH_done (by kernel_rfl) ?_ _
     clear HSS hHeld
     go_wp2
     go_roundw
     case rel => exact ⟨lo, mid, rfl, by go_num, by omega, by omega, HL.out, HH2.out, gr_trans HB.out vv⟩
     case measure => simp [intOf]; omega
    exact AllReadyH.nil
  ·obtain rfl : hi = lo := by omega
   by_cases hin : hi < n
   ·obtain ⟨x, b, off, hx, rfl, -⟩ := fk_at (hrow.below hb) hi hin
    have i1 : (0 : Int) ≤ (hi : Int) := by omega
    have i2 : (hi : Int) < (n : Int) := by omega
    have hS : ∀ W, Below wr.heap.size wr W → ((W.cell? ⟨b, off + hi * 3, none⟩ = some (.int .i64 x.1) ∧ W.cell? ⟨b, off + hi * 3 + 1, none⟩ = some (.int .i64 x.2.1) ∧ W.cell? ⟨b, off + hi * 3 + 2, none⟩ = some (.int .i64 x.2.2)) ∧ (W.cell? ⟨w.heap.size, 0, none⟩ = some (.int .i64 y.1) ∧ W.cell? ⟨w.heap.size, 1, none⟩ = some (.int .i64 y.2.1) ∧ W.cell? ⟨w.heap.size, 2, none⟩ = some (.int .i64 y.2.2))) := fun W hW => ⟨fk_cells ((hrow.below hb).below hW) hx, (cells3 (kept_block (kept_block ky hb) hW)).1⟩
    have HSS := hide hS
    have vv : Below wr.heap.size wr wr.drew := gr_drew (Below.refl _ _)
    have HB := hide hb
    clear hS hb
    by_cases hyx : cmpK x y = 0
    ·have HF := hide (show Found ks y hi true from ⟨by omega, HL.out, HH.out, by rw [hx]; exact (decide_eq_true hyx).symm⟩)
     clear hx
     go_wp2_with fail
     refine wp_region_held_drew (S := (fun W => (W.cell? ⟨b, off + hi * 3, none⟩ = some (.int .i64 x.1) ∧ W.cell? ⟨b, off + hi * 3 + 1, none⟩ = some (.int .i64 x.2.1) ∧ W.cell? ⟨b, off + hi * 3 + 2, none⟩ = some (.int .i64 x.2.2)) ∧ (W.cell? ⟨w.heap.size, 0, none⟩ = some (.int .i64 y.1) ∧ W.cell? ⟨w.heap.size, 1, none⟩ = some (.int .i64 y.2.1) ∧ W.cell? ⟨w.heap.size, 2, none⟩ = some (.int .i64 y.2.2)))) (by kernel_rfl) (HSS.out _ vv) (fun hHeld => ?_)
     refine kK 0 q310 ?_
     refine kK 1 q311 ?_
     refine kK 2 q312 ?_
     refine kV 3 q313 (.bool true) ?_
     refine kK 4 q314 ?_
     refine kK 5 q315 ?_
     refine kK 6 q316 ?_
     refine kK 7 q317 ?_
     refine kK 8 q318 ?_
     refine kK 9 q319 ?_
     refine kK 10 q320 ?_
     refine tR [11] ?_
     refine AllReadyH.cons (o := q321) rfl (fun K hK => ?_) ?_
     ·go_simp
      refine (compareKeys_any x y _).mono ?_
      rintro r wx ⟨rfl, hbx⟩
      have vv := gr_trans vv hbx
      go_wp2_with fail
      refine hK.out _ _ (HSS.out _ vv) (fun hHeld => ?_)
      clear hK K
      try simp only [Act.put, lA, lB, lC]
      refine kV 12 q322 (.bool true) ?_
      refine kK 13 q323 ?_
      refine kK 14 q324 ?_
      refine kK 15 q325 ?_
      refine wpAnyH_done (by kernel_rfl) ?_ _
      clear HSS
      clear hHeld
      go_wp2
      exact bodyPost_ret (v := .tuple #[.int .i64 (hi : Nat), .bool true]) (by simp [results, Tryz.results160, go_sem, *]) rfl ⟨hi, true, rfl, HF.out, gr_trans q (gr_trans HB.out vv)⟩
     exact AllReadyH.nil
    ·have HF := hide (show Found ks y hi false from ⟨by omega, HL.out, HH.out, by rw [hx]; exact (decide_eq_false hyx).symm⟩)
     clear hx
     go_wp2_with fail
     refine wp_region_held_drew (S := (fun W => (W.cell? ⟨b, off + hi * 3, none⟩ = some (.int .i64 x.1) ∧ W.cell? ⟨b, off + hi * 3 + 1, none⟩ = some (.int .i64 x.2.1) ∧ W.cell? ⟨b, off + hi * 3 + 2, none⟩ = some (.int .i64 x.2.2)) ∧ (W.cell? ⟨w.heap.size, 0, none⟩ = some (.int .i64 y.1) ∧ W.cell? ⟨w.heap.size, 1, none⟩ = some (.int .i64 y.2.1) ∧ W.cell? ⟨w.heap.size, 2, none⟩ = some (.int .i64 y.2.2)))) (by kernel_rfl) (HSS.out _ vv) (fun hHeld => ?_)
     refine kK 0 q310 ?_
     refine kK 1 q311 ?_
     refine kK 2 q312 ?_
     refine kV 3 q313 (.bool true) ?_
     refine kK 4 q314 ?_
     refine kK 5 q315 ?_
     refine kK 6 q316 ?_
     refine kK 7 q317 ?_
     refine kK 8 q318 ?_
     refine kK 9 q319 ?_
     refine kK 10 q320 ?_
     refine tR [11] ?_
     refine AllReadyH.cons (o := q321) rfl (fun K hK => ?_) ?_
     ·go_simp
      refine (compareKeys_any x y _).mono ?_
      rintro r wx ⟨rfl, hbx⟩
      have vv := gr_trans vv hbx
      go_wp2_with fail
      refine hK.out _ _ (HSS.out _ vv) (fun hHeld => ?_)
      clear hK K
      try simp only [Act.put, lA, lB, lC]
      refine kV 12 q322 (.bool false) ?_
      refine kK 13 q323 ?_
      refine kK 14 q324 ?_
      refine kK 15 q325 ?_
      refine wpAnyH_done (by kernel_rfl) ?_ _
      clear HSS
      clear hHeld
      go_wp2
      exact bodyPost_ret (v := .tuple #[.int .i64 (hi : Nat), .bool false]) (by simp [results, Tryz.results160, go_sem, *]) rfl ⟨hi, false, rfl, HF.out, gr_trans q (gr_trans HB.out vv)⟩
     exact AllReadyH.nil
   ·have hk : ks[hi]? = none := List.getElem?_eq_none (by omega)
    have HF := hide (show Found ks y hi false from ⟨by omega, HL.out, HH.out, by rw [hk]⟩)
    have HB := hide hb
    clear hk hb
    go_wp2_with fail
    refine wp_region_held_drew (S := (fun _ => True)) (by kernel_rfl) (trivial) (fun hHeld => ?_)
    refine kK 0 q310 ?_
    refine kK 1 q311 ?_
    refine kK 2 q312 ?_
    refine kV 3 q313 (.bool false) ?_
    refine kK 4 q314 ?_
    refine kN 5 q315 ?_
    refine kN 6 q316 ?_
    refine kN 7 q317 ?_
    refine kN 8 q318 ?_
    refine kN 9 q319 ?_
    refine kN 10 q320 ?_
    refine kN 11 q321 ?_
    refine kN 12 q322 ?_
    refine kK 13 q323 ?_
    refine kK 14 q324 ?_
    refine kK 15 q325 ?_
    refine wpAnyH_done (by kernel_rfl) ?_ _
    clear hHeld
    go_wp2
    exact bodyPost_ret (v := .tuple #[.int .i64 (hi : Nat), .bool false]) (by simp [results, Tryz.results160, go_sem, *]) rfl ⟨hi, false, rfl, HF.out, gr_trans q (gr_trans HB.out (gr_drew (Below.refl _ _)))⟩

end Go.Proofs.YtddalpglihhipaaGreat
