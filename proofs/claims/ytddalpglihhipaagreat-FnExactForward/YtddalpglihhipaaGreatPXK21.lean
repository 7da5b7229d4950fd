/-
  Packed: FwdOwn FwdLetI BrInner BrInner2 FdbTab.
-/
import Derived.Test.YtddalpglihhipaaGreatPXKW
import Derived.Test.YtddalpglihhipaaGreatPXBrHelp
import Derived.Test.YtddalpglihhipaaGreatPXFdbImplA
import Derived.Test.YtddalpglihhipaaGreatPXK01
import Derived.Test.YtddalpglihhipaaGreatPXK03
import Derived.Test.YtddalpglihhipaaGreatPXK04
import Derived.Test.YtddalpglihhipaaGreatPXK07
import Derived.Test.YtddalpglihhipaaGreatPXK08
import Derived.Test.YtddalpglihhipaaGreatPXK12
import Derived.Test.YtddalpglihhipaaGreatPXK16
import Derived.Test.YtddalpglihhipaaGreatPXK17
import Derived.Deep.RegionHeld3
namespace Go.Proofs.YtddalpglihhipaaGreat
open Go.RowKit

theorem OOwns.between {w w' : World} {base : Nat} {ao : Option Addr} {n cap : Nat} {l : List OI} (h : OOwns w base ao n cap l) {B E : Nat} (hb : Between B E w w') (hE : E ≤ base) : OOwns w' base ao n cap l :=
 ⟨hb.own h.row hE, fun x hx => ⟨hb.own (h.item x hx).z hE, (h.item x hx).zb⟩, h.apart⟩

theorem own_cells {w w' : World} {base k : Nat} {e : TypeId} {v : Value} {n : Nat} {xs : List Value} (h : w.ownsRow base e k v n xs) (hk : ∀ (Y : Nat) (cs : Array Value), w.heap[Y]? = some (.cells cs e) → w'.heap[Y]? = some (.cells cs e)) : w'.ownsRow base e k v n xs := by
 obtain ⟨hl, h0 | ⟨g, cap, cur, rfl, hg, hh, r⟩⟩ := h
 ·exact ⟨hl, .inl h0⟩
 ·exact ⟨hl, .inr ⟨g, cap, cur, rfl, hg, hk g cur hh, r⟩⟩

theorem OOwns.other {w w' : World} {base : Nat} {ao : Option Addr} {n cap : Nat} {l : List OI} (h : OOwns w base ao n cap l)
  (hk : ∀ (Y : Nat) (cs : Array Value) (T : TypeId), (95 : Nat) ≠ T → (97 : Nat) ≠ T → (100 : Nat) ≠ T → (3 : Nat) ≠ T → w.heap[Y]? = some (.cells cs T) → w'.heap[Y]? = some (.cells cs T)) : OOwns w' base ao n cap l :=
 ⟨own_cells h.row (fun Y cs hY => hk Y cs _ (by decide) (by decide) (by decide) (by decide) hY), fun x hx => ⟨own_cells (h.item x hx).z (fun Y cs hY => hk Y cs _ (by decide) (by decide) (by decide) (by decide) hY), (h.item x hx).zb⟩, h.apart⟩

theorem own_outs {w w' : World} {base k : Nat} {e : TypeId} {v : Value} {n : Nat} {xs : List Value} (h : w.ownsRow base e k v n xs) {base' : Nat} {ao : Option Addr} {n' cap : Nat} {l : List OI} (o : OOwns w base' ao n' cap l) (ho : Only (allO ao l) w w') (h1 : (e : Nat) ≠ 48) (h2 : (e : Nat) ≠ 5) : w'.ownsRow base e k v n xs :=
 ho.own h (fun b hb hc => by
  rcases List.mem_append.1 hc with hc | hc
  ·exact apart_type h o.row h1 hb (mem_blkL.2 hc)
  ·obtain ⟨y, hy, hc⟩ := List.mem_flatMap.1 hc
   exact apart_type h (o.item y hy).z h2 hb (mem_blkL.2 hc))

theorem BrOwn.outs {w w' : World} {base : Nat} {a : Option Addr} {n c : Nat} {fa : Option Addr} {fn fc : Nat} {ra : Option Addr} {rn rc : Nat} {oa : Option Addr} {on oc : Nat} {B : BR} (h : BrOwn w base a n c fa fn fc ra rn rc oa on oc B) {base' : Nat} {ao : Option Addr} {n' cap : Nat} {l : List OI} (o : OOwns w base' ao n' cap l) (ho : Only (allO ao l) w w') : BrOwn w' base a n c fa fn fc ra rn rc oa on oc B :=
 ⟨own_outs h.ports o ho (by decide) (by decide), own_outs h.f o ho (by decide) (by decide), ⟨own_outs h.v.rows o ho (by decide) (by decide), own_outs h.v.own o ho (by decide) (by decide), h.v.i64⟩⟩

theorem OOwns.aged {w w' : World} {base : Nat} {ao : Option Addr} {n cap : Nat} {l : List OI} (h : OOwns w base ao n cap l) {a : Option Addr} {m c : Nat} (hg : w.grownBy w' (Value.slice a m c).ownBlock) (hlt : ∀ b, (Value.slice a m c).ownBlock = some b → b < base) : OOwns w' base ao n cap l :=
 h.only (Only.of_grown hg) (fun b hb hc => by have h1 := (h.blk b hb).1; have h2 := hlt b (mem_blkL.2 hc); omega)

theorem OOwns.rows {w : World} {base : Nat} {ao : Option Addr} {n cap : Nat} {l : List OI} (h : OOwns w base ao n cap l) : ∀ x ∈ l, Row w x.a x.n x.c x.z := fun x hx => (h.item x hx).row

theorem outs_sizes {w : World} {base : Nat} {ao : Option Addr} {n cap : Nat} {l : List OI} (h : OOwns w base ao n cap l) {B : BR} {port d s t : Int} {m : Nat} {z : List Int} (hm : l.map OI.v = fwdO B port d s t m z) (hz : z.length ≤ 1048576) : n + bulkO l ≤ 67108864 ∧ ∀ x ∈ l, x.n ≤ 16777216 := by
 have hl : l.length ≤ 6 := by have := fwdO_len B port d s t m z; rw [← hm, List.length_map] at this; exact this
 have hx : ∀ x ∈ l, x.n ≤ 1048576 := by
  intro x hx
  have h1 := (h.item x hx).row.size
  have h2 : x.v ∈ fwdO B port d s t m z := by rw [← hm]; exact List.mem_map_of_mem hx
  have h3 : x.z = z := fwdO_z B port d s t m z _ h2
  rw [h3] at h1
  omega
 have hb : ∀ (k : List OI), (∀ x ∈ k, x.n ≤ 1048576) → bulkO k ≤ k.length * 1048576 := by
  intro k
  induction k with
  | nil => intro _; simp [bulkO]
  | cons y r ih =>
   intro hk
   have := ih (fun x hx => hk x (List.mem_cons_of_mem _ hx))
   have := hk y (List.mem_cons_self ..)
   rw [bulkO_cons, List.length_cons]
   omega
 have := hb l hx
 have hs := h.size
 exact ⟨by omega, fun x hx' => by have := hx x hx'; omega⟩

set_option maxRecDepth 100000 in
set_option maxHeartbeats 4000000 in
theorem implLet_any (a : Option Addr) (n c : Nat) (fa : Option Addr) (fn fc : Nat) (ra : Option Addr) (rn rc : Nat) (oa : Option Addr) (on oc : Nat) (B : BR) (k : Nat) (t : Int) (w : World) (h : BrRow w a n c fa fn fc ra rn rc oa on oc B) (hRv : ∀ r ∈ B.v.rows, r.Rng) (hon : on ≤ 8) (hk : k ≤ 7) :
  Calls Tryz.prog 43 #[.agg #[.int .i64 B.id, .string B.name, .slice a n c, .slice fa fn fc, .slice ra rn rc, .slice oa on oc, .int .i64 B.ticks, .int .i64 B.parse, .int .i64 B.word, .int .i64 B.drops, .int .i64 B.vers], .int .i64 k, .int .i64 t] w fun e w' => e = .returned (.tuple #[.int .i64 (classOf B.v (k : Int) t).1, .bool (letB B (k : Int) t)]) ∧ Below w.heap.size w w' := by
 generalize hL : letB B (k : Int) t = LB
 generalize hci : (classOf B.v (k : Int) t).1 = id
 generalize hcq : (classOf B.v (k : Int) t).2 = q
 have HL : Hid (LB = (bitOf (sendsOf B.id B.ports) (k : Int) && q)) := hide (by rw [← hL, ← hcq]; rfl)
 have HCI := hide hci
 have HCQ := hide hcq
 clear hL hci hcq
 generalize hw1 : w.alloc (Obj.cells #[.int .i64 B.id, .string B.name, .slice a n c, .slice fa fn fc, .slice ra rn rc, .slice oa on oc, .int .i64 B.ticks, .int .i64 B.parse, .int .i64 B.word, .int .i64 B.drops, .int .i64 B.vers] 31) = w1
 have b01 : Below w.heap.size w w1 := by rw [← hw1]; exact below_one _ _
 have kB : w1.heap[w.heap.size]? = some (.cells #[.int .i64 B.id, .string B.name, .slice a n c, .slice fa fn fc, .slice ra rn rc, .slice oa on oc, .int .i64 B.ticks, .int .i64 B.parse, .int .i64 B.word, .int .i64 B.drops, .int .i64 B.vers] 31) := by rw [← hw1]; exact block_last _ _
 obtain ⟨x0, x1, x2, x3, x4, x5, x6, x7, x8, x9, x10⟩ := cells11 kB
 go_enter Tryz.func43, Tryz.ntmps43
 go_wp2_with fail
 refine (implClassOf_any ra rn rc oa on oc B.v (k : Int) t _ (h.v.below b01) hRv hon).mono ?_
 rintro e w2 ⟨rfl, hb2⟩
 have kB := kept_block kB hb2
 have u2 := gr_trans b01 hb2
 clear x0 x1 x2 x3 x4 x5 x6 x7 x8 x9 x10 hb2 hw1 b01
 obtain ⟨x0, x1, x2, x3, x4, x5, x6, x7, x8, x9, x10⟩ := cells11 kB
 rw [HCI.out, HCQ.out]
 cases q
 ·go_wp2
  refine bodyPost_ret (v := .tuple #[.int .i64 id, .bool false]) (by simp [results, Tryz.results43, go_sem, *]) rfl ⟨(by rw [HL.out, Bool.and_false]), u2⟩
 ·go_wp2_with fail
  refine (implSends_any B.id a n c B.ports _ (h.ports.below u2)).mono ?_
  rintro e w3 ⟨rfl, hb3⟩
  have u3 := gr_trans u2 hb3
  clear hb3
  go_wp2_with fail
  refine (implHasPort_any (sendsOf B.id B.ports) (k : Int) (by omega) _).mono ?_
  rintro e w4 ⟨rfl, e4⟩
  obtain rfl := e4.symm
  rw [hasP_same (sends_i64 _ _) (.inl (by omega))]
  generalize hb : bitOf (sendsOf B.id B.ports) (k : Int) = bb
  have HL2 : Hid (LB = bb) := hide (by rw [HL.out, hb, Bool.and_true])
  clear x0 x1 x2 x3 x4 x5 x6 x7 x8 x9 x10 hb
  go_wp2
  refine bodyPost_ret (v := .tuple #[.int .i64 id, .bool bb]) (by simp [results, Tryz.results43, go_sem, *]) rfl ⟨(by rw [HL2.out]), u3⟩

set_option maxRecDepth 100000 in
set_option maxHeartbeats 4000000 in
theorem implWays_any (a : Option Addr) (n c : Nat) (fa : Option Addr) (fn fc : Nat) (ra : Option Addr) (rn rc : Nat) (oa : Option Addr) (on oc : Nat) (B : BR) (k : Nat) (id d : Int) (w : World) (h : BrRow w a n c fa fn fc ra rn rc oa on oc B) (hF : fdbOk B.f = true) (hfn : fn ≤ 16777216) (hk : k ≤ 7) :
  Calls Tryz.prog 47 #[.agg #[.int .i64 B.id, .string B.name, .slice a n c, .slice fa fn fc, .slice ra rn rc, .slice oa on oc, .int .i64 B.ticks, .int .i64 B.parse, .int .i64 B.word, .int .i64 B.drops, .int .i64 B.vers], .int .i64 k, .int .i64 id, .int .i64 d] w fun e w' => e = .returned (.int .i64 (waysB B k id d B.f)) ∧ Below w.heap.size w w' := by
 have hlk := look_rng hF id d
 generalize hWB : waysB B k id d B.f = WB
 have HWB : Hid (WB = if 0 ≤ toB B.f id d then bits .and .i64 (mayB B k id) (2 ^ (toB B.f id d).toNat) else mayB B k id) := hide (by rw [← hWB]; rfl)
 clear hWB
 generalize hw1 : w.alloc (Obj.cells #[.int .i64 B.id, .string B.name, .slice a n c, .slice fa fn fc, .slice ra rn rc, .slice oa on oc, .int .i64 B.ticks, .int .i64 B.parse, .int .i64 B.word, .int .i64 B.drops, .int .i64 B.vers] 31) = w1
 have b01 : Below w.heap.size w w1 := by rw [← hw1]; exact below_one _ _
 have kB : w1.heap[w.heap.size]? = some (.cells #[.int .i64 B.id, .string B.name, .slice a n c, .slice fa fn fc, .slice ra rn rc, .slice oa on oc, .int .i64 B.ticks, .int .i64 B.parse, .int .i64 B.word, .int .i64 B.drops, .int .i64 B.vers] 31) := by rw [← hw1]; exact block_last _ _
 have hw2 := kind_pow k hk
 have k0 : ¬ (k : Int) < 0 := by omega
 have k1 : (0 : Int) ≤ (k : Int) := by omega
 have vv : Below w1.heap.size w1 w1.drew := gr_drew (Below.refl _ _)
 go_enter Tryz.func47, Tryz.ntmps47
 go_wp2_with fail
 try rw [hw1]
 clear hw1
 refine wp_region_held_drew (S := (fun W => (W.cell? ⟨w.heap.size, 0, none⟩ = some (.int .i64 B.id) ∧ W.cell? ⟨w.heap.size, 1, none⟩ = some (.string B.name) ∧ W.cell? ⟨w.heap.size, 2, none⟩ = some (.slice a n c) ∧ W.cell? ⟨w.heap.size, 3, none⟩ = some (.slice fa fn fc) ∧ W.cell? ⟨w.heap.size, 4, none⟩ = some (.slice ra rn rc) ∧ W.cell? ⟨w.heap.size, 5, none⟩ = some (.slice oa on oc) ∧ W.cell? ⟨w.heap.size, 6, none⟩ = some (.int .i64 B.ticks) ∧ W.cell? ⟨w.heap.size, 7, none⟩ = some (.int .i64 B.parse) ∧ W.cell? ⟨w.heap.size, 8, none⟩ = some (.int .i64 B.word) ∧ W.cell? ⟨w.heap.size, 9, none⟩ = some (.int .i64 B.drops) ∧ W.cell? ⟨w.heap.size, 10, none⟩ = some (.int .i64 B.vers)))) (by kernel_rfl) (cells11 (kept_block kB vv)) (fun hHeld => ?_)
 refine tK (v := ?_) 0 ⟨some 11, .fieldAddr 31 (.tmp 4) 0, 0, "l12_forward.go:49", #[], none⟩ ?_ ?_
 rotate_left
 ·(intro _ h; (try dsimp only at h); go_simp; try with_reducible rfl)
 simp only [Act.put, lA, lB, lC]
 refine tK (v := ?_) 1 ⟨some 12, .load 3 (.tmp 11), 3, "l12_forward.go:49", #[⟨0, .data⟩], none⟩ ?_ ?_
 rotate_left
 ·(intro _ h; (try dsimp only at h); go_simp; try with_reducible rfl)
 simp only [Act.put, lA, lB, lC]
 refine tK (v := ?_) 2 ⟨some 13, .fieldAddr 31 (.tmp 4) 2, 0, "l12_forward.go:49", #[], none⟩ ?_ ?_
 rotate_left
 ·(intro _ h; (try dsimp only at h); go_simp; try with_reducible rfl)
 simp only [Act.put, lA, lB, lC]
 refine tK (v := ?_) 3 ⟨some 14, .load 24 (.tmp 13), 24, "l12_forward.go:49", #[⟨2, .data⟩], none⟩ ?_ ?_
 rotate_left
 ·(intro _ h; (try dsimp only at h); go_simp; try with_reducible rfl)
 simp only [Act.put, lA, lB, lC]
 refine tK (v := ?_) 5 ⟨some 16, .fieldAddr 31 (.tmp 4) 4, 0, "l12_forward.go:49", #[], none⟩ ?_ ?_
 rotate_left
 ·(intro _ h; (try dsimp only at h); go_simp; try with_reducible rfl)
 simp only [Act.put, lA, lB, lC]
 refine tK (v := ?_) 6 ⟨some 17, .load 29 (.tmp 16), 29, "l12_forward.go:49", #[⟨5, .data⟩], none⟩ ?_ ?_
 rotate_left
 ·(intro _ h; (try dsimp only at h); go_simp; try with_reducible rfl)
 simp only [Act.put, lA, lB, lC]
 refine tK (v := ?_) 7 ⟨some 18, .move (.tmp 2), 3, "l12_forward.go:49", #[], none⟩ ?_ ?_
 rotate_left
 ·(intro _ h; (try dsimp only at h); go_simp; try with_reducible rfl)
 simp only [Act.put, lA, lB, lC]
 refine tK (v := ?_) 10 ⟨some 21, .move (.tmp 1), 3, "l12_forward.go:49", #[], none⟩ ?_ ?_
 rotate_left
 ·(intro _ h; (try dsimp only at h); go_simp; try with_reducible rfl)
 simp only [Act.put, lA, lB, lC]
 refine wpAnyH_take (i := 11) (oi := ⟨some 22, .binOp .shl 3 (.const (.int .i64 1)) (.tmp 21) 3, 3, "l12_forward.go:49", #[⟨10, .data⟩], none⟩) (v := .int .i64 (2 ^ k)) rfl (by kernel_rfl) (by kernel_rfl) (by kernel_rfl) (fun _ _ _ h => h) (Or.inl ⟨by rfl, ?_⟩) (by assumption) ?_
 ·(intro wY hSw; (try dsimp only at hSw); go_simp; first | done | omega)
 simp only [Act.put, lA, lB, lC]
 refine tR [4] ?_
 refine AllReadyH.cons (o := ⟨some 15, .call ⟨.value (.func 14), #[.tmp 12, .tmp 14], #[3, 24]⟩, 3, "l12_forward.go:49", #[⟨1, .data⟩, ⟨3, .data⟩], none⟩) rfl (fun K hK => ?_) ?_
 ·go_simp
  refine (implSends_any B.id a n c B.ports _ (h.ports.below (gr_trans b01 vv))).mono ?_
  rintro e wt ⟨rfl, hbt⟩
  have vv := gr_trans vv hbt
  clear hbt
  go_wp2_with fail
  refine hK.out _ _ (cells11 (kept_block kB vv)) (fun hHeld => ?_)
  clear hK K
  try simp only [Act.put, lA, lB, lC]
  refine tR [8] ?_
  refine AllReadyH.cons (o := ⟨some 19, .call ⟨.value (.func 17), #[.tmp 17, .tmp 18], #[29, 3]⟩, 3, "l12_forward.go:49", #[⟨6, .data⟩, ⟨7, .data⟩, ⟨4, .chain⟩], none⟩) rfl (fun K hK => ?_) ?_
  ·go_simp
   refine (implEgress_any ra rn rc oa on oc B.v id _ (h.v.rows.below (gr_trans b01 vv))).mono ?_
   rintro e wt ⟨rfl, hbt⟩
   have vv := gr_trans vv hbt
   clear hbt
   go_wp2_with fail
   refine hK.out _ _ (cells11 (kept_block kB vv)) (fun hHeld => ?_)
   clear hK K
   try simp only [Act.put, lA, lB, lC]
   refine tK (v := ?_) 9 ⟨some 20, .binOp .and 3 (.tmp 15) (.tmp 19) 3, 3, "l12_forward.go:49", #[⟨4, .data⟩, ⟨8, .data⟩], none⟩ ?_ ?_
   rotate_left
   ·(intro _ h; (try dsimp only at h); go_simp; try with_reducible rfl)
   simp only [Act.put, lA, lB, lC]
   refine tK (v := ?_) 12 ⟨some 23, .binOp .andNot 3 (.tmp 20) (.tmp 22) 3, 3, "l12_forward.go:49", #[⟨9, .data⟩, ⟨11, .data⟩], none⟩ ?_ ?_
   rotate_left
   ·(intro _ h; (try dsimp only at h); go_simp; try with_reducible rfl)
   simp only [Act.put, lA, lB, lC]
   refine tK (v := ?_) 13 ⟨some 9, .assign (.tmp 23), 3, "l12_forward.go:49", #[⟨12, .data⟩, ⟨8, .chain⟩, ⟨0, .phase⟩, ⟨1, .phase⟩, ⟨2, .phase⟩, ⟨3, .phase⟩, ⟨4, .phase⟩, ⟨5, .phase⟩, ⟨6, .phase⟩, ⟨7, .phase⟩, ⟨8, .phase⟩, ⟨9, .phase⟩, ⟨10, .phase⟩, ⟨11, .phase⟩, ⟨12, .phase⟩], none⟩ ?_ ?_
   rotate_left
   ·(intro _ h; (try dsimp only at h); go_simp; try with_reducible rfl)
   simp only [Act.put, lA, lB, lC]
   refine wpAnyH_done (by kernel_rfl) ?_ _
   clear hHeld
   rw [show bits .andNot .i64 (bits .and .i64 (sendsOf B.id B.ports) (egressOf B.v id)) (2 ^ k) = mayB B k id from rfl]
   have u3 := gr_trans b01 vv
   have kB := kept_block kB vv
   clear vv
   obtain ⟨x0, x1, x2, x3, x4, x5, x6, x7, x8, x9, x10⟩ := cells11 kB
   have HTO : Hid (toB B.f id d = if d = 0 then -1 else lookUp B.f id d) := hide rfl
   go_wp2_with fail
   refine (implLookUp_all fa fn fc B.f id d _ (h.f.below u3) hfn).mono ?_
   rintro e w4 ⟨rfl, hb4⟩
   have HU := hide (gr_trans u3 hb4)
   clear x0 x1 x2 x3 x4 x5 x6 x7 x8 x9 x10 hb4 u3 kB
   generalize mayB B k id = M at *
   generalize toB B.f id d = T at *
   generalize lookUp B.f id d = lk at *
   by_cases hd : d = 0
   ·have e2 : WB = M := by rw [HWB.out, HTO.out, if_pos hd]; rfl
    have HE := hide e2
    clear e2
    go_wp2
    all_goals go_ret
    all_goals exact ⟨by rw [HE.out]; rfl, HU.out⟩
   ·by_cases hl : 0 ≤ lk
    ·obtain ⟨t, rfl⟩ : ∃ t : Nat, lk = (t : Int) := ⟨lk.toNat, by omega⟩
     have ht7 : t ≤ 7 := by omega
     have e2 : WB = bits .and .i64 M (2 ^ t) := by rw [HWB.out, HTO.out, if_neg hd, if_pos hl]; rfl
     have HE := hide e2
     have HW2 := hide (wrap_pow t ht7)
     clear e2
     go_wp2
     all_goals go_ret
     all_goals exact ⟨by rw [HE.out, HW2.out]; rfl, HU.out⟩
    ·have e2 : WB = M := by rw [HWB.out, HTO.out, if_neg hd, if_neg hl]
     have HE := hide e2
     clear e2
     go_wp2
     all_goals go_ret
     all_goals exact ⟨by rw [HE.out]; rfl, HU.out⟩
  exact AllReadyH.nil
 exact AllReadyH.nil

theorem cells12 {w : World} {g : Nat} {T : TypeId} {c0 c1 c2 c3 c4 c5 c6 c7 c8 c9 c10 c11 : Value} (h : w.heap[g]? = some (.cells #[c0, c1, c2, c3, c4, c5, c6, c7, c8, c9, c10, c11] T)) :
  w.cell? ⟨g, 0, none⟩ = some c0 ∧ w.cell? ⟨g, 1, none⟩ = some c1 ∧ w.cell? ⟨g, 2, none⟩ = some c2 ∧ w.cell? ⟨g, 3, none⟩ = some c3 ∧ w.cell? ⟨g, 4, none⟩ = some c4 ∧ w.cell? ⟨g, 5, none⟩ = some c5 ∧ w.cell? ⟨g, 6, none⟩ = some c6 ∧ w.cell? ⟨g, 7, none⟩ = some c7 ∧ w.cell? ⟨g, 8, none⟩ = some c8 ∧ w.cell? ⟨g, 9, none⟩ = some c9 ∧ w.cell? ⟨g, 10, none⟩ = some c10 ∧ w.cell? ⟨g, 11, none⟩ = some c11 := by
 simp [World.cell?, h]

structure IbSt (w wr : World) (R X : Nat) (zs cs : Array Value) (TR TX : TypeId) : Prop where
 box : wr.heap[X]? = some (.cells cs TX)
 res : wr.heap[R]? = some (.cells zs TR)
 below : Below w.heap.size w wr
 hX : w.heap.size ≤ X
 hR : w.heap.size ≤ R
 ne : R ≠ X

theorem IbSt.later {w wr wx : World} {R X : Nat} {zs cs : Array Value} {TR TX : TypeId} (h : IbSt w wr R X zs cs TR TX) (hb : Below wr.heap.size wr wx) : IbSt w wx R X zs cs TR TX :=
 ⟨kept_block h.box hb, kept_block h.res hb, gr_trans h.below hb, h.hX, h.hR, h.ne⟩

theorem IbSt.put {w wr : World} {R X : Nat} {zs cs : Array Value} {TR TX : TypeId} (h : IbSt w wr R X zs cs TR TX) (j : Nat) (u : Value) {cs' : Array Value} (he : cs.setIfInBounds j u = cs') : IbSt w (wr.setCell ⟨X, j, none⟩ u) R X zs cs' TR TX :=
 ⟨by rw [← he]; exact box11 h.box j u, kept_set h.res h.ne, below_set h.below h.hX j u, h.hX, h.hR, h.ne⟩

theorem IbSt.grown {w wr wx : World} {R X : Nat} {zs cs : Array Value} {TR TX : TypeId} (h : IbSt w wr R X zs cs TR TX) {base k : Nat} {e : TypeId} {v : Value} {n : Nat} {ys : List Value} (ho : wr.ownsRow base e k v n ys) (h1 : (e : Nat) ≠ TX) (h2 : (e : Nat) ≠ TR) (hg : wr.grownBy wx v.ownBlock) (hb : Below w.heap.size wr wx) : IbSt w wx R X zs cs TR TX :=
 ⟨kept_grown h.box hg (fun i e => box_ne ho h.box h1 i e), kept_grown h.res hg (fun i e => box_ne ho h.res h2 i e), h.below.trans hb, h.hX, h.hR, h.ne⟩

theorem IbSt.stay {w wr : World} {R X : Nat} {zs cs : Array Value} {TR TX : TypeId} (h : IbSt w wr R X zs cs TR TX) {base k : Nat} {e : TypeId} {v : Value} {n : Nat} {ys : List Value} (ho : wr.ownsRow base e k v n ys) (hne : (e : Nat) ≠ TX) (j : Nat) (u : Value) : (wr.setCell ⟨X, j, none⟩ u).ownsRow base e k v n ys :=
 gown_other ho (grown_set (rb := X) j u) (box_ne ho h.box hne)

theorem BrOwn.other {w : World} {base : Nat} {a : Option Addr} {n c : Nat} {fa : Option Addr} {fn fc : Nat} {ra : Option Addr} {rn rc : Nat} {oa : Option Addr} {on oc : Nat} {B : BR} (h : BrOwn w base a n c fa fn fc ra rn rc oa on oc B) {X : Nat} {cs : Array Value} {T : TypeId} (hX : w.heap[X]? = some (.cells cs T)) (h1 : (95 : Nat) ≠ T) (h2 : (97 : Nat) ≠ T) (h3 : (100 : Nat) ≠ T) (h4 : (3 : Nat) ≠ T) (j : Nat) (u : Value) : BrOwn (w.setCell ⟨X, j, none⟩ u) base a n c fa fn fc ra rn rc oa on oc B :=
 ⟨gown_other h.ports (grown_set (rb := X) j u) (box_ne h.ports hX h1), gown_other h.f (grown_set (rb := X) j u) (box_ne h.f hX h2),
  ⟨gown_other h.v.rows (grown_set (rb := X) j u) (box_ne h.v.rows hX h3), gown_other h.v.own (grown_set (rb := X) j u) (box_ne h.v.own hX h4), h.v.i64⟩⟩

set_option maxRecDepth 100000 in
set_option maxHeartbeats 400000 in
theorem implOne_any (n : Int) (w : World) (h : n ≤ 1000000) (h0 : 0 ≤ n) :
  Calls Tryz.prog 44 #[.int .i64 n] w fun e w' => e = .returned (.int .i64 (oneMore n)) ∧ w' = w := by
 by_cases h1 : n ≥ 1000000
 ·have e : n = 1000000 := by omega
  subst e
  rw [show oneMore 1000000 = 1000000 from rfl]
  go_enter Tryz.func44, Tryz.ntmps44
  go_wp2
  go_ret
  exact ⟨rfl, rfl⟩
 ·rw [show oneMore n = n + 1 from if_neg h1]
  have h1' : min (n + 1) (1000000 : Int) = n + 1 := by omega
  go_enter Tryz.func44, Tryz.ntmps44
  go_wp2
  go_ret
  exact ⟨rfl, rfl⟩

set_option maxRecDepth 100000 in
set_option maxHeartbeats 400000 in
theorem implHas_any (a : Option Addr) (n c : Nat) (port : Int) (w : World) (hn : n ≤ 137438953472) :
  Calls Tryz.prog 40 #[.slice a n c, .int .i64 port] w fun e w' => e = .returned (.bool (decide (0 ≤ port) && decide (port ≤ (n : Int) - 1))) ∧ w' = w := by
 go_enter Tryz.func40, Tryz.ntmps40
 go_wp2_with fail
 refine (implIn_any port 0 ((n : Int) - 1) _).mono ?_
 rintro r w3 ⟨rfl, ew⟩
 obtain rfl := ew.symm
 go_wp2
 go_ret
 exact ⟨rfl, rfl⟩

set_option maxRecDepth 100000 in
set_option maxHeartbeats 2000000 in
theorem implFace_any (a : Option Addr) (n c : Nat) (fa : Option Addr) (fn fc : Nat) (ra : Option Addr) (rn rc : Nat) (oa : Option Addr) (on oc : Nat) (B : BR) (w : World) :
  Calls Tryz.prog 42 #[.agg #[.slice a n c, .int .i64 B.id, .string B.name, .slice none 0 0, .slice fa fn fc, .slice ra rn rc, .slice oa on oc, .int .i64 B.ticks, .int .i64 B.parse, .int .i64 B.word, .int .i64 B.drops, .int .i64 B.vers]] w fun e w' => e = .returned (.agg #[.int .i64 B.id, .string B.name, .slice a n c, .slice fa fn fc, .slice ra rn rc, .slice oa on oc, .int .i64 B.ticks, .int .i64 B.parse, .int .i64 B.word, .int .i64 B.drops, .int .i64 B.vers]) ∧ Below w.heap.size w w' := by
 generalize hw1 : w.alloc (Obj.cells #[.slice a n c, .int .i64 B.id, .string B.name, .slice none 0 0, .slice fa fn fc, .slice ra rn rc, .slice oa on oc, .int .i64 B.ticks, .int .i64 B.parse, .int .i64 B.word, .int .i64 B.drops, .int .i64 B.vers] 78) = w1
 generalize hw2 : w1.alloc (Obj.cells #[.int .i64 0, .string ⟨#[]⟩, .slice none 0 0, .slice none 0 0, .slice none 0 0, .slice none 0 0, .int .i64 0, .int .i64 0, .int .i64 0, .int .i64 0, .int .i64 0] 31) = w2
 generalize hw3 : w2.alloc (Obj.cells #[.int .i64 B.id, .string B.name, .slice none 0 0, .slice fa fn fc, .slice ra rn rc, .slice oa on oc, .int .i64 B.ticks, .int .i64 B.parse, .int .i64 B.word, .int .i64 B.drops, .int .i64 B.vers] 31) = w3
 have b01 : Below w.heap.size w w1 := by rw [← hw1]; exact below_one _ _
 have b12 : Below w1.heap.size w1 w2 := by rw [← hw2]; exact below_one _ _
 have b23 : Below w2.heap.size w2 w3 := by rw [← hw3]; exact below_one _ _
 have z1 : w.heap.size < w1.heap.size := by rw [← hw1]; simp
 have z2 : w1.heap.size < w2.heap.size := by rw [← hw2]; simp
 have k1 : w1.heap[w.heap.size]? = some (.cells #[.slice a n c, .int .i64 B.id, .string B.name, .slice none 0 0, .slice fa fn fc, .slice ra rn rc, .slice oa on oc, .int .i64 B.ticks, .int .i64 B.parse, .int .i64 B.word, .int .i64 B.drops, .int .i64 B.vers] 78) := by rw [← hw1]; exact block_last _ _
 have kA := kept_block (kept_block k1 b12) b23
 obtain ⟨x0, x1, x2, x3, x4, x5, x6, x7, x8, x9, x10, x11⟩ := cells12 (kept_block k1 b12)
 have st : BcSt w w3 w1.heap.size w2.heap.size #[.int .i64 B.id, .string B.name, .slice none 0 0, .slice fa fn fc, .slice ra rn rc, .slice oa on oc, .int .i64 B.ticks, .int .i64 B.parse, .int .i64 B.word, .int .i64 B.drops, .int .i64 B.vers] := ⟨by rw [← hw3]; exact block_last _ _, kept_block (by rw [← hw2]; exact block_last _ _) b23, gr_trans (gr_trans b01 b12) b23, by omega, Nat.le_of_lt z1, Nat.ne_of_lt z2⟩
 have nAX : ¬ w.heap.size = w2.heap.size := by omega
 have nXA : ¬ w2.heap.size = w.heap.size := by omega
 have nRX : ¬ w1.heap.size = w2.heap.size := by omega
 have nXR : ¬ w2.heap.size = w1.heap.size := by omega
 clear z1 z2 b01 b12 b23 k1
 go_enter Tryz.func42, Tryz.ntmps42
 go_upto_region 2 with fail
 clear x0 x1 x2 x3 x4 x5 x6 x7 x8 x9 x10 x11
 try rw [hw3]
 clear hw1 hw2 hw3
 generalize hX : w2.heap.size = X at *
 generalize hR : w1.heap.size = R at *
 have st5 := st.put 2 (.slice a n c) (cs' := #[.int .i64 B.id, .string B.name, .slice a n c, .slice fa fn fc, .slice ra rn rc, .slice oa on oc, .int .i64 B.ticks, .int .i64 B.parse, .int .i64 B.word, .int .i64 B.drops, .int .i64 B.vers]) rfl
 have HB := hide (below_set11 st5.below st5.hR (.int .i64 B.id) (.string B.name) (.slice a n c) (.slice fa fn fc) (.slice ra rn rc) (.slice oa on oc) (.int .i64 B.ticks) (.int .i64 B.parse) (.int .i64 B.word) (.int .i64 B.drops) (.int .i64 B.vers))
 obtain ⟨x0, x1, x2, x3, x4, x5, x6, x7, x8, x9, x10, x11⟩ := cells12 kA
 obtain ⟨y0, y1, y2, y3, y4, y5, y6, y7, y8, y9, y10⟩ := cells11 st.box
 obtain ⟨u0, u1, u2, u3, u4, u5, u6, u7, u8, u9, u10⟩ := cells11 st.res
 have g2 := frozen8 st.box 2
 have fr := frozen8 st.res
 have fr0 := fr 0
 have fr1 := fr 1
 have fr2 := fr 2
 have fr3 := fr 3
 have fr4 := fr 4
 have fr5 := fr 5
 have fr6 := fr 6
 have fr7 := fr 7
 have fr8 := fr 8
 have fr9 := fr 9
 have fr10 := fr 10
 clear fr st st5 kA
 go_wp2
 exact bodyPost_ret (v := .agg #[.int .i64 B.id, .string B.name, .slice a n c, .slice fa fn fc, .slice ra rn rc, .slice oa on oc, .int .i64 B.ticks, .int .i64 B.parse, .int .i64 B.word, .int .i64 B.drops, .int .i64 B.vers]) (by simp [results, Tryz.results42, go_sem, *]) rfl ⟨rfl, HB.out⟩

set_option maxRecDepth 100000 in
set_option maxHeartbeats 1000000 in
theorem cloneP_any (ao : Option Addr) (n cap : Nat) (l : List PT) (w : World) (h : GRow ptF w ao n cap l) (hn : n ≤ 16777216) :
  Calls Tryz.prog 106 #[.slice ao n cap] w fun r w' => ∃ ao' cap', r = .returned (.slice ao' n cap') ∧ w'.ownsRow w.heap.size 95 8 (.slice ao' n cap') n (ptF.all l) ∧ Below w.heap.size w w' := by
 cases ao with
 | none =>
  have hc0 := h.nil rfl
  have hn0 : n = 0 := by have := h.le; omega
  subst hc0 hn0
  have hl : l = [] := List.eq_nil_of_length_eq_zero h.size
  subst hl
  have heq : ∀ W, (binOp .eql 24 (.slice none 0 0) (.slice none 0 0)).run Tryz.prog W = .ok (.bool true) W := fun _ => by kernel_rfl
  go_enter Tryz.func106, Tryz.ntmps106
  go_wp2
  go_ret
  exact ⟨none, 0, rfl, World.ownsRow_nil _ _ _ _, Below.refl _ _⟩
 | some a =>
  have heq : ∀ W, (binOp .eql 24 (.slice (some a) n cap) (.slice none 0 0)).run Tryz.prog W = .ok (.bool false) W := fun _ => by kernel_rfl
  go_enter Tryz.func106, Tryz.ntmps106
  go_wp2_with (at_builtin; refine pt_append _ rfl _ _ rfl w.heap.size _ 0 [] rfl (flat_nil ptF w _ 95 w.heap.size (block_last w _) (Nat.le_refl _)) (some a) n cap l rfl (h.below (below_one _ _)) (by omega) (by simp) ?_)
  intro ao' cap' w' how hr hgr hb
  have how : w'.ownsRow w.heap.size 95 8 (.slice ao' n cap') n (ptF.all l) := by simpa using how
  have HO := hide how
  have HB := hide ((below_one w _).trans hb)
  clear how hgr hb hr
  go_wp2
  go_ret
  exact ⟨ao', cap', (by simp), HO.out, HB.out⟩

section
open Go.RowKit Go.Maps

def fkF : Flat FK where
 k := 3
 cs := fun k => [.int .i64 k.1, .int .i64 k.2.1, .int .i64 k.2.2]
 len := fun _ => rfl
 pos := by decide
 one := fun _ v hv => by
  simp only [List.mem_cons, List.not_mem_nil, or_false] at hv
  rcases hv with rfl | rfl | rfl <;> rfl

theorem wf_of {n : Int} (h : -9223372036854775808 ≤ n ∧ n ≤ 9223372036854775807) : (Lit.int .i64 n).wf = true := by
 simp [Lit.wf, IntKind.min, IntKind.max, IntKind.bits, IntKind.signed]
 omega

theorem fk_laid : laidOutB Tryz.prog = true := by kernel_rfl
theorem fk_row : (149 : TypeId) < Tryz.prog.types.size := of_decide_eq_true (by kernel_rfl)
theorem fk_wide : (match Tryz.prog.underlying 149 with | some (.array _ _) | some (.struct _) => true | _ => false) = true := by kernel_rfl
set_option maxRecDepth 100000 in
theorem fk_law : Keyed Tryz.prog 149 := Keyed.of_law (deep_law_laid fk_laid (m := 2) (by omega) fk_row (by kernel_rfl) fk_wide)

def fkV (k : FK) : Value := .agg #[.int .i64 k.1, .int .i64 k.2.1, .int .i64 k.2.2]
def feV (e : FE) : Value := .agg #[.int .i64 e.t, .int .i64 e.m, .int .i64 e.p, .int .i64 e.a, .bool e.s]

theorem fk_key (k : FK) (h : FKok k) : ∃ l, keyOf Tryz.prog 149 (fkV k) = some l := by
 have w1 := wf_of h.1
 have w2 := wf_of h.2.1
 have w3 := wf_of h.2.2
 have h1 : Tryz.prog.keyType 149 = true := by kernel_rfl
 have hc3 : Tryz.prog.cellsOf 149 = 3 := by kernel_rfl
 have hc1 : Tryz.prog.cellsOf 3 = 1 := by kernel_rfl
 have h2 : (fkV k).formed Tryz.prog 149 = true := by simp [fkV, Value.formed, Tryz.underlying149, hc3]
 obtain ⟨q, hq⟩ : ∃ q, Tryz.prog.types.size = q + 1 := ⟨Tryz.prog.types.size - 1, by have : 0 < Tryz.prog.types.size := of_decide_eq_true (by kernel_rfl); omega⟩
 have h3 : Tryz.prog.keyLits (Tryz.prog.types.size + 1) 149 (fkV k).cells.toList = some [.int .i64 k.1, .int .i64 k.2.1, .int .i64 k.2.2] := by
  rw [hq]
  simp [Program.keyLits, fkV, Value.cells, Tryz.underlying149, Tryz.underlying3, hc3, hc1, w1, w2, w3]
 refine ⟨.string (keyBytes [.int .i64 k.1, .int .i64 k.2.1, .int .i64 k.2.2]), ?_⟩
 unfold keyOf
 rw [Tryz.underlying149]
 simp only [h1, h2, h3, Bool.and_self, if_true, Option.map_some]

theorem fkV_inj (a b : FK) (h : fkV a = fkV b) : a = b := by
 obtain ⟨a1, a2, a3⟩ := a
 obtain ⟨b1, b2, b3⟩ := b
 simp [fkV] at h
 obtain ⟨rfl, rfl, rfl⟩ := h
 rfl

def mE : MK Tryz.prog FK FE where
 T := 145
 K := 149
 E := 97
 law := fk_law
 und := Tryz.underlying145
 kv := fkV
 vv := feV
 ok := FKok
 key := fk_key
 inj := fkV_inj
 z := ⟨0, 0, 0, 0, false⟩
 zero := fun _ => by kernel_rfl

def mC : MK Tryz.prog FK Int where
 T := 184
 K := 149
 E := 3
 law := fk_law
 und := Tryz.underlying184
 kv := fkV
 vv := fun n => .int .i64 n
 ok := FKok
 key := fk_key
 inj := fkV_inj
 z := 0
 zero := fun _ => by kernel_rfl

structure TabN (N : Nat) (w : World) (base p bm : Nat) (ks : List FK) (g : FK → Option FE) : Prop where
 box : ∃ ao cap, w.heap[p]? = some (.cells #[.slice ao ks.length cap, .map (some bm)] 147) ∧ w.ownsRow base 149 3 (.slice ao ks.length cap) ks.length (fkF.all ks)
 map : MapIs mE w bm N g
 lp : base ≤ p
 lb : base ≤ bm
 oks : ∀ k ∈ ks, FKok k
 few : ks.length ≤ 16777216

abbrev Tab := TabN 16777216

theorem TabN.below {N : Nat} {w w' : World} {base p bm : Nat} {ks : List FK} {g : FK → Option FE} (h : TabN N w base p bm ks g) (hb : Below w.heap.size w w') : TabN N w' base p bm ks g := by
 obtain ⟨ao, cap, h1, h2⟩ := h.box
 exact ⟨⟨ao, cap, kept_block h1 hb, gown_below h2 hb⟩, h.map.kept hb, h.lp, h.lb, h.oks, h.few⟩

theorem fk_at {w : World} {ao : Option Addr} {len cap : Nat} {l : List FK} (h : GRow fkF w ao len cap l) (i : Nat) (hi : i < len) : ∃ (x : FK) (b off : Nat), l[i]? = some x ∧ ao = some ⟨b, off, none⟩ ∧
  w.cell? ⟨b, off + i * 3, none⟩ = some (.int .i64 x.1) ∧ w.cell? ⟨b, off + i * 3 + 1, none⟩ = some (.int .i64 x.2.1) ∧ w.cell? ⟨b, off + i * 3 + 2, none⟩ = some (.int .i64 x.2.2) := by
 obtain ⟨x, b, off, hx, ha, hc⟩ := h.at i hi
 exact ⟨x, b, off, hx, ha, hc 0 _ rfl, hc 1 _ rfl, hc 2 _ rfl⟩

theorem fkInfo : (Tryz.prog.info? 149).map (fun i => (i.zero, i.size, i.bytes)) = some (some (.agg #[.int .i64 0, .int .i64 0, .int .i64 0]), fkF.k, 24) := by kernel_rfl

set_option maxRecDepth 100000 in
set_option maxHeartbeats 400000 in
theorem firstKey_any (e : FE) (w : World) :
  Calls Tryz.prog 111 #[.agg #[.int .i64 e.t, .int .i64 e.m, .int .i64 e.p, .int .i64 e.a, .bool e.s]] w fun r w' => r = .returned (.agg #[.int .i64 e.t, .int .i64 e.m, .int .i64 0]) ∧ Below w.heap.size w w' := by
 go_enter Tryz.func111, Tryz.ntmps111
 go_wp2
 exact bodyPost_ret (v := .agg #[.int .i64 e.t, .int .i64 e.m, .int .i64 0]) (by simp [results, Tryz.results111, go_sem, *]) rfl ⟨rfl, below_two _ _ _⟩

end

end Go.Proofs.YtddalpglihhipaaGreat
